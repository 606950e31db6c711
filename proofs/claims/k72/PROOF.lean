import PyProof.Rows.All
import Wide.All
import OpenK.AllK
import Wide.FinOn
import HandS.Base
import HandS.Call
import HandS.List
import HandS.Comp
import HandS.Ends
import HandS.Words
import HandS.WordsList
import HandS.IsInst
import HandS.TupAny
import HandS.TupLe
import HandS.Zip
import HandS.Text
import HandS.Iter
import HandS.Wide
import KE.GoesMore
import KE.GoesNew
import KE.KEqNest
import HandS.More
import HandS.Dict
import HandS.DictComp
import HandS.WordsDict
import HandS.TupMul
import HandS.Set
import HandS.SetFor
import HandS.Strs
import HandS.Sort
import HandS.SortRule
import HandS.FStr
import HandS.Flow
import HandS.Deep
import HandS.Style
import KE.KxIndex
import PySem.Challenge.RW_onepolicy_k72_services_and_their_faults
set_option Elab.async false
set_option linter.all false
set_option maxRecDepth 100000
set_option maxHeartbeats 4000000
namespace Toy
open PySem PySem.Spec PyProof.Rows L2
/-! The data layer: readings of the hand layer over plain data. -/
abbrev D := PyData
/-- the state of the law's own draws stands at p, its numbers at c -/
def LSf (xs : List V) (c : Addr) (ns : List Int) : Prop := ∃ k : Int, xs = [.int k, .ref c] ∧ ns ≠ []
def LS (H : Hp) (p c : Addr) : Prop := ∃ (xs : List V) (ns : List Int), H p = some (.lst xs) ∧ H c = some (.lst (ns.map V.int)) ∧ LSf xs c ns
theorem LSf.mem {xs : List V} {c : Addr} {ns : List Int} (h : LSf xs c ns) : V.ref c ∈ xs := by
  obtain ⟨_, rfl, _⟩ := h
  simp
def KTup (K : PySem.W.Frag) (a : Addr) (xs : List V) : Prop := ∃ (o : Obj) (its : Array Value) (n : Nat), K.lookup a = some o ∧ o.cls = .type "tuple" ∧ o.data = .seq its n ∧ its.size ≤ sizeLine ∧ Vals xs its.toList
/-- a tuple at a, not among A -/
def TupAt (K : PySem.W.Frag) (H : Hp) (A : Addr → Prop) (a : Addr) (xs : List V) : Prop := (Rd H a (.tup xs) ∧ ¬ A a) ∨ KTup K a xs
theorem TupAt.sq {K : PySem.W.Frag} {H : Hp} {A : Addr → Prop} {a : Addr} {xs : List V} (h : TupAt K H A a xs) : SqT K H a xs := h.elim (fun z => .inl z.1) .inr
inductive KeyD : D → Key → Prop
  | int (i : Int) : KeyD (.int i) (.inl i)
  | str (s : Str) : KeyD (.str s) (.inr s)
mutual
inductive Rep (K : PySem.W.Frag) (H : Hp) (A : Addr → Prop) : D → V → Prop
  | non : Rep K H A .none .non
  | bl (b : Bool) : Rep K H A (.bool b) (.bl b)
  | int (i : Int) : Rep K H A (.int i) (.int i)
  | str (x : Str) : Rep K H A (.str x) (.str x)
  | lst {a : Addr} {xs : List V} {ds : List D} : H a = some (.lst xs) → ¬ A a → RepL K H A ds xs → Rep K H A (.list ds) (.ref a)
  | tup {a : Addr} {xs : List V} {ds : List D} : TupAt K H A a xs → RepL K H A ds xs → Rep K H A (.tuple ds) (.ref a)
  | dct {a : Addr} {us : List (Key × V)} {kvs : List (D × D)} : H a = some (.dK us) → ¬ A a → RepK K H A kvs us → Rep K H A (.dict kvs) (.ref a)
inductive RepL (K : PySem.W.Frag) (H : Hp) (A : Addr → Prop) : List D → List V → Prop
  | nil : RepL K H A [] []
  | cons {d : D} {v : V} {ds : List D} {vs : List V} : Rep K H A d v → RepL K H A ds vs → RepL K H A (d :: ds) (v :: vs)
inductive RepK (K : PySem.W.Frag) (H : Hp) (A : Addr → Prop) : List (D × D) → List (Key × V) → Prop
  | nil : RepK K H A [] []
  | cons {k d : D} {q : Key} {v : V} {ds : List (D × D)} {us : List (Key × V)} : KeyD k q → Rep K H A d v → RepK K H A ds us → RepK K H A ((k, d) :: ds) ((q, v) :: us)
end
section
variable {K : PySem.W.Frag} {H H' : Hp} {A A' : Addr → Prop}
/-- from one heap to a later one, from one set of shut places to another one -/
structure To (H H' : Hp) (A A' : Addr → Prop) : Prop where
  h : ∀ b o, H b = some o → ¬ A b → H' b = some o ∧ ¬ A' b
mutual
theorem Rep.to (t : To H H' A A') : ∀ {d : D} {v : V}, Rep K H A d v → Rep K H' A' d v
  | .none, _, .non => .non
  | .bool _, _, .bl b => .bl b
  | .int _, _, .int i => .int i
  | .str _, _, .str x => .str x
  | .list _, _, .lst h n r => .lst (t.h _ _ h n).1 (t.h _ _ h n).2 (RepL.to t r)
  | .tuple _, _, .tup (.inl ⟨.inl h, n⟩) r => .tup (.inl ⟨.inl (t.h _ _ h n).1, (t.h _ _ h n).2⟩) (RepL.to t r)
  | .tuple _, _, .tup (.inl ⟨.inr ⟨o, h⟩, n⟩) r => .tup (.inl ⟨.inr ⟨o, (t.h _ _ h n).1⟩, (t.h _ _ h n).2⟩) (RepL.to t r)
  | .tuple _, _, .tup (.inr h) r => .tup (.inr h) (RepL.to t r)
  | .dict _, _, .dct h n r => .dct (t.h _ _ h n).1 (t.h _ _ h n).2 (RepK.to t r)
theorem RepL.to (t : To H H' A A') : ∀ {ds : List D} {vs : List V}, RepL K H A ds vs → RepL K H' A' ds vs
  | [], _, .nil => .nil
  | _ :: _, _, .cons h r => .cons (Rep.to t h) (RepL.to t r)
theorem RepK.to (t : To H H' A A') : ∀ {ds : List (D × D)} {vs : List (Key × V)}, RepK K H A ds vs → RepK K H' A' ds vs
  | [], _, .nil => .nil
  | (_, _) :: _, _, .cons k h r => .cons k (Rep.to t h) (RepK.to t r)
end
theorem RepL.len : ∀ {ds : List D} {vs : List V}, RepL K H A ds vs → ds.length = vs.length
  | _, _, .nil => rfl
  | _, _, .cons _ r => congrArg (· + 1) r.len
theorem RepL.get : ∀ {ds : List D} {vs : List V}, RepL K H A ds vs → ∀ {i : Nat} {d : D}, ds[i]? = some d → ∃ v, vs[i]? = some v ∧ Rep K H A d v
  | _, _, .nil, i, d, h => by simp at h
  | _, _, .cons h r, 0, d, e => by
    rw [List.getElem?_cons_zero] at e
    cases e
    exact ⟨_, rfl, h⟩
  | _, _, .cons h r, i + 1, d, e => by
    rw [List.getElem?_cons_succ] at e
    exact r.get e
theorem RepL.app : ∀ {ds es : List D} {vs ws : List V}, RepL K H A ds vs → RepL K H A es ws → RepL K H A (ds ++ es) (vs ++ ws)
  | _, _, _, _, .nil, h => h
  | _, _, _, _, .cons h r, g => .cons h (r.app g)
theorem RepL.take : ∀ {ds : List D} {vs : List V} (n : Nat), RepL K H A ds vs → RepL K H A (ds.take n) (vs.take n)
  | _, _, 0, _ => by simpa using RepL.nil
  | _, _, n + 1, .nil => by simpa using RepL.nil
  | _, _, n + 1, .cons h r => .cons h (r.take n)
theorem RepL.drop : ∀ {ds : List D} {vs : List V} (n : Nat), RepL K H A ds vs → RepL K H A (ds.drop n) (vs.drop n)
  | _, _, 0, h => h
  | _, _, n + 1, .nil => .nil
  | _, _, n + 1, .cons h r => r.drop n
theorem RepL.set : ∀ {ds : List D} {vs : List V} (n : Nat) {d : D} {v : V}, RepL K H A ds vs → Rep K H A d v → RepL K H A (ds.set n d) (vs.set n v)
  | _, _, _, _, _, .nil, _ => .nil
  | _, _, 0, _, _, .cons h r, g => .cons g r
  | _, _, n + 1, _, _, .cons h r, g => .cons h (r.set n g)
theorem RepL.snoc {ds : List D} {vs : List V} {d : D} {v : V} (h : RepL K H A ds vs) (g : Rep K H A d v) : RepL K H A (ds ++ [d]) (vs ++ [v]) := h.app (.cons g .nil)
mutual
theorem Rep.dp : ∀ {d : D} {v : V}, Rep K H A d v → d.canLay0 = true → Dp K H v d
  | .none, _, .non, _ => .non
  | .bool _, _, .bl b, _ => .bl b
  | .int _, _, .int i, _ => .int i
  | .str _, _, .str x, _ => .str x
  | .list _, _, .lst h n r, c => .lst (SqL.of h) (RepL.dp r (by simpa [PyData.canLay0] using c))
  | .tuple _, _, .tup h r, c => .tup h.sq (RepL.dp r (by simpa [PyData.canLay0] using c))
  | .dict _, _, .dct _ _ _, c => by simp [PyData.canLay0] at c
theorem RepL.dp : ∀ {ds : List D} {vs : List V}, RepL K H A ds vs → PyData.canLayAll0 ds = true → DpAll K H vs ds
  | [], _, .nil, _ => .nil
  | _ :: _, _, .cons h r, c => by
    simp only [PyData.canLayAll0, Bool.and_eq_true] at c
    exact .cons (Rep.dp h c.1) (RepL.dp r c.2)
end
end
/-! ### what stands in the slots -/
inductive En
  | d (x : D)
  | own (ds : List D)
  | odk (kvs : List (D × D))
  | st
abbrev Ev := List (Option En)
def exs : Option (Addr × Addr) → List Addr
  | none => []
  | some q => [q.1, q.2]
def Keep (ex : List Addr) (H H' : Hp) : Prop := ∀ b o, H b = some o → b ∉ ex → H' b = some o
def LSo (st : Option (Addr × Addr)) (H : Hp) : Prop := ∀ q, st = some q → LS H q.1 q.2
structure Stp (st : Option (Addr × Addr)) (H H' : Hp) : Prop where
  k : Keep (exs st) H H'
  l : LSo st H'
def Mo (A : Addr → Prop) (ow : Nat → Option Addr) (a : Addr) : Prop := A a ∨ ∃ i, ow i = some a
def SR (K : PySem.W.Frag) (A : Addr → Prop) (st : Option (Addr × Addr)) (ow : Nat → Option Addr) (H : Hp) (i : Nat) : En → V → Prop
  | .d x, v => Rep K H (Mo A ow) x v
  | .own ds, v => ∃ a vs, ow i = some a ∧ v = .ref a ∧ H a = some (.lst vs) ∧ RepL K H (Mo A ow) ds vs
  | .odk kvs, v => ∃ a us, ow i = some a ∧ v = .ref a ∧ H a = some (.dK us) ∧ RepK K H (Mo A ow) kvs us
  | .st, v => ∃ q, st = some q ∧ v = .ref q.1
structure RE (K : PySem.W.Frag) (A : Addr → Prop) (st : Option (Addr × Addr)) (ow : Nat → Option Addr) (σ : L2.St) (H : Hp) (env : Ev) : Prop where
  ls : LSo st H
  dom : ∀ a, A a → H a ≠ none
  sta : ∀ q, st = some q → A q.1 ∧ A q.2
  al : ∀ i a, ow i = some a → H a ≠ none
  na : ∀ i a, ow i = some a → ¬ A a
  inj : ∀ i j a, ow i = some a → ow j = some a → i = j
  tie : ∀ i a, ow i = some a → (∃ ds, env[i]? = some (some (.own ds))) ∨ ∃ ds, env[i]? = some (some (.odk ds))
  len : σ.length = env.length
  sl : ∀ i e, env[i]? = some (some e) → ∃ v, σ[i]? = some (some v) ∧ SR K A st ow H i e v
theorem Keep.refl (ex : List Addr) (H : Hp) : Keep ex H H := fun _ _ h _ => h
theorem Keep.trans {ex : List Addr} {H H1 H2 : Hp} (a : Keep ex H H1) (b : Keep ex H1 H2) : Keep ex H H2 := fun q o h n => b q o (a q o h n) n
theorem Stp.trans {st : Option (Addr × Addr)} {H H1 H2 : Hp} (a : Stp st H H1) (b : Stp st H1 H2) : Stp st H H2 := ⟨a.k.trans b.k, b.l⟩
theorem LS.same {H H' : Hp} {p c : Addr} (h : LS H p c) (s : Same H H') : LS H' p c := by
  obtain ⟨k, ns, h1, h2, h3⟩ := h
  exact ⟨k, ns, s _ _ h1, s _ _ h2, h3⟩
theorem LSo.same {st : Option (Addr × Addr)} {H H' : Hp} (h : LSo st H) (s : Same H H') : LSo st H' := fun q e => (h q e).same s
theorem Stp.same {st : Option (Addr × Addr)} {H H' : Hp} (h : LSo st H) (s : Same H H') : Stp st H H' := ⟨fun b o e _ => s b o e, h.same s⟩
theorem same_upd {H : Hp} {p : Addr} {o : HO} (h : H p = none) : Same H (upd H p o) := fun b x e => by
  rw [upd_ne (ne_of_none e h)]
  exact e
theorem exs_mem {st : Option (Addr × Addr)} {a : Addr} (h : a ∈ exs st) : ∃ q, st = some q ∧ (a = q.1 ∨ a = q.2) := by
  cases st with
  | none => cases h
  | some q => exact ⟨q, rfl, by simpa [exs] using h⟩
section
variable {K : PySem.W.Frag} {A : Addr → Prop} {st : Option (Addr × Addr)} {ow : Nat → Option Addr} {σ : L2.St} {H H' : Hp} {env : Ev}
theorem RE.to_keep {ex : List Addr} (R : RE K A st ow σ H env) (hx : ∀ a ∈ ex, A a) (hk : Keep ex H H') : To H H' (Mo A ow) (Mo A ow) :=
  ⟨fun b o e n => ⟨hk b o e fun z => n (.inl (hx b z)), n⟩⟩
theorem RE.keep {ex : List Addr} (R : RE K A st ow σ H env) (hx : ∀ a ∈ ex, A a) (hk : Keep ex H H') (hl : LSo st H') (hd : ∀ a ∈ ex, H' a ≠ none) : RE K A st ow σ H' env := by
  have t := R.to_keep hx hk
  have ok : ∀ i a o, ow i = some a → H a = some o → H' a = some o := fun i a o e h => hk a o h fun z => R.na i a e (hx a z)
  have nn : ∀ {a : Addr}, H a ≠ none → (a ∉ ex) → H' a ≠ none := fun {a} h n => by
    cases e : H a with
    | none => exact absurd e h
    | some o => rw [hk a o e n]; intro z; cases z
  refine ⟨hl, fun a ha => ?_, R.sta, fun i a e => nn (R.al i a e) fun z => R.na i a e (hx a z), R.na, R.inj, R.tie, R.len, fun i e he => ?_⟩
  · by_cases h : a ∈ ex
    · exact hd a h
    · exact nn (R.dom a ha) h
  · obtain ⟨v, hv, r⟩ := R.sl i e he
    refine ⟨v, hv, ?_⟩
    cases e with
    | d x => exact Rep.to t r
    | own ds =>
      obtain ⟨a, vs, h1, h2, h3, h4⟩ := r
      exact ⟨a, vs, h1, h2, ok i a _ h1 h3, RepL.to t h4⟩
    | odk ds =>
      obtain ⟨a, vs, h1, h2, h3, h4⟩ := r
      exact ⟨a, vs, h1, h2, ok i a _ h1 h3, RepK.to t h4⟩
    | st => exact r
theorem RE.exA (R : RE K A st ow σ H env) : ∀ a ∈ exs st, A a := fun a h => by
  obtain ⟨q, e, z⟩ := exs_mem h
  rcases z with rfl | rfl
  · exact (R.sta q e).1
  · exact (R.sta q e).2
theorem LSo.ne {st : Option (Addr × Addr)} {H : Hp} (l : LSo st H) : ∀ a ∈ exs st, H a ≠ none := fun a h => by
  obtain ⟨q, e, z⟩ := exs_mem h
  obtain ⟨k, ns, h1, h2, _⟩ := l q e
  rcases z with rfl | rfl
  · rw [h1]; intro z; cases z
  · rw [h2]; intro z; cases z
theorem RE.step (R : RE K A st ow σ H env) (s : Stp st H H') : RE K A st ow σ H' env := R.keep R.exA s.k s.l s.l.ne
theorem RE.toS (R : RE K A st ow σ H env) (s : Stp st H H') : To H H' (Mo A ow) (Mo A ow) := R.to_keep R.exA s.k
theorem RE.alM (R : RE K A st ow σ H env) {a : Addr} (h : Mo A ow a) : H a ≠ none := h.elim (R.dom a) fun ⟨i, e⟩ => R.al i a e
end
/-- data that is read: what a slot owns may be read too -/
inductive RepB (K : PySem.W.Frag) (H : Hp) (A M : Addr → Prop) : D → V → Prop
  | r {d : D} {v : V} : Rep K H M d v → RepB K H A M d v
  | o {a : Addr} {xs : List V} {ds : List D} : H a = some (.lst xs) → ¬ A a → RepL K H M ds xs → RepB K H A M (.list ds) (.ref a)
  | k {a : Addr} {us : List (Key × V)} {kvs : List (D × D)} : H a = some (.dK us) → ¬ A a → RepK K H M kvs us → RepB K H A M (.dict kvs) (.ref a)
def eget : Ev → Nat → Option En
  | [], _ => none
  | e :: _, 0 => e
  | _ :: r, n + 1 => eget r n
theorem eget_some : ∀ {env : Ev} {i : Nat} {e : En}, eget env i = some e → env[i]? = some (some e)
  | [], _, _, h => by cases h
  | _ :: _, 0, _, h => by rw [List.getElem?_cons_zero]; exact congrArg some h
  | _ :: r, n + 1, _, h => by rw [List.getElem?_cons_succ]; exact eget_some h
theorem some_eget : ∀ {env : Ev} {i : Nat} {e : En}, env[i]? = some (some e) → eget env i = some e
  | [], _, _, h => by simp at h
  | _ :: _, 0, _, h => by rw [List.getElem?_cons_zero] at h; exact Option.some.inj h
  | _ :: r, n + 1, _, h => some_eget (env := r) (i := n) (by rw [List.getElem?_cons_succ] at h; exact h)
def isOwn (env : Ev) (i : Nat) : Bool := match eget env i with | some (.own _) => true | some (.odk _) => true | _ => false
def noOwn (vs : List Nat) (env : Ev) : Bool := vs.all fun i => !isOwn env i
structure RfE (K : PySem.W.Frag) (t : TE) (de : Ev → (D → Prop) → Prop) : Prop where
  run : ∀ {A : Addr → Prop} {st : Option (Addr × Addr)} {ow : Nat → Option Addr} {σ : L2.St} {H : Hp} {env : Ev} {Qd : D → Prop} {Q : VK},
  RE K A st ow σ H env → de env Qd → (∀ d v H', Qd d → Stp st H H' → Rep K H' (Mo A ow) d v → Q v H') → t σ H Q
structure RfB (K : PySem.W.Frag) (t : TE) (de : Ev → (D → Prop) → Prop) : Prop where
  run : ∀ {A : Addr → Prop} {st : Option (Addr × Addr)} {ow : Nat → Option Addr} {σ : L2.St} {H : Hp} {env : Ev} {Qd : D → Prop} {Q : VK},
  RE K A st ow σ H env → de env Qd → (∀ d v H', Qd d → Stp st H H' → RepB K H' A (Mo A ow) d v → Q v H') → t σ H Q
structure RfT (K : PySem.W.Frag) (t : TT) (dt : Ev → (Bool → Prop) → Prop) : Prop where
  run : ∀ {A : Addr → Prop} {st : Option (Addr × Addr)} {ow : Nat → Option Addr} {σ : L2.St} {H : Hp} {env : Ev} {Qd : Bool → Prop} {Q : Bool → Hp → Prop},
  RE K A st ow σ H env → dt env Qd → (∀ b H', Qd b → Stp st H H' → Q b H') → t σ H Q
structure RfA (K : PySem.W.Frag) (t : TA) (da : Ev → (List D → Prop) → Prop) : Prop where
  run : ∀ {A : Addr → Prop} {st : Option (Addr × Addr)} {ow : Nat → Option Addr} {σ : L2.St} {H : Hp} {env : Ev} {Qd : List D → Prop} {Q : List V → Hp → Prop},
  RE K A st ow σ H env → da env Qd → (∀ ds vs H', Qd ds → Stp st H H' → RepL K H' (Mo A ow) ds vs → Q vs H') → t σ H Q
/-- arguments that are read alone -/
inductive RepBL (K : PySem.W.Frag) (H : Hp) (A M : Addr → Prop) : List D → List V → Prop
  | nil : RepBL K H A M [] []
  | cons {d : D} {v : V} {ds : List D} {vs : List V} : RepB K H A M d v → RepBL K H A M ds vs → RepBL K H A M (d :: ds) (v :: vs)
structure RfAB (K : PySem.W.Frag) (t : TA) (da : Ev → (List D → Prop) → Prop) : Prop where
  run : ∀ {A : Addr → Prop} {st : Option (Addr × Addr)} {ow : Nat → Option Addr} {σ : L2.St} {H : Hp} {env : Ev} {Qd : List D → Prop} {Q : List V → Hp → Prop},
  RE K A st ow σ H env → da env Qd → (∀ ds vs H', Qd ds → Stp st H H' → RepBL K H' A (Mo A ow) ds vs → Q vs H') → t σ H Q
/-- an operator's reading by values -/
structure RfV2 (K : PySem.W.Frag) (r : R2) (op : D → D → (D → Prop) → Prop) : Prop where
  run : ∀ {A : Addr → Prop} {st : Option (Addr × Addr)} {ow : Nat → Option Addr} {σ : L2.St} {H : Hp} {env : Ev} {a b : D} {x y : V} {Qd : D → Prop} {Q : VK},
  RE K A st ow σ H env → RepB K H A (Mo A ow) a x → RepB K H A (Mo A ow) b y → op a b Qd → (∀ d v H', Qd d → Stp st H H' → Rep K H' (Mo A ow) d v → Q v H') → r x y H Q
structure RfVL (K : PySem.W.Frag) (r : List V → Hp → VK → Prop) (op : List D → (D → Prop) → Prop) : Prop where
  run : ∀ {A : Addr → Prop} {st : Option (Addr × Addr)} {ow : Nat → Option Addr} {σ : L2.St} {H : Hp} {env : Ev} {ds : List D} {vs : List V} {Qd : D → Prop} {Q : VK},
  RE K A st ow σ H env → RepBL K H A (Mo A ow) ds vs → op ds Qd → (∀ d v H', Qd d → Stp st H H' → Rep K H' (Mo A ow) d v → Q v H') → r vs H Q
section
variable {K : PySem.W.Frag}
theorem RepB.to {H H' : Hp} {A M : Addr → Prop} (t : To H H' M M) (hA : ∀ a o, H a = some o → ¬ A a → H' a = some o) {d : D} {v : V} (h : RepB K H A M d v) : RepB K H' A M d v := by
  cases h with
  | r h => exact .r (Rep.to t h)
  | o h n r => exact .o (hA _ _ h n) n (RepL.to t r)
  | k h n r => exact .k (hA _ _ h n) n (RepK.to t r)
theorem RE.stepB {A : Addr → Prop} {st : Option (Addr × Addr)} {ow : Nat → Option Addr} {σ : L2.St} {H H' : Hp} {env : Ev} (R : RE K A st ow σ H env) (s : Stp st H H') {d : D} {v : V} (h : RepB K H A (Mo A ow) d v) : RepB K H' A (Mo A ow) d v :=   h.to (R.toS s) fun a o e n => s.k a o e fun z => n (R.exA a z)
theorem RfE.b {t : TE} {de : Ev → (D → Prop) → Prop} (h : RfE K t de) : RfB K t de := ⟨fun R q k => h.run R q fun d v H' x s r => k d v H' x s (.r r)⟩
def dN (i : Nat) : Ev → (D → Prop) → Prop := fun env Q => match eget env i with | some (.d x) => Q x | _ => False
def dNB (i : Nat) : Ev → (D → Prop) → Prop := fun env Q => match eget env i with | some (.d x) => Q x | some (.own ds) => Q (.list ds) | some (.odk ds) => Q (.dict ds) | _ => False
theorem stp_refl {A : Addr → Prop} {st : Option (Addr × Addr)} {ow : Nat → Option Addr} {σ : L2.St} {H : Hp} {env : Ev} (R : RE K A st ow σ H env) : Stp st H H := ⟨Keep.refl _ _, R.ls⟩
theorem rn (i : Nat) : RfE K (tVar i) (dN i) := ⟨fun {A st ow σ H env Qd Q} R q k => by
  unfold dN at q
  split at q
  · rename_i x e
    obtain ⟨v, hv, r⟩ := R.sl i _ (eget_some e)
    exact ⟨v, hv, k x v H q (stp_refl R) r⟩
  · exact q.elim⟩
theorem rnb (i : Nat) : RfB K (tVar i) (dNB i) := ⟨fun {A st ow σ H env Qd Q} R q k => by
  unfold dNB at q
  split at q
  · rename_i x e
    obtain ⟨v, hv, r⟩ := R.sl i _ (eget_some e)
    exact ⟨v, hv, k x v H q (stp_refl R) (.r r)⟩
  · rename_i x e
    obtain ⟨v, hv, a, vs, h1, rfl, h3, h4⟩ := R.sl i _ (eget_some e)
    exact ⟨_, hv, k _ _ H q (stp_refl R) (.o h3 (R.na _ _ h1) h4)⟩
  · rename_i x e
    obtain ⟨v, hv, a, vs, h1, rfl, h3, h4⟩ := R.sl i _ (eget_some e)
    exact ⟨_, hv, k _ _ H q (stp_refl R) (.k h3 (R.na _ _ h1) h4)⟩
  · exact q.elim⟩
def dC (x : D) : Ev → (D → Prop) → Prop := fun _ Q => Q x
theorem rc_int (i : Int) : RfE K (tC (.int i)) (dC (.int i)) := ⟨fun R q k => k _ _ _ q (stp_refl R) (.int i)⟩
theorem rc_bl (i : Bool) : RfE K (tC (.bl i)) (dC (.bool i)) := ⟨fun R q k => k _ _ _ q (stp_refl R) (.bl i)⟩
theorem rc_str (i : Str) : RfE K (tC (.str i)) (dC (.str i)) := ⟨fun R q k => k _ _ _ q (stp_refl R) (.str i)⟩
theorem rc_non : RfE K (tC .non) (dC .none) := ⟨fun R q k => k _ _ _ q (stp_refl R) .non⟩
/-- a constant of the top: a tuple of scalars -/
inductive Sc : D → V → Prop
  | non : Sc .none .non
  | bl (b : Bool) : Sc (.bool b) (.bl b)
  | int (i : Int) : Sc (.int i) (.int i)
  | str (s : Str) : Sc (.str s) (.str s)
theorem Sc.rep {d : D} {v : V} {H : Hp} {A : Addr → Prop} (h : Sc d v) : Rep K H A d v := by
  cases h with
  | non => exact .non
  | bl b => exact .bl b
  | int b => exact .int b
  | str b => exact .str b
theorem sc_all {ds : List D} {vs : List V} {H : Hp} {A : Addr → Prop} (h : Paired Sc ds vs) : RepL K H A ds vs := by
  induction h with
  | nil => exact .nil
  | cons h _ ih => exact .cons h.rep ih
theorem rc_tup {a : Addr} {ds : List D} {vs : List V} (h : KTup K a vs) (hs : Paired Sc ds vs) : RfE K (tC (.ref a)) (dC (.tuple ds)) := ⟨fun R q k => k _ _ _ q (stp_refl R) (.tup (.inr h) (sc_all hs))⟩
def dOp (op : D → D → (D → Prop) → Prop) (da db : Ev → (D → Prop) → Prop) : Ev → (D → Prop) → Prop := fun env Q => da env fun x => db env fun y => op x y Q
theorem ro {r : R2} {op : D → D → (D → Prop) → Prop} {ta tb : TE} {da db : Ev → (D → Prop) → Prop} (ho : RfV2 K r op) (ha : RfB K ta da) (hb : RfB K tb db) : RfE K (tOp r ta tb) (dOp op da db) := ⟨fun R q k =>
  ha.run R q fun _ _ _ q1 s1 r1 => hb.run (R.step s1) q1 fun _ _ _ q2 s2 r2 => ho.run ((R.step s1).step s2) ((R.step s1).stepB s2 r1) r2 q2 fun d v H3 q3 s3 r3 => k d v H3 q3 (s1.trans (s2.trans s3)) r3⟩
/-! operators by values -/
def oI (C : Int → Int → Prop) (g : Int → Int → D) : D → D → (D → Prop) → Prop := fun x y Q => match x, y with
  | .int i, .int j => C i j ∧ Q (g i j)
  | _, _ => False
def oI0 (g : Int → Int → D) : D → D → (D → Prop) → Prop := fun x y Q => match x, y with
  | .int i, .int j => Q (g i j)
  | _, _ => False
theorem rv_I {C : Int → Int → Prop} {gv : Int → Int → V} {gd : Int → Int → D} (h : ∀ i j, Sc (gd i j) (gv i j)) : RfV2 K (rI C gv) (oI C gd) := ⟨fun R h1 h2 q k => by
  unfold oI at q
  split at q
  · cases h1 with | r h1 =>
    cases h2 with | r h2 =>
    cases h1; cases h2
    exact ⟨_, _, rfl, rfl, q.1, k _ _ _ q.2 (stp_refl R) (h _ _).rep⟩
  · exact q.elim⟩
theorem rv_I0 {gv : Int → Int → V} {gd : Int → Int → D} (h : ∀ i j, Sc (gd i j) (gv i j)) : RfV2 K (rI0 gv) (oI0 gd) := ⟨fun R h1 h2 q k => by
  unfold oI0 at q
  split at q
  · cases h1 with | r h1 =>
    cases h2 with | r h2 =>
    cases h1; cases h2
    exact ⟨_, _, rfl, rfl, k _ _ _ q (stp_refl R) (h _ _).rep⟩
  · exact q.elim⟩
theorem rv_add : RfV2 K (rI0 fun i j => .int (i + j)) (oI0 fun i j => .int (i + j)) := rv_I0 fun _ _ => .int _
theorem rv_sub : RfV2 K (rI0 fun i j => .int (i - j)) (oI0 fun i j => .int (i - j)) := rv_I0 fun _ _ => .int _
theorem rv_mul : RfV2 K (rI CMul fun i j => .int (i * j)) (oI CMul fun i j => .int (i * j)) := rv_I fun _ _ => .int _
theorem rv_mod : RfV2 K (rI (fun _ j => 0 < j) fun i j => .int (i % j)) (oI (fun _ j => 0 < j) fun i j => .int (i % j)) := rv_I fun _ _ => .int _
theorem rv_fdiv : RfV2 K (rI CDiv fun i j => .int (i / j)) (oI CDiv fun i j => .int (i / j)) := rv_I fun _ _ => .int _
theorem rv_pow : RfV2 K (rI CPow fun i j => .int (i ^ j.toNat)) (oI CPow fun i j => .int (i ^ j.toNat)) := rv_I fun _ _ => .int _
theorem rv_shl : RfV2 K (rI CPow fun i j => .int (i * 2 ^ j.toNat)) (oI CPow fun i j => .int (i * 2 ^ j.toNat)) := rv_I fun _ _ => .int _
theorem rv_shr : RfV2 K (rI (fun _ j => 0 ≤ j) fun i j => .int (i / 2 ^ j.toNat)) (oI (fun _ j => 0 ≤ j) fun i j => .int (i / 2 ^ j.toNat)) := rv_I fun _ _ => .int _
theorem rv_and : RfV2 K (rI0 fun i j => .int (Builtin.bitAnd i j)) (oI0 fun i j => .int (Builtin.bitAnd i j)) := rv_I0 fun _ _ => .int _
theorem rv_or : RfV2 K (rI0 fun i j => .int (Builtin.bitOr i j)) (oI0 fun i j => .int (Builtin.bitOr i j)) := rv_I0 fun _ _ => .int _
theorem rv_xor : RfV2 K (rI0 fun i j => .int (Builtin.bitXor i j)) (oI0 fun i j => .int (Builtin.bitXor i j)) := rv_I0 fun _ _ => .int _
theorem rv_lt : RfV2 K (rI0 fun i j => .bl (decide (i < j))) (oI0 fun i j => .bool (decide (i < j))) := rv_I0 fun _ _ => .bl _
theorem rv_le : RfV2 K (rI0 fun i j => .bl (decide (i ≤ j))) (oI0 fun i j => .bool (decide (i ≤ j))) := rv_I0 fun _ _ => .bl _
theorem rv_gt : RfV2 K (rI0 fun i j => .bl (decide (j < i))) (oI0 fun i j => .bool (decide (j < i))) := rv_I0 fun _ _ => .bl _
theorem rv_ge : RfV2 K (rI0 fun i j => .bl (decide (j ≤ i))) (oI0 fun i j => .bool (decide (j ≤ i))) := rv_I0 fun _ _ => .bl _
def okD (d : D) : Bool := SeqAt.shaped d
theorem okD_lay {d : D} (h : okD d = true) : d.canLay0 = true := by
  unfold okD SeqAt.shaped at h
  rw [Bool.and_eq_true] at h
  exact h.1
theorem RepB.dp {H : Hp} {A M : Addr → Prop} {d : D} {v : V} (h : RepB K H A M d v) (c : d.canLay0 = true) : Dp K H v d := by
  cases h with
  | r h => exact Rep.dp h c
  | o h n r => exact .lst (SqL.of h) (RepL.dp r (by simpa [PyData.canLay0] using c))
  | k h n r => simp [PyData.canLay0] at c
def oEq (neg : Bool) : D → D → (D → Prop) → Prop := fun x y Q => okD x = true ∧ okD y = true ∧ Q (.bool (if neg then !PyData.eqv x y else PyData.eqv x y))
theorem rv_eqD : RfV2 K (rEqD K) (oEq false) := ⟨fun R h1 h2 q k => ⟨_, _, h1.dp (okD_lay q.1), h2.dp (okD_lay q.2.1), q.1, q.2.1, k _ _ _ q.2.2 (stp_refl R) (.bl _)⟩⟩
theorem rv_neD : RfV2 K (rNeD K) (oEq true) := ⟨fun R h1 h2 q k => ⟨_, _, h1.dp (okD_lay q.1), h2.dp (okD_lay q.2.1), q.1, q.2.1, k _ _ _ q.2.2 (stp_refl R) (.bl _)⟩⟩
/-- == of scalars -/
def eqS : D → D → Option Bool
  | .none, .none => some true
  | .none, .int _ => some false | .int _, .none => some false | .none, .bool _ => some false | .bool _, .none => some false | .none, .str _ => some false | .str _, .none => some false
  | .int i, .int j => some (decide (i = j)) | .bool a, .bool b => some (decide (a = b)) | .str a, .str b => some (decide (a = b))
  | .int _, .str _ => some false | .str _, .int _ => some false | .bool _, .str _ => some false | .str _, .bool _ => some false
  | _, _ => none
def oEqS (neg : Bool) : D → D → (D → Prop) → Prop := fun x y Q => match eqS x y with
  | some b => Q (.bool (if neg then !b else b))
  | none => False
theorem eqS_V {H : Hp} {A M : Addr → Prop} {a b : D} {x y : V} {c : Bool} (h : eqS a b = some c) (h1 : RepB K H A M a x) (h2 : RepB K H A M b y) : scal x y = true ∧ decide (x = y) = c := by
  cases h1 with
  | r h1 =>
    cases h2 with
    | r h2 => cases h1 <;> cases h2 <;> simp_all [eqS, scal]
    | o h n r => cases h1 <;> simp_all [eqS]
    | k h n r => cases h1 <;> simp_all [eqS]
  | o h n r => cases b <;> simp_all [eqS]
  | k h n r => cases b <;> simp_all [eqS]
theorem rv_eq : RfV2 K rEq (oEqS false) := ⟨fun R h1 h2 q k => by
  unfold oEqS at q
  split at q
  · rename_i b e
    obtain ⟨e1, e2⟩ := eqS_V e h1 h2
    exact ⟨e1, by rw [e2]; exact k _ _ _ q (stp_refl R) (.bl _)⟩
  · exact q.elim⟩
theorem rv_ne : RfV2 K rNe (oEqS true) := ⟨fun R h1 h2 q k => by
  unfold oEqS at q
  split at q
  · rename_i b e
    obtain ⟨e1, e2⟩ := eqS_V e h1 h2
    exact ⟨e1, by rw [e2]; exact k _ _ _ q (stp_refl R) (.bl _)⟩
  · exact q.elim⟩
def isNo : D → Bool | .none => true | _ => false
def oIsN (neg : Bool) : D → D → (D → Prop) → Prop := fun x y Q => match y with
  | .none => Q (.bool (if neg then !isNo x else isNo x))
  | _ => False
theorem isNo_V {H : Hp} {A M : Addr → Prop} {a : D} {x : V} (h1 : RepB K H A M a x) : decide (x = .non) = isNo a := by
  cases h1 with
  | r h1 => cases h1 <;> simp [isNo]
  | o h n r => simp [isNo]
  | k h n r => simp [isNo]
theorem rv_isN : RfV2 K (fun x y H Q => y = .non ∧ Q (.bl (decide (x = .non))) H) (oIsN false) := ⟨fun R h1 h2 q k => by
  unfold oIsN at q
  split at q
  · cases h2 with | r h2 =>
    cases h2
    exact ⟨rfl, by rw [isNo_V h1]; exact k _ _ _ q (stp_refl R) (.bl _)⟩
  · exact q.elim⟩
theorem rv_notN : RfV2 K (fun x y H Q => y = .non ∧ Q (.bl (!decide (x = .non))) H) (oIsN true) := ⟨fun R h1 h2 q k => by
  unfold oIsN at q
  split at q
  · cases h2 with | r h2 =>
    cases h2
    exact ⟨rfl, by rw [isNo_V h1]; exact k _ _ _ q (stp_refl R) (.bl _)⟩
  · exact q.elim⟩
def oB (g : Bool → Bool → Bool) : D → D → (D → Prop) → Prop := fun x y Q => match x, y with
  | .bool i, .bool j => Q (.bool (g i j))
  | _, _ => False
theorem rv_isB : RfV2 K (fun x y H Q => ∃ a b, x = .bl a ∧ y = .bl b ∧ Q (.bl (decide (a = b))) H) (oB fun a b => decide (a = b)) := ⟨fun R h1 h2 q k => by
  unfold oB at q
  split at q
  · cases h1 with | r h1 =>
    cases h2 with | r h2 =>
    cases h1; cases h2
    exact ⟨_, _, rfl, rfl, k _ _ _ q (stp_refl R) (.bl _)⟩
  · exact q.elim⟩
theorem rv_notB : RfV2 K (fun x y H Q => ∃ a b, x = .bl a ∧ y = .bl b ∧ Q (.bl (!decide (a = b))) H) (oB fun a b => !decide (a = b)) := ⟨fun R h1 h2 q k => by
  unfold oB at q
  split at q
  · cases h1 with | r h1 =>
    cases h2 with | r h2 =>
    cases h1; cases h2
    exact ⟨_, _, rfl, rfl, k _ _ _ q (stp_refl R) (.bl _)⟩
  · exact q.elim⟩
/-! sequences -/
def seqOf : D → Option (List D)
  | .list ds => some ds
  | .tuple ds => some ds
  | _ => none
theorem RepB.seq {H : Hp} {A M : Addr → Prop} {d : D} {v : V} {ds : List D} (h : RepB K H A M d v) (e : seqOf d = some ds) : ∃ a xs, v = .ref a ∧ (SqL K H a xs ∨ SqT K H a xs) ∧ RepL K H M ds xs := by
  cases h with
  | r h =>
    cases h with
    | lst h n r => cases e; exact ⟨_, _, rfl, .inl (SqL.of h), r⟩
    | tup h r => cases e; exact ⟨_, _, rfl, .inr h.sq, r⟩
    | _ => cases e
  | o h n r => cases e; exact ⟨_, _, rfl, .inl (SqL.of h), r⟩
  | k h n r => cases e
theorem RepB.lst {H : Hp} {A M : Addr → Prop} {v : V} {ds : List D} (h : RepB K H A M (.list ds) v) : ∃ a xs, v = .ref a ∧ H a = some (.lst xs) ∧ RepL K H M ds xs := by
  cases h with
  | r h => cases h with | lst h n r => exact ⟨_, _, rfl, h, r⟩
  | o h n r => exact ⟨_, _, rfl, h, r⟩
theorem RepB.tup {H : Hp} {A M : Addr → Prop} {v : V} {ds : List D} (h : RepB K H A M (.tuple ds) v) : ∃ a xs, v = .ref a ∧ TupAt K H M a xs ∧ RepL K H M ds xs := by
  cases h with
  | r h => cases h with | tup h r => exact ⟨_, _, rfl, h, r⟩
/-- ds[i] -/
def dix (ds : List D) (i : Int) : Option D := atI ds i
def oIx : D → D → (D → Prop) → Prop := fun x y Q => match seqOf x, y with
  | some ds, .int i => (match dix ds i with | some d => Q d | none => False)
  | _, _ => False
theorem dix_nn {xs : List D} {i : Int} {x : D} (h : 0 ≤ i) (e : xs[i.toNat]? = some x) : dix xs i = some x := by
  have hl := (List.getElem?_eq_some_iff.mp e).1
  unfold dix atI ixN
  rw [if_pos h, if_pos (by omega)]
  exact e
theorem dix_map {α : Type} {f : α → D} {as : List α} {i : Int} {a : α} (h : 0 ≤ i) (e : as[i.toNat]? = some a) : dix (as.map f) i = some (f a) := dix_nn h (by rw [List.getElem?_map, e]; rfl)
theorem dix_0 (a : D) (r : List D) : dix (a :: r) 0 = some a := dix_nn (by decide) rfl
theorem dix_1 (a b : D) (r : List D) : dix (a :: b :: r) 1 = some b := dix_nn (by decide) rfl
theorem dix_2 (a b c : D) (r : List D) : dix (a :: b :: c :: r) 2 = some c := dix_nn (by decide) rfl
theorem dix_3 (a b c d : D) (r : List D) : dix (a :: b :: c :: d :: r) 3 = some d := dix_nn (by decide) rfl
theorem dix_4 (a b c d e : D) (r : List D) : dix (a :: b :: c :: d :: e :: r) 4 = some e := dix_nn (by decide) rfl
theorem dix_5 (a b c d e f : D) (r : List D) : dix (a :: b :: c :: d :: e :: f :: r) 5 = some f := dix_nn (by decide) rfl
theorem dix_6 (a b c d e f g : D) (r : List D) : dix (a :: b :: c :: d :: e :: f :: g :: r) 6 = some g := dix_nn (by decide) rfl
theorem dix_7 (a b c d e f g h : D) (r : List D) : dix (a :: b :: c :: d :: e :: f :: g :: h :: r) 7 = some h := dix_nn (by decide) rfl
theorem dix_8 (a b c d e f g h i : D) (r : List D) : dix (a :: b :: c :: d :: e :: f :: g :: h :: i :: r) 8 = some i := dix_nn (by decide) rfl
theorem dix_9 (a b c d e f g h i j : D) (r : List D) : dix (a :: b :: c :: d :: e :: f :: g :: h :: i :: j :: r) 9 = some j := dix_nn (by decide) rfl
theorem atI_rep {H : Hp} {M : Addr → Prop} {ds : List D} {xs : List V} {i : Int} {d : D} (r : RepL K H M ds xs) (e : atI ds i = some d) : ∃ v, atI xs i = some v ∧ Rep K H M d v := by
  unfold atI at e ⊢
  rw [r.len] at e
  cases h : ixN xs.length i with
  | none => rw [h] at e; cases e
  | some j =>
    rw [h] at e
    exact r.get e
theorem rv_ix : RfV2 K (rIx K) oIx := ⟨fun {A st ow σ H env a b x y Qd Q} R h1 h2 q k => by
  unfold oIx at q
  split at q
  · rename_i ds i e
    split at q
    · rename_i d e1
      obtain ⟨p, xs, rfl, hs, r⟩ := h1.seq e
      obtain ⟨v, e2, rv⟩ := atI_rep r e1
      cases h2 with | r h2 =>
      cases h2
      rcases hs with h | h
      · exact .inl ⟨_, _, _, v, rfl, rfl, h, e2, k _ _ _ q (stp_refl R) rv⟩
      · exact .inr (.inl ⟨_, _, _, v, rfl, rfl, h, e2, k _ _ _ q (stp_refl R) rv⟩)
    · exact q.elim
  · exact q.elim⟩
def oIxS : D → D → (D → Prop) → Prop := fun x y Q => match x, y with
  | .str z, .int i => z.length ≤ sizeLine ∧ ∃ c, atI z.cps.toList i = some c ∧ Q (.str ⟨#[c]⟩)
  | _, _ => False
theorem rv_ixS : RfV2 K rIxS oIxS := ⟨fun R h1 h2 q k => by
  unfold oIxS at q
  split at q
  · cases h1 with | r h1 =>
    cases h2 with | r h2 =>
    cases h1; cases h2
    obtain ⟨q1, c, q2, q3⟩ := q
    exact ⟨_, _, c, rfl, rfl, q1, q2, k _ _ _ q3 (stp_refl R) (.str _)⟩
  · exact q.elim⟩
/-- a new place -/
theorem new_to {H : Hp} {p : Addr} {o : HO} {M M' : Addr → Prop} (n : H p = none) (hm : ∀ a, M' a → M a ∨ a = p) : To H (upd H p o) M M' :=   ⟨fun b x e z => ⟨same_upd n b x e, fun w => (hm b w).elim z fun y => by rw [y, n] at e; cases e⟩⟩
theorem to_same {H H' : Hp} {M : Addr → Prop} (s : Same H H') : To H H' M M := ⟨fun b x e z => ⟨s b x e, z⟩⟩
section
variable {A : Addr → Prop} {st : Option (Addr × Addr)} {ow : Nat → Option Addr} {σ : L2.St} {H : Hp} {env : Ev}
theorem RE.newM (R : RE K A st ow σ H env) {p : Addr} (n : H p = none) : ¬ Mo A ow p := fun z => R.alM z n
theorem RE.newA (R : RE K A st ow σ H env) {p : Addr} (n : H p = none) : ¬ A p := fun z => R.dom p z n
theorem RE.mkT (R : RE K A st ow σ H env) {p : Addr} {ds : List D} {xs : List V} (n : H p = none) (r : RepL K H (Mo A ow) ds xs) : Rep K (upd H p (.tup xs)) (Mo A ow) (.tuple ds) (.ref p) :=   .tup (.inl ⟨.inl upd_same, R.newM n⟩) (RepL.to (to_same (same_upd n)) r)
theorem RE.mkL (R : RE K A st ow σ H env) {p : Addr} {ds : List D} {xs : List V} (n : H p = none) (r : RepL K H (Mo A ow) ds xs) : Rep K (upd H p (.lst xs)) (Mo A ow) (.list ds) (.ref p) :=   .lst upd_same (R.newM n) (RepL.to (to_same (same_upd n)) r)
theorem RE.new (R : RE K A st ow σ H env) {p : Addr} {o : HO} (n : H p = none) : Stp st H (upd H p o) := .same R.ls (same_upd n)
end
def cutD {α : Type} (xs : List α) (lo hi : Option Int) : List α := (xs.drop (HT.sIx xs.length 0 lo)).take (HT.sIx xs.length xs.length hi - HT.sIx xs.length 0 lo)
theorem cut_rep {H : Hp} {M : Addr → Prop} {ds : List D} {xs : List V} {lo hi : Option Int} (r : RepL K H M ds xs) : RepL K H M (cutD ds lo hi) (cutV xs lo hi) := by
  unfold cutD cutV
  rw [r.len]
  exact (r.drop _).take _
def oCat : D → D → (D → Prop) → Prop := fun x y Q => match x, y with
  | .list a, .list b => a.length + b.length ≤ sizeLine ∧ Q (.list (a ++ b))
  | _, _ => False
theorem rv_cat : RfV2 K rCat oCat := ⟨fun R h1 h2 q k => by
  unfold oCat at q
  split at q
  · obtain ⟨a, xs, rfl, h3, r3⟩ := h1.lst
    obtain ⟨b, ys, rfl, h4, r4⟩ := h2.lst
    exact ⟨a, b, xs, ys, rfl, rfl, h3, h4, by rw [← r3.len, ← r4.len]; exact q.1, fun p n => k _ _ _ q.2 (R.new n) (R.mkL n (r3.app r4))⟩
  · exact q.elim⟩
def oCatT : D → D → (D → Prop) → Prop := fun x y Q => match x, y with
  | .tuple a, .tuple b => a.length + b.length ≤ sizeLine ∧ Q (.tuple (a ++ b))
  | _, _ => False
theorem RepL.nil_iff {H : Hp} {M : Addr → Prop} {ds : List D} {xs : List V} (r : RepL K H M ds xs) (h : xs = []) : ds = [] := by
  subst h
  cases r
  rfl
theorem rv_catT : RfV2 K (rCatA K) oCatT := ⟨fun R h1 h2 q k => by
  unfold oCatT at q
  split at q
  · obtain ⟨a, xs, rfl, h3, r3⟩ := h1.tup
    obtain ⟨b, ys, rfl, h4, r4⟩ := h2.tup
    refine ⟨a, b, xs, ys, rfl, rfl, h3.sq, h4.sq, by rw [← r3.len, ← r4.len]; exact q.1, fun e => ?_, fun _ e => ?_, fun _ _ p n => k _ _ _ q.2 (R.new n) (R.mkT n (r3.app r4))⟩
    · have e' := r3.nil_iff e
      subst e'
      exact k _ _ _ q.2 (stp_refl R) (.tup h4 r4)
    · have e' := r4.nil_iff e
      subst e'
      rw [List.append_nil] at q
      exact k _ _ _ q.2 (stp_refl R) (.tup h3 r3)
  · exact q.elim⟩
def oCatS : D → D → (D → Prop) → Prop := fun x y Q => match x, y with
  | .str a, .str b => a.length + b.length ≤ sizeLine ∧ Q (.str (a ++ b))
  | _, _ => False
theorem rv_catS : RfV2 K (fun x y H Q => ∃ i j, x = .str i ∧ y = .str j ∧ i.length + j.length ≤ sizeLine ∧ Q (.str (i ++ j)) H) oCatS := ⟨fun R h1 h2 q k => by
  unfold oCatS at q
  split at q
  · cases h1 with | r h1 =>
    cases h2 with | r h2 =>
    cases h1; cases h2
    exact ⟨_, _, rfl, rfl, q.1, k _ _ _ q.2 (stp_refl R) (.str _)⟩
  · exact q.elim⟩
/-! in -/
def flatD : D → Bool
  | .none => true | .bool _ => true | .int _ => true | .str _ => true | _ => false
def inD (x : D) (xs : List D) : Bool := xs.any fun y => PyData.eqv y x
theorem flat_V {H : Hp} {M : Addr → Prop} {d : D} {v : V} (h : Rep K H M d v) : flatV v = flatD d := by cases h <;> rfl
theorem flat_all {H : Hp} {M : Addr → Prop} : ∀ {ds : List D} {vs : List V}, RepL K H M ds vs → vs.all flatV = ds.all flatD
  | _, _, .nil => rfl
  | _, _, .cons h r => by rw [List.all_cons, List.all_cons, flat_V h, flat_all r]
theorem eqV_D {H : Hp} {M : Addr → Prop} {d e : D} {v u : V} (h : Rep K H M d v) (h2 : Rep K H M e u) (f : flatD d = true) (f2 : flatD e = true) : eqV v u = PyData.eqv d e := by
  cases h <;> cases h2 <;> first | rfl | (simp [flatD] at f) | (simp [flatD] at f2)
theorem inV_D {H : Hp} {M : Addr → Prop} {d : D} {v : V} (h : Rep K H M d v) (f : flatD d = true) : ∀ {ds : List D} {vs : List V}, RepL K H M ds vs → ds.all flatD = true → inV v vs = inD d ds
  | _, _, .nil, _ => rfl
  | _, _, .cons h1 r, g => by
    rw [List.all_cons, Bool.and_eq_true] at g
    have := inV_D h f r g.2
    unfold inV inD at this ⊢
    rw [List.any_cons, List.any_cons, this, eqV_D h1 h g.1 f]
def oIn (neg : Bool) : D → D → (D → Prop) → Prop := fun x y Q => match seqOf y with
  | some ds => flatD x = true ∧ ds.all flatD = true ∧ Q (.bool (if neg then !inD x ds else inD x ds))
  | none => False
theorem rv_in (neg : Bool) : RfV2 K (rIn K neg) (oIn neg) := ⟨fun {A st ow σ H env a b x y Qd Q} R h1 h2 q k => by
  unfold oIn at q
  split at q
  · rename_i ds e
    obtain ⟨p, xs, rfl, hs, r⟩ := h2.seq e
    obtain ⟨f1, f2, q⟩ := q
    cases h1 with
    | r h1 => exact ⟨p, xs, rfl, hs, by rw [flat_V h1]; exact f1, by rw [flat_all r]; exact f2, by rw [inV_D h1 f1 r f2]; exact k _ _ _ q (stp_refl R) (.bl _)⟩
    | o h n r => cases f1
    | k h n r => cases f1
  · exact q.elim⟩
def oInS (neg : Bool) : D → D → (D → Prop) → Prop := fun x y Q => match x, y with
  | .str u, .str z => ∃ c, u = ⟨#[c]⟩ ∧ Q (.bool (if neg then !decide (c ∈ z.cps.toList) else decide (c ∈ z.cps.toList)))
  | _, _ => False
theorem rv_inS : RfV2 K (fun x y H Q => ∃ (c : Nat) (z : Str), x = .str ⟨#[c]⟩ ∧ y = .str z ∧ Q (.bl (decide (c ∈ z.cps.toList))) H) (oInS false) := ⟨fun R h1 h2 q k => by
  unfold oInS at q
  split at q
  · cases h1 with | r h1 =>
    cases h2 with | r h2 =>
    cases h1; cases h2
    obtain ⟨c, rfl, q⟩ := q
    exact ⟨_, _, rfl, rfl, k _ _ _ q (stp_refl R) (.bl _)⟩
  · exact q.elim⟩
end
section
variable {K : PySem.W.Frag}
theorem To.refl (H : Hp) (M : Addr → Prop) : To H H M M := ⟨fun _ _ h n => ⟨h, n⟩⟩
theorem To.trans {H H1 H2 : Hp} {M M1 M2 : Addr → Prop} (a : To H H1 M M1) (b : To H1 H2 M1 M2) : To H H2 M M2 := ⟨fun p o h n => b.h p o (a.h p o h n).1 (a.h p o h n).2⟩
/-! tests -/
def dTb (de : Ev → (D → Prop) → Prop) : Ev → (Bool → Prop) → Prop := fun env Q => de env fun x => match x with | .bool b => Q b | _ => False
theorem rt_test {t : TE} {de : Ev → (D → Prop) → Prop} (h : RfE K t de) : RfT K (tTest t) (dTb de) := ⟨fun R q k => h.run R q fun d v H' q' s r => by
  split at q'
  · cases r
    exact ⟨_, rfl, k _ _ q' s⟩
  · exact q'.elim⟩
theorem rt_val {t : TE} {de : Ev → (D → Prop) → Prop} (h : RfE K t de) : RfT K (tB t) (dTb de) := ⟨fun R q k => h.run R q fun d v H' q' s r => by
  split at q'
  · cases r
    exact ⟨_, rfl, k _ _ q' s⟩
  · exact q'.elim⟩
def dAnd (a b : Ev → (Bool → Prop) → Prop) : Ev → (Bool → Prop) → Prop := fun env Q => a env fun c => if c = true then b env Q else Q false
def dOr (a b : Ev → (Bool → Prop) → Prop) : Ev → (Bool → Prop) → Prop := fun env Q => a env fun c => if c = true then Q true else b env Q
def dNot (a : Ev → (Bool → Prop) → Prop) : Ev → (Bool → Prop) → Prop := fun env Q => a env fun c => Q (!c)
theorem rt_and {t u : TT} {a b : Ev → (Bool → Prop) → Prop} (h1 : RfT K t a) (h2 : RfT K u b) : RfT K (tAnd t u) (dAnd a b) := ⟨fun R q k => h1.run R q fun c H1 q1 s1 => by
  cases c with
  | true =>
    rw [if_pos rfl] at q1 ⊢
    exact h2.run (R.step s1) q1 fun c H2 q2 s2 => k c H2 q2 (s1.trans s2)
  | false =>
    rw [if_neg Bool.false_ne_true] at q1 ⊢
    exact k _ _ q1 s1⟩
theorem rt_or {t u : TT} {a b : Ev → (Bool → Prop) → Prop} (h1 : RfT K t a) (h2 : RfT K u b) : RfT K (tOr t u) (dOr a b) := ⟨fun R q k => h1.run R q fun c H1 q1 s1 => by
  cases c with
  | false =>
    rw [if_neg Bool.false_ne_true] at q1 ⊢
    exact h2.run (R.step s1) q1 fun c H2 q2 s2 => k c H2 q2 (s1.trans s2)
  | true =>
    rw [if_pos rfl] at q1 ⊢
    exact k _ _ q1 s1⟩
theorem rt_not {t : TT} {a : Ev → (Bool → Prop) → Prop} (h : RfT K t a) : RfT K (tNot t) (dNot a) := ⟨fun R q k => h.run R q fun c H1 q1 s1 => k _ _ q1 s1⟩
def dYes : Ev → (Bool → Prop) → Prop := fun _ Q => Q true
theorem rt_yes : RfT K tYes dYes := ⟨fun R q k => k _ _ q (stp_refl R)⟩
/-! expressions that branch -/
def dAndV (a b : Ev → (D → Prop) → Prop) : Ev → (D → Prop) → Prop := fun env Q => a env fun x => match x with | .bool c => if c = true then b env Q else Q (.bool false) | _ => False
def dOrV (a b : Ev → (D → Prop) → Prop) : Ev → (D → Prop) → Prop := fun env Q => a env fun x => match x with | .bool c => if c = true then Q (.bool true) else b env Q | _ => False
def dNotV (a : Ev → (D → Prop) → Prop) : Ev → (D → Prop) → Prop := fun env Q => a env fun x => match x with | .bool c => Q (.bool (!c)) | _ => False
def dIfV (c : Ev → (Bool → Prop) → Prop) (a b : Ev → (D → Prop) → Prop) : Ev → (D → Prop) → Prop := fun env Q => c env fun k => if k = true then a env Q else b env Q
theorem re_and {t u : TE} {a b : Ev → (D → Prop) → Prop} (h1 : RfE K t a) (h2 : RfE K u b) : RfE K (tAndV t u) (dAndV a b) := ⟨fun R q k => h1.run R q fun x v H1 q1 s1 r1 => by
  split at q1
  · rename_i c
    cases r1
    refine ⟨_, rfl, ?_⟩
    cases c with
    | true =>
      rw [if_pos rfl] at q1 ⊢
      exact h2.run (R.step s1) q1 fun d v H2 q2 s2 r2 => k d v H2 q2 (s1.trans s2) r2
    | false =>
      rw [if_neg Bool.false_ne_true] at q1 ⊢
      exact k _ _ _ q1 s1 (.bl _)
  · exact q1.elim⟩
theorem re_or {t u : TE} {a b : Ev → (D → Prop) → Prop} (h1 : RfE K t a) (h2 : RfE K u b) : RfE K (tOrV t u) (dOrV a b) := ⟨fun R q k => h1.run R q fun x v H1 q1 s1 r1 => by
  split at q1
  · rename_i c
    cases r1
    refine ⟨_, rfl, ?_⟩
    cases c with
    | false =>
      rw [if_neg Bool.false_ne_true] at q1 ⊢
      exact h2.run (R.step s1) q1 fun d v H2 q2 s2 r2 => k d v H2 q2 (s1.trans s2) r2
    | true =>
      rw [if_pos rfl] at q1 ⊢
      exact k _ _ _ q1 s1 (.bl _)
  · exact q1.elim⟩
theorem re_not {t : TE} {a : Ev → (D → Prop) → Prop} (h : RfE K t a) : RfE K (tNotV t) (dNotV a) := ⟨fun R q k => h.run R q fun x v H1 q1 s1 r1 => by
  split at q1
  · cases r1
    exact ⟨_, rfl, k _ _ _ q1 s1 (.bl _)⟩
  · exact q1.elim⟩
theorem re_if {c : TT} {t u : TE} {dc : Ev → (Bool → Prop) → Prop} {a b : Ev → (D → Prop) → Prop} (hc : RfT K c dc) (h1 : RfE K t a) (h2 : RfE K u b) : RfE K (tIf c t u) (dIfV dc a b) := ⟨fun R q k => hc.run R q fun c H1 q1 s1 => by
  cases c with
  | true =>
    rw [if_pos rfl] at q1 ⊢
    exact h1.run (R.step s1) q1 fun d v H2 q2 s2 r2 => k d v H2 q2 (s1.trans s2) r2
  | false =>
    rw [if_neg Bool.false_ne_true] at q1 ⊢
    exact h2.run (R.step s1) q1 fun d v H2 q2 s2 r2 => k d v H2 q2 (s1.trans s2) r2⟩
def dChain (op op' : D → D → (D → Prop) → Prop) (a b c : Ev → (D → Prop) → Prop) : Ev → (D → Prop) → Prop := fun env Q => a env fun x => b env fun y => op x y fun z => match z with
  | .bool k => if k = true then c env fun w => op' y w Q else Q (.bool false)
  | _ => False
theorem re_chain {r r' : R2} {op op' : D → D → (D → Prop) → Prop} {ta tb tc : TE} {a b c : Ev → (D → Prop) → Prop} (ho : RfV2 K r op) (ho' : RfV2 K r' op') (ha : RfB K ta a) (hb : RfB K tb b) (hc : RfB K tc c) : RfE K (tChain r r' ta tb tc) (dChain op op' a b c) := ⟨fun {A st ow σ H env Qd Q} R q k =>
  ha.run R q fun x v H1 q1 s1 r1 => hb.run (R.step s1) q1 fun y u H2 q2 s2 r2 => ho.run ((R.step s1).step s2) ((R.step s1).stepB s2 r1) r2 q2 fun z w H3 q3 s3 r3 => by
    have R3 := ((R.step s1).step s2).step s3
    split at q3
    · rename_i k'
      cases r3
      refine ⟨_, rfl, ?_⟩
      cases k' with
      | true =>
        rw [if_pos rfl] at q3 ⊢
        exact hc.run R3 q3 fun y' u' H4 q4 s4 r4 => ho'.run (R3.step s4) (R3.stepB s4 (((R.step s1).step s2).stepB s3 r2)) r4 q4 fun d v H5 q5 s5 r5 => k d v H5 q5 (s1.trans (s2.trans (s3.trans (s4.trans s5)))) r5
      | false =>
        rw [if_neg Bool.false_ne_true] at q3 ⊢
        exact k _ _ _ q3 (s1.trans (s2.trans s3)) (.bl _)
    · exact q3.elim⟩
/-! arguments -/
structure RfN (K : PySem.W.Frag) (n : Nat) (t : TA) (da : Ev → (List D → Prop) → Prop) : Prop where
  run : ∀ {A : Addr → Prop} {st : Option (Addr × Addr)} {ow : Nat → Option Addr} {σ : L2.St} {H : Hp} {env : Ev} {Qd : List D → Prop} {Q : List V → Hp → Prop},
  RE K A st ow σ H env → da env Qd → (∀ ds vs H', Qd ds → ds.length = n → Stp st H H' → RepL K H' (Mo A ow) ds vs → Q vs H') → t σ H Q
def dNil : Ev → (List D → Prop) → Prop := fun _ Q => Q []
def dCons (de : Ev → (D → Prop) → Prop) (da : Ev → (List D → Prop) → Prop) : Ev → (List D → Prop) → Prop := fun env Q => de env fun x => da env fun xs => Q (x :: xs)
theorem raN : RfN K 0 tNil dNil := ⟨fun R q k => k _ _ _ q rfl (stp_refl R) .nil⟩
theorem raC {n : Nat} {te : TE} {ta : TA} {de : Ev → (D → Prop) → Prop} {da : Ev → (List D → Prop) → Prop} (h : RfE K te de) (hs : RfN K n ta da) : RfN K (n + 1) (tCons te ta) (dCons de da) := ⟨fun R q k =>
  h.run R q fun d v H1 q1 s1 r1 => hs.run (R.step s1) q1 fun ds vs H2 q2 e2 s2 r2 => k (d :: ds) (v :: vs) H2 q2 (congrArg (· + 1) e2) (s1.trans s2) (.cons (Rep.to ((R.step s1).toS s2) r1) r2)⟩
theorem rbN : RfAB K tNil dNil := ⟨fun R q k => k _ _ _ q (stp_refl R) .nil⟩
theorem rbC {te : TE} {ta : TA} {de : Ev → (D → Prop) → Prop} {da : Ev → (List D → Prop) → Prop} (h : RfB K te de) (hs : RfAB K ta da) : RfAB K (tCons te ta) (dCons de da) := ⟨fun R q k =>
  h.run R q fun d v H1 q1 s1 r1 => hs.run (R.step s1) q1 fun ds vs H2 q2 s2 r2 => k (d :: ds) (v :: vs) H2 q2 (s1.trans s2) (.cons ((R.step s1).stepB s2 r1) r2)⟩
theorem Stp.none {st : Option (Addr × Addr)} {H H' : Hp} (s : Stp st H H') {p : Addr} (n : H' p = none) : H p = none := by
  cases e : H p with
  | none => rfl
  | some o =>
    by_cases hx : p ∈ exs st
    · exact absurd n (s.l.ne p hx)
    · rw [s.k p o e hx] at n; cases n
/-! new things -/
/-- a new list -/
structure RfF (K : PySem.W.Frag) (t : TE) (df : Ev → (List D → Prop) → Prop) : Prop where
  run : ∀ {A : Addr → Prop} {st : Option (Addr × Addr)} {ow : Nat → Option Addr} {σ : L2.St} {H : Hp} {env : Ev} {Qd : List D → Prop} {Q : VK},
  RE K A st ow σ H env → df env Qd → (∀ ds a vs H', Qd ds → Stp st H H' → H a = none → H' a = some (.lst vs) → RepL K H' (fun b => Mo A ow b ∨ b = a) ds vs → Q (.ref a) H') → t σ H Q
def dL (df : Ev → (List D → Prop) → Prop) : Ev → (D → Prop) → Prop := fun env Q => df env fun ds => Q (.list ds)
theorem RE.fr0 {A : Addr → Prop} {st : Option (Addr × Addr)} {ow : Nat → Option Addr} {σ : L2.St} {H : Hp} {env : Ev} (R : RE K A st ow σ H env) {a : Addr} (n : H a = none) : ¬ Mo A ow a := R.newM n
theorem RfF.e {t : TE} {df : Ev → (List D → Prop) → Prop} (h : RfF K t df) : RfE K t (dL df) := ⟨fun R q k => h.run R q fun ds a vs H' q' s n e r => k _ _ _ q' s (.lst e (R.newM n) (RepL.to ⟨fun b o x y => ⟨x, fun z => y (.inl z)⟩⟩ r))⟩
def dTup (da : Ev → (List D → Prop) → Prop) : Ev → (D → Prop) → Prop := fun env Q => da env fun xs => Q (.tuple xs)
theorem len_small {n m : Nat} (e : m = n) (h : n ≤ 1000) : m ≤ sizeLine := Nat.le_trans (e ▸ h) (by decide)
theorem re_tup {n : Nat} {t : TA} {da : Ev → (List D → Prop) → Prop} (h : RfN K n t da) (hn : n ≤ 1000 := by decide) : RfE K (tTup t) (dTup da) := ⟨fun R q k => h.run R q fun ds vs H1 q1 e1 s1 r1 =>
  ⟨len_small (r1.len.symm.trans e1) hn, fun p np => k _ _ _ q1 (s1.trans ((R.step s1).new np)) ((R.step s1).mkT np r1)⟩⟩
theorem rf_lst {n : Nat} {t : TA} {da : Ev → (List D → Prop) → Prop} (h : RfN K n t da) (hn : n ≤ 1000 := by decide) : RfF K (tLst t) da := ⟨fun R q k => h.run R q fun ds vs H1 q1 e1 s1 r1 =>
  ⟨len_small (r1.len.symm.trans e1) hn, fun p np => k _ _ _ _ q1 (s1.trans ((R.step s1).new np)) (s1.none np) upd_same (RepL.to (new_to np fun a z => z) r1)⟩⟩
/-! calls of built-in functions -/
def dCB (op : List D → (D → Prop) → Prop) (da : Ev → (List D → Prop) → Prop) : Ev → (D → Prop) → Prop := fun env Q => da env fun xs => op xs Q
theorem re_cb {r : List V → Hp → VK → Prop} {op : List D → (D → Prop) → Prop} {t : TA} {da : Ev → (List D → Prop) → Prop} (ho : RfVL K r op) (ha : RfAB K t da) : RfE K (tCB r t) (dCB op da) := ⟨fun R q k =>
  ha.run R q fun ds vs H1 q1 s1 r1 => ho.run (R.step s1) r1 q1 fun d v H2 q2 s2 r2 => k d v H2 q2 (s1.trans s2) r2⟩
def oAbs : List D → (D → Prop) → Prop := fun xs Q => match xs with | [.int i] => Q (.int (if i < 0 then -i else i)) | _ => False
theorem RepB.int {H : Hp} {A M : Addr → Prop} {i : Int} {v : V} (h : RepB K H A M (.int i) v) : v = .int i := by cases h with | r h => cases h; rfl
theorem RepB.bl {H : Hp} {A M : Addr → Prop} {i : Bool} {v : V} (h : RepB K H A M (.bool i) v) : v = .bl i := by cases h with | r h => cases h; rfl
theorem RepB.str {H : Hp} {A M : Addr → Prop} {i : Str} {v : V} (h : RepB K H A M (.str i) v) : v = .str i := by cases h with | r h => cases h; rfl
theorem RepBL.one {H : Hp} {A M : Addr → Prop} {d : D} {vs : List V} (h : RepBL K H A M [d] vs) : ∃ v, vs = [v] ∧ RepB K H A M d v := by
  cases h with | cons h r => cases r; exact ⟨_, rfl, h⟩
theorem RepBL.two {H : Hp} {A M : Addr → Prop} {d e : D} {vs : List V} (h : RepBL K H A M [d, e] vs) : ∃ v u, vs = [v, u] ∧ RepB K H A M d v ∧ RepB K H A M e u := by
  cases h with | cons h r =>
  obtain ⟨u, rfl, z⟩ := r.one
  exact ⟨_, _, rfl, h, z⟩
theorem ro_abs : RfVL K (fun xs H Q => ∃ i, xs = [.int i] ∧ Q (.int (if i < 0 then -i else i)) H) oAbs := ⟨fun R h q k => by
  unfold oAbs at q
  split at q
  · obtain ⟨v, rfl, z⟩ := h.one
    cases z.int
    exact ⟨_, rfl, k _ _ _ q (stp_refl R) (.int _)⟩
  · exact q.elim⟩
def oI2 (g : Int → Int → Int) : List D → (D → Prop) → Prop := fun xs Q => match xs with | [.int i, .int j] => Q (.int (g i j)) | _ => False
theorem ro_min : RfVL K (fun xs H Q => ∃ i j, xs = [.int i, .int j] ∧ Q (.int (if j < i then j else i)) H) (oI2 fun i j => if j < i then j else i) := ⟨fun R h q k => by
  unfold oI2 at q
  split at q
  · obtain ⟨v, u, rfl, z1, z2⟩ := h.two
    cases z1.int; cases z2.int
    exact ⟨_, _, rfl, k _ _ _ q (stp_refl R) (.int _)⟩
  · exact q.elim⟩
theorem ro_max : RfVL K (fun xs H Q => ∃ i j, xs = [.int i, .int j] ∧ Q (.int (if j > i then j else i)) H) (oI2 fun i j => if j > i then j else i) := ⟨fun R h q k => by
  unfold oI2 at q
  split at q
  · obtain ⟨v, u, rfl, z1, z2⟩ := h.two
    cases z1.int; cases z2.int
    exact ⟨_, _, rfl, k _ _ _ q (stp_refl R) (.int _)⟩
  · exact q.elim⟩
def oLen : List D → (D → Prop) → Prop := fun xs Q => match xs with | [d] => (match seqOf d with | some ds => Q (.int ds.length) | none => False) | _ => False
theorem ro_len : RfVL K (fun xs H Q => ∃ p ys, xs = [.ref p] ∧ (SqL K H p ys ∨ SqT K H p ys) ∧ Q (.int ys.length) H) oLen := ⟨fun {A st ow σ H env ds vs Qd Q} R h q k => by
  unfold oLen at q
  split at q
  · split at q
    · rename_i ds e
      obtain ⟨v, rfl, z⟩ := h.one
      obtain ⟨a, xs, rfl, hs, r⟩ := z.seq e
      exact ⟨_, _, rfl, hs, by rw [← r.len]; exact k _ _ _ q (stp_refl R) (.int _)⟩
    · exact q.elim
  · exact q.elim⟩
def oLenS : List D → (D → Prop) → Prop := fun xs Q => match xs with | [.str z] => z.length ≤ sizeLine ∧ Q (.int z.length) | _ => False
theorem ro_lenS : RfVL K (fun xs H Q => ∃ z, xs = [.str z] ∧ z.length ≤ sizeLine ∧ Q (.int z.length) H) oLenS := ⟨fun R h q k => by
  unfold oLenS at q
  split at q
  · obtain ⟨v, rfl, z⟩ := h.one
    cases z.str
    exact ⟨_, rfl, q.1, k _ _ _ q.2 (stp_refl R) (.int _)⟩
  · exact q.elim⟩
def oInt : List D → (D → Prop) → Prop := fun xs Q => match xs with | [.int i] => Q (.int i) | [.bool k] => Q (.int (if k then 1 else 0)) | _ => False
theorem ro_int : RfVL K (fun xs H Q => (∃ i, xs = [.int i] ∧ Q (.int i) H) ∨ ∃ k, xs = [.bl k] ∧ Q (.int (if k then 1 else 0)) H) oInt := ⟨fun R h q k => by
  unfold oInt at q
  split at q
  · obtain ⟨v, rfl, z⟩ := h.one
    cases z.int
    exact .inl ⟨_, rfl, k _ _ _ q (stp_refl R) (.int _)⟩
  · obtain ⟨v, rfl, z⟩ := h.one
    cases z.bl
    exact .inr ⟨_, rfl, k _ _ _ q (stp_refl R) (.int _)⟩
  · exact q.elim⟩
def intsOf : List D → Option (List Int)
  | [] => some []
  | .int i :: r => (intsOf r).map (i :: ·)
  | _ :: _ => none
def boolsOf : List D → Option (List Bool)
  | [] => some []
  | .bool i :: r => (boolsOf r).map (i :: ·)
  | _ :: _ => none
theorem ints_V {H : Hp} {M : Addr → Prop} : ∀ {ds : List D} {vs : List V} {ns : List Int}, RepL K H M ds vs → intsOf ds = some ns → vs = ns.map V.int
  | [], _, _, .nil, e => by cases e; rfl
  | .int i :: r, _, ns, .cons h t, e => by
    unfold intsOf at e
    cases z : intsOf r with
    | none => rw [z] at e; cases e
    | some ms =>
      rw [z] at e
      cases e
      cases h
      rw [ints_V t z, List.map_cons]
theorem bools_V {H : Hp} {M : Addr → Prop} : ∀ {ds : List D} {vs : List V} {ns : List Bool}, RepL K H M ds vs → boolsOf ds = some ns → vs = ns.map V.bl
  | [], _, _, .nil, e => by cases e; rfl
  | .bool i :: r, _, ns, .cons h t, e => by
    unfold boolsOf at e
    cases z : boolsOf r with
    | none => rw [z] at e; cases e
    | some ms =>
      rw [z] at e
      cases e
      cases h
      rw [bools_V t z, List.map_cons]
def oSum : List D → (D → Prop) → Prop := fun xs Q => match xs with | [.list ds] => (match intsOf ds with | some ns => Q (.int ns.sum) | none => False) | _ => False
theorem ro_sum : RfVL K (rSum K) oSum := ⟨fun R h q k => by
  unfold oSum at q
  split at q
  · split at q
    · rename_i ns e
      obtain ⟨v, rfl, z⟩ := h.one
      obtain ⟨a, xs, rfl, hs, r⟩ := z.lst
      cases ints_V r e
      exact ⟨_, _, rfl, SqL.of hs, k _ _ _ q (stp_refl R) (.int _)⟩
    · exact q.elim
  · exact q.elim⟩
def oBs (g : List Bool → Bool) : List D → (D → Prop) → Prop := fun xs Q => match xs with | [.list ds] => (match boolsOf ds with | some ns => Q (.bool (g ns)) | none => False) | _ => False
theorem ro_all : RfVL K (rAll K) (oBs fun bs => bs.all id) := ⟨fun R h q k => by
  unfold oBs at q
  split at q
  · split at q
    · rename_i ns e
      obtain ⟨v, rfl, z⟩ := h.one
      obtain ⟨a, xs, rfl, hs, r⟩ := z.lst
      cases bools_V r e
      exact ⟨_, _, rfl, SqL.of hs, k _ _ _ q (stp_refl R) (.bl _)⟩
    · exact q.elim
  · exact q.elim⟩
theorem ro_any : RfVL K (rAny K) (oBs fun bs => bs.any id) := ⟨fun R h q k => by
  unfold oBs at q
  split at q
  · split at q
    · rename_i ns e
      obtain ⟨v, rfl, z⟩ := h.one
      obtain ⟨a, xs, rfl, hs, r⟩ := z.lst
      cases bools_V r e
      exact ⟨_, _, rfl, SqL.of hs, k _ _ _ q (stp_refl R) (.bl _)⟩
    · exact q.elim
  · exact q.elim⟩
def oTupOf : List D → (D → Prop) → Prop := fun xs Q => match xs with | [d] => (match seqOf d with | some ds => Q (.tuple ds) | none => False) | _ => False
theorem ro_tupOf : RfVL K (fun xs H Q => ∃ p ys, xs = [.ref p] ∧ ((SqL K H p ys ∧ ∀ l, H l = none → Q (.ref l) (upd H l (.tup ys))) ∨ (SqT K H p ys ∧ Q (.ref p) H))) oTupOf := ⟨fun {A st ow σ H env ds vs Qd Q} R h q k => by
  unfold oTupOf at q
  split at q
  · rename_i d
    split at q
    · rename_i ds e
      obtain ⟨v, rfl, z⟩ := h.one
      cases d with
      | list _ =>
        cases e
        obtain ⟨a, xs, rfl, hs, r⟩ := z.lst
        exact ⟨_, _, rfl, .inl ⟨SqL.of hs, fun p n => k _ _ _ q (R.new n) (R.mkT n r)⟩⟩
      | tuple _ =>
        cases e
        obtain ⟨a, xs, rfl, hs, r⟩ := z.tup
        exact ⟨_, _, rfl, .inr ⟨hs.sq, k _ _ _ q (stp_refl R) (.tup hs r)⟩⟩
      | _ => cases e
    · exact q.elim
  · exact q.elim⟩
def dSeqOf (da : Ev → (D → Prop) → Prop) : Ev → (List D → Prop) → Prop := fun env Q => da env fun d => match seqOf d with | some ds => Q ds | none => False
theorem rf_listOf {ta : TE} {da : Ev → (D → Prop) → Prop} (h : RfB K ta da) : RfF K (tCB (fun xs H Q => ∃ p ys, xs = [.ref p] ∧ (SqL K H p ys ∨ SqT K H p ys) ∧ ∀ l, H l = none → Q (.ref l) (upd H l (.lst ys))) (tCons ta tNil)) (dSeqOf da) := ⟨fun R q k => h.run R q fun d v H1 q1 s1 r1 => by
  split at q1
  · rename_i ds e
    obtain ⟨a, xs, rfl, hs, r⟩ := r1.seq e
    exact ⟨_, _, rfl, hs, fun l n => k _ _ _ _ q1 (s1.trans ((R.step s1).new n)) (s1.none n) upd_same (RepL.to (new_to n fun a z => z) r)⟩
  · exact q1.elim⟩
/-! isinstance -/
def tyN : D → String
  | .none => "NoneType" | .bool _ => "bool" | .int _ => "int" | .str _ => "str" | .list _ => "list" | .tuple _ => "tuple" | .dict _ => "dict"
theorem RepB.ty {H : Hp} {A M : Addr → Prop} {d : D} {v : V} (h : RepB K H A M d v) : TyX K H v (.type (tyN d)) := by
  cases h with
  | r h =>
    cases h with
    | non => exact .base .non
    | bl b => exact .base (.bl b)
    | int b => exact .base (.int b)
    | str b => exact .base (.str b)
    | lst h _ _ => exact .base (.lst h)
    | tup h _ =>
      rcases h with ⟨h | ⟨o, h⟩, _⟩ | ⟨o, its, n, h1, h2, _⟩
      · exact .base (.tup h)
      · exact .fTuple h
      · exact .kTuple h1 h2
    | dct h _ _ => exact .base (.dK h)
  | o h _ _ => exact .base (.lst h)
  | k h _ _ => exact .base (.dK h)
def tys : List String := ["bool", "int", "str", "list", "tuple", "dict"]
def isTy (n : String) : D → Bool
  | .none => false | .bool _ => n == "bool" || n == "int" | .int _ => n == "int" | .str _ => n == "str" | .list _ => n == "list" | .tuple _ => n == "tuple" | .dict _ => n == "dict"
theorem kit_tab : (tys.all fun n => ["NoneType", "bool", "int", "str", "list", "tuple", "dict"].all fun m => kitB m n == some (m == n || (m == "bool" && n == "int"))) = true := by decide +kernel
theorem kit_ty {n : String} (hn : n ∈ tys) (d : D) : PySem.W.kitOne K (.type (tyN d)) (.type n) = some (isTy n d) := by
  have h := kit_tab
  rw [List.all_eq_true] at h
  have h1 := h n hn
  rw [List.all_eq_true] at h1
  have h2 := eq_of_beq (h1 (tyN d) (by cases d <;> simp [tyN]))
  refine (show PySem.W.kitOne K (.type (tyN d)) (.type n) = kitB (tyN d) n from rfl).trans (h2.trans (congrArg some ?_))
  have hn' : n = "bool" ∨ n = "int" ∨ n = "str" ∨ n = "list" ∨ n = "tuple" ∨ n = "dict" := by simpa [tys] using hn
  rcases hn' with rfl | rfl | rfl | rfl | rfl | rfl <;> cases d <;> simp [tyN, isTy]
def dIsi (n : String) (da : Ev → (D → Prop) → Prop) : Ev → (D → Prop) → Prop := fun env Q => da env fun x => Q (.bool (isTy n x))
theorem re_isi {n : String} {ta : TE} {da : Ev → (D → Prop) → Prop} (h : RfB K ta da) (hn : n ∈ tys := by decide) : RfE K (tCB (rIsi K) (tCons ta (tCons (tC (.ty n)) tNil))) (dIsi n da) := ⟨fun R q k => h.run R q fun d v H1 q1 s1 r1 =>
  ⟨_, _, _, _, _, rfl, .ty n, r1.ty, kit_ty hn d, k _ _ _ q1 s1 (.bl _)⟩⟩
/-! slices -/
structure RfO (K : PySem.W.Frag) (t : TO) (dt : Ev → (Option Int → Prop) → Prop) : Prop where
  run : ∀ {A : Addr → Prop} {st : Option (Addr × Addr)} {ow : Nat → Option Addr} {σ : L2.St} {H : Hp} {env : Ev} {Qd : Option Int → Prop} {Q : Option Int → Hp → Prop},
  RE K A st ow σ H env → dt env Qd → (∀ d H', Qd d → Stp st H H' → Q d H') → t σ H Q
def dNoP : Ev → (Option Int → Prop) → Prop := fun _ Q => Q none
def dPart (de : Ev → (D → Prop) → Prop) : Ev → (Option Int → Prop) → Prop := fun env Q => de env fun x => match x with | .int i => Q (some i) | _ => False
theorem rp_no : RfO K tNoPart dNoP := ⟨fun R q k => k _ _ q (stp_refl R)⟩
theorem rp_some {t : TE} {de : Ev → (D → Prop) → Prop} (h : RfE K t de) : RfO K (tPart t) (dPart de) := ⟨fun R q k => h.run R q fun d v H1 q1 s1 r1 => by
  split at q1
  · cases r1
    exact ⟨_, rfl, k _ _ q1 s1⟩
  · exact q1.elim⟩
def dSlT (de : Ev → (D → Prop) → Prop) (dl dh : Ev → (Option Int → Prop) → Prop) : Ev → (D → Prop) → Prop := fun env Q => de env fun x => dl env fun l => dh env fun h => match x with | .tuple ds => Q (.tuple (cutD ds l h)) | _ => False
def dSlL (de : Ev → (D → Prop) → Prop) (dl dh : Ev → (Option Int → Prop) → Prop) : Ev → (List D → Prop) → Prop := fun env Q => de env fun x => dl env fun l => dh env fun h => match x with | .list ds => Q (cutD ds l h) | _ => False
def dSlS (de : Ev → (D → Prop) → Prop) (dl dh : Ev → (Option Int → Prop) → Prop) : Ev → (D → Prop) → Prop := fun env Q => de env fun x => dl env fun l => dh env fun h => match x with | .str z => z.length ≤ sizeLine ∧ Q (.str (cutS z l h)) | _ => False
theorem cut_whole {α : Type} {xs : List α} {lo hi : Option Int} (h : HT.sIx xs.length 0 lo = 0 ∧ HT.sIx xs.length xs.length hi = xs.length) : cutD xs lo hi = xs := by
  unfold cutD
  rw [h.1, h.2, List.drop_zero, Nat.sub_zero, List.take_length]
theorem re_slT {t : TE} {tl th : TO} {de : Ev → (D → Prop) → Prop} {dl dh : Ev → (Option Int → Prop) → Prop} (he : RfB K t de) (hl : RfO K tl dl) (hh : RfO K th dh) : RfE K (tSl (rSlA K) t tl th) (dSlT de dl dh) := ⟨fun R q k =>
  he.run R q fun d v H1 q1 s1 r1 => hl.run (R.step s1) q1 fun l H2 q2 s2 => hh.run ((R.step s1).step s2) q2 fun u H3 q3 s3 => by
    have R3 := ((R.step s1).step s2).step s3
    have s13 := s1.trans (s2.trans s3)
    split at q3
    · have r3 := ((R.step s1).step s2).stepB s3 ((R.step s1).stepB s2 r1)
      obtain ⟨a, xs, rfl, hs, r⟩ := r3.tup
      refine ⟨a, xs, rfl, hs.sq, fun e => ?_, fun _ p n => k _ _ _ q3 (s13.trans (R3.new n)) (R3.mkT n (cut_rep r))⟩
      rw [← r.len] at e
      rw [cut_whole e] at q3
      exact k _ _ _ q3 s13 (.tup hs r)
    · exact q3.elim⟩
theorem rf_slL {t : TE} {tl th : TO} {de : Ev → (D → Prop) → Prop} {dl dh : Ev → (Option Int → Prop) → Prop} (he : RfB K t de) (hl : RfO K tl dl) (hh : RfO K th dh) : RfF K (tSl (rSlL K) t tl th) (dSlL de dl dh) := ⟨fun R q k =>
  he.run R q fun d v H1 q1 s1 r1 => hl.run (R.step s1) q1 fun l H2 q2 s2 => hh.run ((R.step s1).step s2) q2 fun u H3 q3 s3 => by
    have R3 := ((R.step s1).step s2).step s3
    have s13 := s1.trans (s2.trans s3)
    split at q3
    · have r3 := ((R.step s1).step s2).stepB s3 ((R.step s1).stepB s2 r1)
      obtain ⟨a, xs, rfl, hs, r⟩ := r3.lst
      exact ⟨a, xs, rfl, SqL.of hs, fun p n => k _ _ _ _ q3 (s13.trans (R3.new n)) (s13.none n) upd_same (RepL.to (new_to n fun a z => z) (cut_rep r))⟩
    · exact q3.elim⟩
theorem re_slS {t : TE} {tl th : TO} {de : Ev → (D → Prop) → Prop} {dl dh : Ev → (Option Int → Prop) → Prop} (he : RfB K t de) (hl : RfO K tl dl) (hh : RfO K th dh) : RfE K (tSl rSlS t tl th) (dSlS de dl dh) := ⟨fun R q k =>
  he.run R q fun d v H1 q1 s1 r1 => hl.run (R.step s1) q1 fun l H2 q2 s2 => hh.run ((R.step s1).step s2) q2 fun u H3 q3 s3 => by
    have s13 := s1.trans (s2.trans s3)
    split at q3
    · cases r1.str
      exact ⟨_, rfl, q3.1, k _ _ _ q3.2 s13 (.str _)⟩
    · exact q3.elim⟩
/-! calls of defs -/
def spD (K : PySem.W.Frag) (f : List D → (D → Prop) → Prop) : Sp := fun vs H Q _ => ∃ (A : Addr → Prop) (ds : List D) (Qd : D → Prop), (∀ a, A a → H a ≠ none) ∧ RepL K H A ds vs ∧ f ds Qd ∧ ∀ d v H', Qd d → Same H H' → Rep K H' A d v → Q v H'
def spS (K : PySem.W.Frag) (f : List D → (D → Prop) → Prop) : Sp := fun vs H Q _ => ∃ (A : Addr → Prop) (q : Addr × Addr) (ds : List D) (ws : List V) (Qd : D → Prop), vs = .ref q.1 :: ws ∧ LS H q.1 q.2 ∧ A q.1 ∧ A q.2 ∧ (∀ a, A a → H a ≠ none) ∧ RepL K H A ds ws ∧ f ds Qd ∧
  ∀ d v H', Qd d → Stp (some q) H H' → Rep K H' A d v → Q v H'
def dCall (f : List D → (D → Prop) → Prop) (da : Ev → (List D → Prop) → Prop) : Ev → (D → Prop) → Prop := fun env Q => da env fun xs => f xs Q
def dCallS (i : Nat) (f : List D → (D → Prop) → Prop) (da : Ev → (List D → Prop) → Prop) : Ev → (D → Prop) → Prop := fun env Q => match eget env i with | some .st => da env fun xs => f xs Q | _ => False
theorem re_call {n : Nat} {f : List D → (D → Prop) → Prop} {E : XK} {t : TA} {da : Ev → (List D → Prop) → Prop} (h : RfN K n t da) : RfE K (tCall (spD K f) [] E t) (dCall f da) := ⟨fun R q k => h.run R q fun ds vs H1 q1 e1 s1 r1 => by
  have R1 := R.step s1
  exact ⟨_, ds, _, fun a => R1.alM, by rw [List.append_nil]; exact r1, q1, fun d v H2 q2 s2 r2 => k d v H2 q2 (s1.trans (.same s1.l s2)) r2⟩⟩
theorem re_callS {n i : Nat} {f : List D → (D → Prop) → Prop} {E : XK} {t : TA} {da : Ev → (List D → Prop) → Prop} (h : RfN K n t da) : RfE K (tCall (spS K f) [] E (tCons (tVar i) t)) (dCallS i f da) := ⟨fun R q k => by
  unfold dCallS at q
  split at q
  · rename_i e
    obtain ⟨v, hv, z, e1, rfl⟩ := R.sl i _ (eget_some e)
    refine ⟨_, hv, h.run R q fun ds vs H1 q1 _ s1 r1 => ?_⟩
    have R1 := R.step s1
    refine ⟨Mo _ _, z, ds, vs, _, by rw [List.append_nil], s1.l z e1, .inl (R.sta z e1).1, .inl (R.sta z e1).2, fun a => R1.alM, r1, q1, fun d v H2 q2 s2 r2 => ?_⟩
    subst e1
    exact k d v H2 q2 (s1.trans s2) r2
  · exact q.elim⟩
end
section
variable {K : PySem.W.Frag}
/-! what a for walks -/
def ItOk (K : PySem.W.Frag) (J : It) (ds : List D) (M0 : Addr → Prop) (H0 : Hp) : Prop := ∀ (M : Addr → Prop) (H : Hp), To H0 H M0 M → (∀ a, M a → H a ≠ none) → ∀ i,
  (i = ds.length → J.stop i H) ∧ ∀ d, ds[i]? = some d → J.go i H ∧ ∀ x H', J.yld i H x H' → Same H H' ∧ Rep K H' M d x
theorem ItOk.mono {J : It} {ds : List D} {M0 M1 : Addr → Prop} {H0 H1 : Hp} (h : ItOk K J ds M0 H0) (t : To H0 H1 M0 M1) : ItOk K J ds M1 H1 := fun M H t2 a i => h M H (t.trans t2) a i
structure RfI (K : PySem.W.Frag) (t : TI) (di : Ev → (List D → Prop) → Prop) : Prop where
  run : ∀ {A : Addr → Prop} {st : Option (Addr × Addr)} {ow : Nat → Option Addr} {σ : L2.St} {H : Hp} {env : Ev} {Qd : List D → Prop} {R : It → Hp → Prop},
  RE K A st ow σ H env → di env Qd → (∀ ds J H', Qd ds → Stp st H H' → ItOk K J ds (Mo A ow) H' → R J H') → t σ H R
theorem Same.refl' (H : Hp) : Same H H := fun _ _ h => h
theorem RepL.get2 {H : Hp} {M : Addr → Prop} {ds : List D} {vs : List V} (r : RepL K H M ds vs) {i : Nat} {d : D} {v : V} (e : ds[i]? = some d) (e2 : vs[i]? = some v) : Rep K H M d v := by
  obtain ⟨u, h1, h2⟩ := r.get e
  rw [e2] at h1
  cases h1
  exact h2
theorem itl_ok {a : Addr} {xs : List V} {ds : List D} {M : Addr → Prop} {H : Hp} (h : H a = some (.lst xs)) (n : ¬ M a) (r : RepL K H M ds xs) : ItOk K (Itl K a) ds M H := fun M' H' t _ i => by
  have h' := (t.h _ _ h n).1
  refine ⟨fun l => ⟨xs, SqL.of h', by rw [← r.len]; omega⟩, fun d e => ?_⟩
  obtain ⟨v, ev, rv⟩ := r.get e
  exact ⟨⟨xs, v, SqL.of h', ev⟩, fun x H2 ⟨e2, y⟩ => by
    subst e2
    have := y xs (SqL.of h')
    rw [ev] at this
    cases this
    exact ⟨Same.refl' _, Rep.to t rv⟩⟩
theorem itt_ok {a : Addr} {xs : List V} {ds : List D} {M : Addr → Prop} {H : Hp} (h : TupAt K H M a xs) (r : RepL K H M ds xs) : ItOk K (Itt K a) ds M H := fun M' H' t _ i => by
  have h' : SqT K H' a xs := by
    rcases h with ⟨h | ⟨o, h⟩, n⟩ | h
    · exact .inl (.inl (t.h _ _ h n).1)
    · exact .inl (.inr ⟨o, (t.h _ _ h n).1⟩)
    · exact .inr h
  refine ⟨fun l => ⟨xs, h', by rw [← r.len]; omega⟩, fun d e => ?_⟩
  obtain ⟨v, ev, rv⟩ := r.get e
  exact ⟨⟨xs, v, h', ev⟩, fun x H2 ⟨e2, y⟩ => by
    subst e2
    have := y xs h'
    rw [ev] at this
    cases this
    exact ⟨Same.refl' _, Rep.to t rv⟩⟩
def rng (lo : Int) (n : Nat) : List D := (List.range n).map fun i => PyData.int (lo + (i : Nat))
theorem itr_ok {lo : Int} {n : Nat} {M : Addr → Prop} {H : Hp} : ItOk K (Itr lo n) (rng lo n) M H := fun M' H' t _ i => by
  refine ⟨fun l => by unfold rng at l; rw [List.length_map, List.length_range] at l; show n ≤ i; omega, fun d e => ?_⟩
  have hi : i < n := by
    have := (List.getElem?_eq_some_iff.mp e).1
    unfold rng at this
    rw [List.length_map, List.length_range] at this
    exact this
  unfold rng at e
  rw [List.getElem?_map, List.getElem?_range hi] at e
  cases e
  exact ⟨hi, fun x H2 ⟨e2, y⟩ => by
    subst e2 y
    exact ⟨Same.refl' _, .int _⟩⟩
def dItL (de : Ev → (D → Prop) → Prop) : Ev → (List D → Prop) → Prop := fun env Q => de env fun x => match x with | .list ds => Q ds | _ => False
def dItT (de : Ev → (D → Prop) → Prop) : Ev → (List D → Prop) → Prop := fun env Q => de env fun x => match x with | .tuple ds => Q ds | _ => False
theorem ri_list {t : TE} {de : Ev → (D → Prop) → Prop} (h : RfE K t de) : RfI K (iList K t) (dItL de) := ⟨fun R q k => h.run R q fun d v H1 q1 s1 r1 => by
  split at q1
  · cases r1 with | lst h0 n r => exact ⟨_, rfl, ⟨_, SqL.of h0⟩, k _ _ _ q1 s1 (itl_ok h0 n r)⟩
  · exact q1.elim⟩
theorem ri_tup {t : TE} {de : Ev → (D → Prop) → Prop} (h : RfE K t de) : RfI K (iTup K t) (dItT de) := ⟨fun R q k => h.run R q fun d v H1 q1 s1 r1 => by
  split at q1
  · cases r1 with | tup h0 r => exact ⟨_, rfl, ⟨_, h0.sq⟩, k _ _ _ q1 s1 (itt_ok h0 r)⟩
  · exact q1.elim⟩
def dR1 (da : Ev → (List D → Prop) → Prop) : Ev → (List D → Prop) → Prop := fun env Q => da env fun xs => match xs with | [.int j] => -(2 ^ 62) ≤ j ∧ j < 2 ^ 62 ∧ Q (rng 0 j.toNat) | _ => False
def dR2 (da : Ev → (List D → Prop) → Prop) : Ev → (List D → Prop) → Prop := fun env Q => da env fun xs => match xs with | [.int i, .int j] => (-(2 ^ 62) ≤ i ∧ i < 2 ^ 62 ∧ -(2 ^ 62) ≤ j ∧ j < 2 ^ 62) ∧ Q (rng i (j - i).toNat) | _ => False
theorem ri_r1 {t : TA} {da : Ev → (List D → Prop) → Prop} (h : RfAB K t da) : RfI K (iRng1 t) (dR1 da) := ⟨fun R q k => h.run R q fun ds vs H1 q1 s1 r1 => by
  split at q1
  · obtain ⟨v, rfl, z⟩ := r1.one
    cases z.int
    exact ⟨_, rfl, q1.1, q1.2.1, k _ _ _ q1.2.2 s1 itr_ok⟩
  · exact q1.elim⟩
theorem ri_r2 {t : TA} {da : Ev → (List D → Prop) → Prop} (h : RfAB K t da) : RfI K (iRng2 t) (dR2 da) := ⟨fun R q k => h.run R q fun ds vs H1 q1 s1 r1 => by
  split at q1
  · obtain ⟨v, u, rfl, z1, z2⟩ := r1.two
    cases z1.int; cases z2.int
    exact ⟨_, _, rfl, q1.1, k _ _ _ q1.2 s1 itr_ok⟩
  · exact q1.elim⟩
def chars (z : Str) : List D := z.cps.toList.map fun c => PyData.str ⟨#[c]⟩
def dItS (de : Ev → (D → Prop) → Prop) : Ev → (List D → Prop) → Prop := fun env Q => de env fun x => match x with | .str z => Q (chars z) | _ => False
theorem its_ok {z : Str} {M : Addr → Prop} {H : Hp} : ItOk K (Its z) (chars z) M H := fun M' H' t _ i => by
  refine ⟨fun l => by unfold chars at l; rw [List.length_map] at l; show z.cps.size ≤ i; rw [← Array.length_toList]; omega, fun d e => ?_⟩
  unfold chars at e
  rw [List.getElem?_map] at e
  cases g : z.cps.toList[i]? with
  | none => rw [g] at e; cases e
  | some c =>
    rw [g] at e
    cases e
    have hi := (List.getElem?_eq_some_iff.mp g).1
    refine ⟨by simpa [Its] using hi, fun x H2 ⟨e2, c2, y1, y2⟩ => ?_⟩
    subst e2 y2
    rw [Array.getElem?_toList] at g
    rw [g] at y1
    cases y1
    exact ⟨Same.refl' _, .str _⟩
theorem ri_str {t : TE} {de : Ev → (D → Prop) → Prop} (h : RfE K t de) : RfI K (iStr t) (dItS de) := ⟨fun R q k => h.run R q fun d v H1 q1 s1 r1 => by
  split at q1
  · cases r1
    exact ⟨_, rfl, k _ _ _ q1 s1 its_ok⟩
  · exact q1.elim⟩
def zipD : List D → List D → List D
  | a :: r, b :: s => .tuple [a, b] :: zipD r s
  | _, _ => []
theorem zipD_get : ∀ {as bs : List D} {i : Nat} {d : D}, (zipD as bs)[i]? = some d → ∃ a b, as[i]? = some a ∧ bs[i]? = some b ∧ d = .tuple [a, b]
  | a :: r, b :: s, 0, d, e => by
    unfold zipD at e
    rw [List.getElem?_cons_zero] at e
    cases e
    exact ⟨a, b, rfl, rfl, rfl⟩
  | a :: r, b :: s, i + 1, d, e => by
    unfold zipD at e
    rw [List.getElem?_cons_succ] at e
    rw [List.getElem?_cons_succ, List.getElem?_cons_succ]
    exact zipD_get e
  | [], _, i, d, e => by simp [zipD] at e
  | _ :: _, [], i, d, e => by simp [zipD] at e
theorem zipD_len : ∀ {as bs : List D}, (zipD as bs).length = min as.length bs.length
  | a :: r, b :: s => by
    unfold zipD
    rw [List.length_cons, List.length_cons, List.length_cons, zipD_len]
    omega
  | [], _ => by simp [zipD]
  | _ :: _, [] => by simp [zipD]
theorem TupAt.to {H H' : Hp} {M M' : Addr → Prop} {a : Addr} {xs : List V} (t : To H H' M M') (h : TupAt K H M a xs) : TupAt K H' M' a xs := by
  rcases h with ⟨h | ⟨o, h⟩, n⟩ | h
  · exact .inl ⟨.inl (t.h _ _ h n).1, (t.h _ _ h n).2⟩
  · exact .inl ⟨.inr ⟨o, (t.h _ _ h n).1⟩, (t.h _ _ h n).2⟩
  · exact .inr h
theorem pair_rep {H : Hp} {M : Addr → Prop} {T : Addr} {d e : D} {x y : V} (n : H T = none) (al : ∀ a, M a → H a ≠ none) (h1 : Rep K H M d x) (h2 : Rep K H M e y) : Rep K (upd H T (.tup [x, y])) M (.tuple [d, e]) (.ref T) :=   .tup (.inl ⟨.inl upd_same, fun z => al T z n⟩) (.cons (Rep.to (to_same (same_upd n)) h1) (.cons (Rep.to (to_same (same_upd n)) h2) .nil))
theorem itz_ok {a b : Addr} {xs ys : List V} {ds es : List D} {M : Addr → Prop} {H : Hp} (h : H a = some (.lst xs)) (n : ¬ M a) (r : RepL K H M ds xs) (h2 : H b = some (.lst ys)) (n2 : ¬ M b) (r2 : RepL K H M es ys) : ItOk K (Itz K a b) (zipD ds es) M H := fun M' H' t al i => by
  have g1 := SqL.of (K := K) (t.h _ _ h n).1
  have g2 := SqL.of (K := K) (t.h _ _ h2 n2).1
  refine ⟨fun l => ⟨xs, ys, g1, g2, by rw [zipD_len, r.len, r2.len] at l; omega⟩, fun d e => ?_⟩
  obtain ⟨x, y, e1, e2, rfl⟩ := zipD_get e
  obtain ⟨v, ev, rv⟩ := r.get e1
  obtain ⟨u, eu, ru⟩ := r2.get e2
  refine ⟨⟨xs, ys, v, u, g1, g2, ev, eu⟩, fun x' H2 ⟨T, x1, y1, z1, z2, z3, z4, z5⟩ => ?_⟩
  subst z1 z3
  have w1 := z4 xs g1
  have w2 := z5 ys g2
  rw [ev] at w1; rw [eu] at w2
  cases w1; cases w2
  exact ⟨same_upd z2, pair_rep z2 al (Rep.to t rv) (Rep.to t ru)⟩
theorem itzT_ok {a b : Addr} {xs ys : List V} {ds es : List D} {M : Addr → Prop} {H : Hp} (h : TupAt K H M a xs) (r : RepL K H M ds xs) (h2 : TupAt K H M b ys) (r2 : RepL K H M es ys) : ItOk K (RZ.ItzT K a b) (zipD ds es) M H := fun M' H' t al i => by
  have g1 := (h.to t).sq
  have g2 := (h2.to t).sq
  refine ⟨fun l => ⟨xs, ys, g1, g2, by rw [zipD_len, r.len, r2.len] at l; omega⟩, fun d e => ?_⟩
  obtain ⟨x, y, e1, e2, rfl⟩ := zipD_get e
  obtain ⟨v, ev, rv⟩ := r.get e1
  obtain ⟨u, eu, ru⟩ := r2.get e2
  refine ⟨⟨xs, ys, v, u, g1, g2, ev, eu⟩, fun x' H2 ⟨T, x1, y1, z1, z2, z3, z4, z5⟩ => ?_⟩
  subst z1 z3
  have w1 := z4 xs g1
  have w2 := z5 ys g2
  rw [ev] at w1; rw [eu] at w2
  cases w1; cases w2
  exact ⟨same_upd z2, pair_rep z2 al (Rep.to t rv) (Rep.to t ru)⟩
def dZip (da : Ev → (List D → Prop) → Prop) : Ev → (List D → Prop) → Prop := fun env Q => da env fun xs => match xs with | [.list a, .list b] => Q (zipD a b) | [.tuple a, .tuple b] => Q (zipD a b) | _ => False
theorem ri_zip {n : Nat} {t : TA} {da : Ev → (List D → Prop) → Prop} (h : RfN K n t da) : RfI K (RZ.iZipA K t) (dZip da) := ⟨fun R q k => h.run R q fun ds vs H1 q1 _ s1 r1 => by
  split at q1
  · cases r1 with | cons h1 r1 => cases r1 with | cons h2 r2 =>
    cases r2
    cases h1 with | lst h1 n1 r1 => cases h2 with | lst h2 n2 r2 =>
    exact ⟨_, _, _, _, rfl, .inl ⟨SqL.of h1, SqL.of h2, k _ _ _ q1 s1 (itz_ok h1 n1 r1 h2 n2 r2)⟩⟩
  · cases r1 with | cons h1 r1 => cases r1 with | cons h2 r2 =>
    cases r2
    cases h1 with | tup h1 r1 => cases h2 with | tup h2 r2 =>
    exact ⟨_, _, _, _, rfl, .inr ⟨h1.sq, h2.sq, k _ _ _ q1 s1 (itzT_ok h1 r1 h2 r2)⟩⟩
  · exact q1.elim⟩
def enumD (n : Nat) : List D → List D
  | [] => []
  | a :: r => .tuple [.int (n : Nat), a] :: enumD (n + 1) r
theorem enumD_len : ∀ {as : List D} {n : Nat}, (enumD n as).length = as.length
  | [], _ => rfl
  | a :: r, n => congrArg (· + 1) enumD_len
theorem enumD_get : ∀ {as : List D} {n i : Nat} {d : D}, (enumD n as)[i]? = some d → ∃ a, as[i]? = some a ∧ d = .tuple [.int ((n + i : Nat) : Int), a]
  | [], n, i, d, e => by simp [enumD] at e
  | a :: r, n, 0, d, e => by
    unfold enumD at e
    rw [List.getElem?_cons_zero] at e
    cases e
    exact ⟨a, rfl, rfl⟩
  | a :: r, n, i + 1, d, e => by
    unfold enumD at e
    rw [List.getElem?_cons_succ] at e ⊢
    obtain ⟨x, h1, h2⟩ := enumD_get e
    exact ⟨x, h1, by rw [h2, Nat.add_right_comm, Nat.add_assoc]⟩
theorem ite_ok {a : Addr} {xs : List V} {ds : List D} {M : Addr → Prop} {H : Hp} (h : H a = some (.lst xs)) (n : ¬ M a) (r : RepL K H M ds xs) : ItOk K (Ite K a) (enumD 0 ds) M H := fun M' H' t al i => by
  have g1 := SqL.of (K := K) (t.h _ _ h n).1
  refine ⟨fun l => ⟨xs, g1, by rw [enumD_len, r.len] at l; omega⟩, fun d e => ?_⟩
  obtain ⟨x, e1, rfl⟩ := enumD_get e
  obtain ⟨v, ev, rv⟩ := r.get e1
  refine ⟨⟨xs, v, g1, ev⟩, fun x' H2 ⟨T, x1, z1, z2, z3, z4⟩ => ?_⟩
  subst z1 z3
  have w1 := z4 xs g1
  rw [ev] at w1
  cases w1
  rw [Nat.zero_add]
  exact ⟨same_upd z2, pair_rep z2 al (.int _) (Rep.to t rv)⟩
def dEnum (da : Ev → (List D → Prop) → Prop) : Ev → (List D → Prop) → Prop := fun env Q => da env fun xs => match xs with | [.list a] => Q (enumD 0 a) | _ => False
theorem ri_enum {n : Nat} {t : TA} {da : Ev → (List D → Prop) → Prop} (h : RfN K n t da) : RfI K (iEnum K t) (dEnum da) := ⟨fun R q k => h.run R q fun ds vs H1 q1 _ s1 r1 => by
  split at q1
  · cases r1 with | cons h1 r1 =>
    cases r1
    cases h1 with | lst h1 n1 r1 =>
    exact ⟨_, _, rfl, SqL.of h1, k _ _ _ q1 s1 (ite_ok h1 n1 r1)⟩
  · exact q1.elim⟩
/-! targets -/
structure RfG (K : PySem.W.Frag) (is : List Nat) (g : TG) (dg : D → Ev → (Ev → Prop) → Prop) : Prop where
  run : ∀ {A : Addr → Prop} {st : Option (Addr × Addr)} {ow : Nat → Option Addr} {σ : L2.St} {H : Hp} {env : Ev} {d : D} {v : V} {Qd : Ev → Prop} {Q : L2.St → Hp → Prop},
  RE K A st ow σ H env → Rep K H (Mo A ow) d v → dg d env Qd → (∀ env' ow' σ', Qd env' → RE K A st ow' σ' H env' → (∀ j a, ow' j = some a → ow j = some a) → (∀ js, (∀ i ∈ is, i ∈ js) → wipe σ' js = wipe σ js ∧ ∀ j, j ∉ js → ow' j = ow j) → Q σ' H) → g v σ H Q
structure RfGs (K : PySem.W.Frag) (is : List Nat) (g : TGs) (dg : List D → Ev → (Ev → Prop) → Prop) : Prop where
  run : ∀ {A : Addr → Prop} {st : Option (Addr × Addr)} {ow : Nat → Option Addr} {σ : L2.St} {H : Hp} {env : Ev} {ds : List D} {vs : List V} {Qd : Ev → Prop} {Q : L2.St → Hp → Prop},
  RE K A st ow σ H env → RepL K H (Mo A ow) ds vs → dg ds env Qd → (∀ env' ow' σ', Qd env' → RE K A st ow' σ' H env' → (∀ j a, ow' j = some a → ow j = some a) → (∀ js, (∀ i ∈ is, i ∈ js) → wipe σ' js = wipe σ js ∧ ∀ j, j ∉ js → ow' j = ow j) → Q σ' H) → g vs σ H Q
def eset (env : Ev) (i : Nat) (e : Option En) : Ev := env.set i e
def owDel (ow : Nat → Option Addr) (i : Nat) : Nat → Option Addr := fun j => if j = i then none else ow j
theorem owDel_sub {ow : Nat → Option Addr} {i j : Nat} {a : Addr} (h : owDel ow i j = some a) : ow j = some a ∧ j ≠ i := by
  unfold owDel at h
  split at h
  · cases h
  · exact ⟨h, by assumption⟩
theorem Mo.sub {A : Addr → Prop} {ow ow' : Nat → Option Addr} (h : ∀ j a, ow' j = some a → ow j = some a) {a : Addr} (m : Mo A ow' a) : Mo A ow a := m.imp id fun ⟨i, e⟩ => ⟨i, h i a e⟩
theorem to_less {H : Hp} {M M' : Addr → Prop} (h : ∀ a, M' a → M a) : To H H M M' := ⟨fun b o e n => ⟨e, fun z => n (h b z)⟩⟩
theorem SR.less {A : Addr → Prop} {st : Option (Addr × Addr)} {ow ow' : Nat → Option Addr} {H : Hp} {i : Nat} {e : En} {v : V} (h : ∀ j a, ow' j = some a → ow j = some a) (hi : ow' i = ow i) (r : SR K A st ow H i e v) : SR K A st ow' H i e v := by
  have t : To H H (Mo A ow) (Mo A ow') := to_less fun a => Mo.sub h
  cases e with
  | d x => exact Rep.to t r
  | own ds =>
    obtain ⟨a, vs, h1, h2, h3, h4⟩ := r
    exact ⟨a, vs, hi.trans h1, h2, h3, RepL.to t h4⟩
  | odk ds =>
    obtain ⟨a, vs, h1, h2, h3, h4⟩ := r
    exact ⟨a, vs, hi.trans h1, h2, h3, RepK.to t h4⟩
  | st => exact r
/-- a slot is written -/
theorem RE.put {A : Addr → Prop} {st : Option (Addr × Addr)} {ow : Nat → Option Addr} {σ : L2.St} {H : Hp} {env : Ev} (R : RE K A st ow σ H env) (i : Nat) {d : D} {v : V} (r : Rep K H (Mo A ow) d v) : RE K A st (owDel ow i) (σ.set i (some v)) H (eset env i (some (.d d))) := by
  have sub : ∀ j a, owDel ow i j = some a → ow j = some a := fun j a h => (owDel_sub h).1
  have t : To H H (Mo A ow) (Mo A (owDel ow i)) := to_less fun a => Mo.sub sub
  refine ⟨R.ls, R.dom, R.sta, fun j a h => R.al j a (sub j a h), fun j a h => R.na j a (sub j a h), fun j k a h1 h2 => R.inj j k a (sub j a h1) (sub k a h2), fun j a h => ?_, by unfold eset; rw [List.length_set, List.length_set]; exact R.len, fun j e he => ?_⟩
  · have hj := (owDel_sub h).2
    unfold eset
    rw [List.getElem?_set_ne fun z => hj z.symm]
    exact R.tie j a (sub j a h)
  unfold eset at he
  by_cases hj : i = j
  · subst hj
    have hl : i < env.length := by
      have := (List.getElem?_eq_some_iff.mp he).1
      rwa [List.length_set] at this
    rw [List.getElem?_set_self hl] at he
    cases he
    exact ⟨v, List.getElem?_set_self (by rw [R.len]; exact hl), Rep.to t r⟩
  · rw [List.getElem?_set_ne hj] at he
    obtain ⟨u, hu, s⟩ := R.sl j e he
    exact ⟨u, by rw [List.getElem?_set_ne hj]; exact hu, s.less sub (by unfold owDel; rw [if_neg (fun z => hj z.symm)])⟩
theorem wipe_get {σ : L2.St} : ∀ {vs : List Nat} {j : Nat}, j ∈ vs → j < σ.length → (wipe σ vs)[j]? = some none
  | v :: vs, j, h, hl => by
    unfold wipe
    by_cases e : v = j
    · subst e
      exact List.getElem?_set_self (by rw [wipe_length]; exact hl)
    · rw [List.getElem?_set_ne e]
      exact wipe_get ((List.mem_cons.mp h).resolve_left fun z => e z.symm) hl
theorem wipe_set {σ : L2.St} {i : Nat} {x : Option V} {js : List Nat} (h : i ∈ js) : wipe (σ.set i x) js = wipe σ js := by
  refine List.ext_getElem? fun j => ?_
  by_cases hj : j < σ.length
  · by_cases hm : j ∈ js
    · rw [wipe_get hm (by rw [List.length_set]; exact hj), wipe_get hm hj]
    · rw [wipe_out hm, wipe_out hm, List.getElem?_set_ne fun (z : i = j) => hm (z ▸ h)]
  · rw [List.getElem?_eq_none (by rw [wipe_length, List.length_set]; omega), List.getElem?_eq_none (by rw [wipe_length]; omega)]
def gN (i : Nat) : D → Ev → (Ev → Prop) → Prop := fun d env Q => Q (eset env i (some (.d d)))
theorem rg_name (i : Nat) : RfG K [i] (gName i) (gN i) := ⟨fun R r q k => k _ _ _ q (R.put i r) (fun j a h => (owDel_sub h).1) fun js h => ⟨wipe_set (h i (by simp)), fun j hj => by unfold owDel; rw [if_neg (fun (z : j = i) => hj (z.symm ▸ h i (by simp)))]⟩⟩
def gNi : List D → Ev → (Ev → Prop) → Prop := fun ds env Q => match ds with | [] => Q env | _ => False
def gCo (g : D → Ev → (Ev → Prop) → Prop) (gs : List D → Ev → (Ev → Prop) → Prop) : List D → Ev → (Ev → Prop) → Prop := fun ds env Q => match ds with | d :: r => g d env fun env1 => gs r env1 Q | [] => False
def gT (n : Nat) (gs : List D → Ev → (Ev → Prop) → Prop) : D → Ev → (Ev → Prop) → Prop := fun d env Q => match d with | .tuple ds => ds.length = n ∧ gs ds env Q | _ => False
theorem rg_nil : RfGs K [] gNil gNi := ⟨fun {A st ow σ H env ds vs Qd Q} R r q k => by
  unfold gNi at q
  split at q
  · cases r
    exact ⟨rfl, k _ _ _ q R (fun _ _ h => h) fun _ _ => ⟨rfl, fun _ _ => rfl⟩⟩
  · exact q.elim⟩
theorem rg_cons {is js : List Nat} {t : TG} {u : TGs} {g : D → Ev → (Ev → Prop) → Prop} {gs : List D → Ev → (Ev → Prop) → Prop} (h : RfG K is t g) (hs : RfGs K js u gs) : RfGs K (is ++ js) (gCons t u) (gCo g gs) := ⟨fun {A st ow σ H env ds vs Qd Q} R r q k => by
  unfold gCo at q
  split at q
  · cases r with | cons r1 r2 =>
    refine ⟨_, _, rfl, h.run R r1 q fun env1 ow1 σ1 q1 R1 sub1 w1 => hs.run R1 (RepL.to (to_less fun a => Mo.sub sub1) r2) q1 fun env2 ow2 σ2 q2 R2 sub2 w2 => k env2 ow2 σ2 q2 R2 (fun j a e => sub1 j a (sub2 j a e)) fun ks hk => ?_⟩
    have a2 := w2 ks fun i hi => hk i (List.mem_append_right _ hi)
    have a1 := w1 ks fun i hi => hk i (List.mem_append_left _ hi)
    exact ⟨a2.1.trans a1.1, fun j hj => (a2.2 j hj).trans (a1.2 j hj)⟩
  · exact q.elim⟩
theorem rg_tup {is : List Nat} {n : Nat} {u : TGs} {gs : List D → Ev → (Ev → Prop) → Prop} (h : RfGs K is u gs) : RfG K is (gTup K n u) (gT n gs) := ⟨fun {A st ow σ H env d v Qd Q} R r q k => by
  unfold gT at q
  split at q
  · cases r with | tup r1 r2 =>
    exact ⟨_, _, rfl, r1.sq, by rw [← r2.len]; exact q.1, h.run R r2 q.2 k⟩
  · exact q.elim⟩
/-! comprehensions -/
def wipeE (env : Ev) : List Nat → Ev
  | [] => env
  | v :: vs => eset (wipeE env vs) v none
theorem wipe_idem {σ : L2.St} {js : List Nat} : wipe (wipe σ js) js = wipe σ js := by
  refine List.ext_getElem? fun j => ?_
  by_cases hj : j < σ.length
  · by_cases hm : j ∈ js
    · rw [wipe_get hm (by rw [wipe_length]; exact hj), wipe_get hm hj]
    · rw [wipe_out hm]
  · rw [List.getElem?_eq_none (by rw [wipe_length, wipe_length]; omega), List.getElem?_eq_none (by rw [wipe_length]; omega)]
theorem RE.wipe1 {A : Addr → Prop} {st : Option (Addr × Addr)} {ow : Nat → Option Addr} {σ : L2.St} {H : Hp} {env : Ev} (R : RE K A st ow σ H env) (i : Nat) (hi : ow i = none) : RE K A st ow (σ.set i none) H (eset env i none) := by
  refine ⟨R.ls, R.dom, R.sta, R.al, R.na, R.inj, fun j a h => ?_, by unfold eset; rw [List.length_set, List.length_set]; exact R.len, fun j e he => ?_⟩
  · have hj : i ≠ j := fun z => by subst z; rw [hi] at h; cases h
    unfold eset
    rw [List.getElem?_set_ne hj]
    exact R.tie j a h
  unfold eset at he
  by_cases hj : i = j
  · subst hj
    have hl : i < env.length := by
      have := (List.getElem?_eq_some_iff.mp he).1
      rwa [List.length_set] at this
    rw [List.getElem?_set_self hl] at he
    cases he
  · rw [List.getElem?_set_ne hj] at he
    obtain ⟨u, hu, s⟩ := R.sl j e he
    exact ⟨u, by rw [List.getElem?_set_ne hj]; exact hu, s⟩
theorem RE.wipes {A : Addr → Prop} {st : Option (Addr × Addr)} {ow : Nat → Option Addr} {σ : L2.St} {H : Hp} {env : Ev} (R : RE K A st ow σ H env) : ∀ vs : List Nat, (∀ i ∈ vs, ow i = none) → RE K A st ow (wipe σ vs) H (wipeE env vs)
  | [], _ => R
  | v :: vs, h => (R.wipes vs fun i hi => h i (List.mem_cons_of_mem _ hi)).wipe1 v (h v List.mem_cons_self)
theorem RE.noOwn {A : Addr → Prop} {st : Option (Addr × Addr)} {ow : Nat → Option Addr} {σ : L2.St} {H : Hp} {env : Ev} (R : RE K A st ow σ H env) {vs : List Nat} (h : noOwn vs env = true) : ∀ i ∈ vs, ow i = none := fun i hi => by
  cases e : ow i with
  | none => rfl
  | some a =>
    unfold Toy.noOwn at h
    rw [List.all_eq_true] at h
    have h1 := h i hi
    unfold isOwn at h1
    rcases R.tie i a e with ⟨ds, z⟩ | ⟨ds, z⟩
    · rw [some_eget z] at h1; cases h1
    · rw [some_eget z] at h1; cases h1
def lcD (g : D → Ev → (Ev → Prop) → Prop) (c : Ev → (Bool → Prop) → Prop) (e : Ev → (D → Prop) → Prop) : List D → Ev → (List D → Prop) → Prop
  | [], _, Q => Q []
  | d :: r, env, Q => g d env fun env1 => c env1 fun b => if b = true then e env1 fun x => lcD g c e r env fun xs => Q (x :: xs) else lcD g c e r env Q
/-- at most 100000 turns, said ahead -/
def dLc (vs : List Nat) (di : Ev → (List D → Prop) → Prop) (g : D → Ev → (Ev → Prop) → Prop) (c : Ev → (Bool → Prop) → Prop) (e : Ev → (D → Prop) → Prop) : Ev → (List D → Prop) → Prop :=
  fun env Q => noOwn vs env = true ∧ di env fun ds => ds.length ≤ 100000 ∧ lcD g c e ds (wipeE env vs) Q
theorem drop_get {α : Type} {xs : List α} {i : Nat} {x : α} (h : xs[i]? = some x) : xs.drop i = x :: xs.drop (i + 1) := by
  obtain ⟨h1, h2⟩ := List.getElem?_eq_some_iff.mp h
  rw [← h2]
  exact List.drop_eq_getElem_cons h1
theorem rf_lc {vs is : List Nat} {wi : TI} {tg : TG} {tt : TT} {te : TE} {di : Ev → (List D → Prop) → Prop} {g : D → Ev → (Ev → Prop) → Prop} {c : Ev → (Bool → Prop) → Prop} {e : Ev → (D → Prop) → Prop}
    (hi : RfI K wi di) (hg : RfG K is tg g) (hc : RfT K tt c) (he : RfE K te e) (his : ∀ i ∈ is, i ∈ vs := by decide) : RfF K (tLc wi tg tt te vs) (dLc vs di g c e) := ⟨fun {A st ow σ H env Qd Q} R q0 k =>
  hi.run R q0.2 fun ds J H1 ⟨hl, q1⟩ s1 J1 L hL => by
    have hno := R.noOwn q0.1
    have R1 := R.step s1
    have nM := R1.newM hL
    let A' : Addr → Prop := fun a => A a ∨ a = L
    have toA : ∀ {H' : Hp}, To H1 (upd H1 L (.lst [])) (Mo A ow) (Mo A' ow) := new_to hL fun a z => by
      rcases z with (z | z) | z
      · exact .inl (.inl z)
      · exact .inr z
      · exact .inl (.inr z)
    have bk : ∀ a, Mo A' ow a → Mo A ow a ∨ a = L := fun a z => by
      rcases z with (z | z) | z
      · exact .inl (.inl z)
      · exact .inr z
      · exact .inl (.inr z)
    have fw : ∀ a, Mo A ow a → Mo A' ow a := fun a z => z.elim (fun z => .inl (.inl z)) .inr
    have fwL : Mo A' ow L := .inl (.inr rfl)
    -- the turns
    refine ⟨fun i m H' => m = ds.length - i ∧ i ≤ ds.length ∧ ∃ acc xs, H' L = some (.lst xs) ∧ xs.length ≤ i ∧ RepL K H' (Mo A' ow) acc xs ∧ RE K A' st ow (wipe σ vs) H' (wipeE env vs) ∧ Keep (exs st) H H' ∧ To H1 H' (Mo A ow) (Mo A' ow) ∧ LSo st H' ∧
      lcD g c e (ds.drop i) (wipeE env vs) (fun r => Qd (acc ++ r)), ⟨_, rfl, Nat.zero_le _, [], [], upd_same, Nat.zero_le _, .nil, ?_, ?_, toA (H' := H1), ?_, ?_⟩, ?_⟩
    · have RR := (R1.wipes vs hno)
      have S1 : Stp st H1 (upd H1 L (.lst [])) := R1.new hL
      have RS := RR.step S1
      refine ⟨RS.ls, fun a z => ?_, fun z e => ⟨.inl (RS.sta z e).1, .inl (RS.sta z e).2⟩, RS.al, fun j a e z => ?_, RS.inj, RS.tie, RS.len, fun j e' he' => ?_⟩
      · rcases z with z | rfl
        · exact RS.dom a z
        · rw [upd_same]; intro z; cases z
      · rcases z with z | rfl
        · exact RS.na j a e z
        · exact R1.al j _ e hL
      · obtain ⟨v, hv, r⟩ := RR.sl j e' he'
        refine ⟨v, hv, ?_⟩
        have t : To H1 (upd H1 L (.lst [])) (Mo A ow) (Mo A' ow) := toA (H' := H1)
        cases e' with
        | d x => exact Rep.to t r
        | own ds =>
          obtain ⟨a, vs, h1, h2, h3, h4⟩ := r
          exact ⟨a, vs, h1, h2, same_upd hL _ _ h3, RepL.to t h4⟩
        | odk ds =>
          obtain ⟨a, vs, h1, h2, h3, h4⟩ := r
          exact ⟨a, vs, h1, h2, same_upd hL _ _ h3, RepK.to t h4⟩
        | st => exact r
    · exact s1.k.trans fun b o z n => same_upd hL b o z
    · exact s1.l.same (same_upd hL)
    · exact q1
    · rintro i m H' ⟨rfl, hi, acc, xs, hx, hxl, rx, RR, kk, tt', ll, qq⟩
      have al : ∀ a, Mo A' ow a → H' a ≠ none := fun a z => RR.alM z
      by_cases hlt : i < ds.length
      · have eD : ds[i]? = some ds[i] := List.getElem?_eq_getElem hlt
        rw [drop_get eD] at qq
        obtain ⟨go, yl⟩ := (J1 (Mo A' ow) H' tt' al i).2 _ eD
        refine .inr ⟨go, fun H2 => ∃ acc xs, H2 L = some (.lst xs) ∧ xs.length ≤ i + 1 ∧ RepL K H2 (Mo A' ow) acc xs ∧ RE K A' st ow (wipe σ vs) H2 (wipeE env vs) ∧ Keep (exs st) H H2 ∧ To H1 H2 (Mo A ow) (Mo A' ow) ∧ LSo st H2 ∧
          lcD g c e (ds.drop (i + 1)) (wipeE env vs) (fun r => Qd (acc ++ r)), fun H2 z => ⟨_, by omega, rfl, hlt, z⟩, fun x H2 y => ?_⟩
        obtain ⟨sm, rx1⟩ := yl x H2 y
        have S2 : Stp st H' H2 := .same ll sm
        have RR2 := RR.step S2
        refine hg.run RR2 rx1 qq fun env3 ow3 σ3 q3 R3 sub3 w3 => ⟨(w3 vs his).1.trans wipe_idem, ?_⟩
        have eo : ow = ow3 := funext fun j => by
          by_cases hj : j ∈ vs
          · cases e : ow3 j with
            | none => exact hno j hj
            | some a => exact sub3 j a e
          · exact ((w3 vs his).2 j hj).symm
        subst eo
        refine hc.run R3 q3 fun b H4 q4 s4 => ?_
        have R4 := R3.step s4
        have L4 : H4 L = some (.lst xs) := s4.k L _ (sm L _ hx) fun z => by
          obtain ⟨z1, e1, z2⟩ := exs_mem z
          have w := RR.sta z1 e1
          obtain ⟨kk', ns, l1, l2, l3⟩ := R1.ls z1 e1
          rcases z2 with z2 | z2
          · rw [z2, l1] at hL; cases hL
          · rw [z2, l2] at hL; cases hL
        have exL : ∀ a ∈ exs st, a ≠ L := fun a z e' => by
          subst e'
          exact R1.ls.ne _ z hL
        have S4 : Stp st H' H4 := ⟨S2.k.trans s4.k, s4.l⟩
        have RR4 := RR.step S4
        have t4 : To H' H4 (Mo A' ow) (Mo A' ow) := RR.toS S4
        have kH4 : Keep (exs st) H H4 := kk.trans S4.k
        have tH4 : To H1 H4 (Mo A ow) (Mo A' ow) := tt'.trans t4
        cases b with
        | false =>
          rw [if_neg Bool.false_ne_true] at q4 ⊢
          exact ⟨acc, xs, L4, Nat.le_succ_of_le hxl, RepL.to t4 rx, RR4, kH4, tH4, s4.l, q4⟩
        | true =>
          rw [if_pos rfl] at q4 ⊢
          refine he.run R4 q4 fun d v H5 q5 s5 r5 => ?_
          have L5 : H5 L = some (.lst xs) := s5.k L _ L4 fun z => exL L z rfl
          have S5 : Stp st H' H5 := ⟨S4.k.trans s5.k, s5.l⟩
          have RR5 := RR.step S5
          have t5 : To H' H5 (Mo A' ow) (Mo A' ow) := RR.toS S5
          have len5 : xs.length < sizeLine := Nat.lt_of_le_of_lt hxl (Nat.lt_of_lt_of_le hlt (Nat.le_trans hl (by decide)))
          have nL5 : ∀ {b : Addr} {o : HO}, H5 b = some o → ¬ Mo A' ow b → b ≠ L := fun _ n z => n (z ▸ fwL)
          have t6 : To H5 (upd H5 L (.lst (xs ++ [v]))) (Mo A' ow) (Mo A' ow) := ⟨fun b o e' n => ⟨by rw [upd_ne (nL5 e' n)]; exact e', n⟩⟩
          have l6 : LSo st (upd H5 L (.lst (xs ++ [v]))) := fun z e' => by
            obtain ⟨kk', ns, l1, l2, l3⟩ := s5.l z e'
            have m1 : z.1 ≠ L := exL _ (by subst e'; simp [exs])
            have m2 : z.2 ≠ L := exL _ (by subst e'; simp [exs])
            exact ⟨kk', ns, by rw [upd_ne m1]; exact l1, by rw [upd_ne m2]; exact l2, l3⟩
          have k6 : Keep [L] H5 (upd H5 L (.lst (xs ++ [v]))) := fun b o e' n => by
            rw [upd_ne (fun z => n (by rw [z]; simp))]
            exact e'
          refine ⟨xs, L5, len5, acc ++ [d], xs ++ [v], upd_same, by rw [List.length_append]; exact Nat.succ_le_succ hxl, RepL.to t6 ((RepL.to t5 rx).snoc r5), ?_, fun b o e' n => ?_, (tt'.trans t5).trans t6, l6, ?_⟩
          · refine RR5.keep (ex := [L]) (fun a ha => .inr (by simpa using ha)) k6 l6 fun a ha => ?_
            have : a = L := by simpa using ha
            subst this
            rw [upd_same]; intro z; cases z
          · rw [upd_ne (fun z => by rw [z, s1.none hL] at e'; cases e')]
            exact S5.k b o (kk b o e' n) n
          · have : (fun r => Qd (acc ++ [d] ++ r)) = fun r => Qd (acc ++ (d :: r)) := funext fun r => by rw [List.append_assoc]; rfl
            rw [this]
            exact q5
      · have e' : i = ds.length := by omega
        subst e'
        rw [List.drop_length] at qq
        refine .inl ⟨(J1 (Mo A' ow) H' tt' al _).1 rfl, ?_⟩
        have q9 : Qd (acc ++ []) := qq
        rw [List.append_nil] at q9
        exact k acc L xs H' q9 ⟨kk, ll⟩ (s1.none hL) hx (RepL.to (to_less fun a z => z.elim (fw a) fun y => y ▸ fwL) rx)⟩
end
/-! statements -/
structure Dd where
  nx : Ev → Prop
  rt : D → Prop
  bk : Ev → Prop := fun _ => False
  ct : Ev → Prop := fun _ => False
structure BE (K : PySem.W.Frag) (A : Addr → Prop) (st : Option (Addr × Addr)) (H0 : Hp) (ow : Nat → Option Addr) (σ : L2.St) (H : Hp) (env : Ev) : Prop where
  r : RE K A st ow σ H env
  kp : Keep (exs st) H0 H
  fr : ∀ i a, ow i = some a → H0 a = none
structure EOk (K : PySem.W.Frag) (A : Addr → Prop) (st : Option (Addr × Addr)) (H0 : Hp) (ow : Nat → Option Addr) (H : Hp) (Ed : Dd) (E : Ends) : Prop where
  nx : ∀ env' ow' σ' H', Ed.nx env' → BE K A st H0 ow' σ' H' env' → To H H' (Mo A ow) (Mo A ow') → E.nx σ' H'
  rt : ∀ d v H', Ed.rt d → Stp st H0 H' → Rep K H' A d v → E.rt v H'
  bk : ∀ env' ow' σ' H', Ed.bk env' → BE K A st H0 ow' σ' H' env' → To H H' (Mo A ow) (Mo A ow') → E.bk σ' H'
  ct : ∀ env' ow' σ' H', Ed.ct env' → BE K A st H0 ow' σ' H' env' → To H H' (Mo A ow) (Mo A ow') → E.ct σ' H'
abbrev DS := Dd → Ev → Prop
structure RfS (K : PySem.W.Frag) (t : TS) (ds : DS) : Prop where
  run : ∀ {A : Addr → Prop} {st : Option (Addr × Addr)} {H0 : Hp} {ow : Nat → Option Addr} {σ : L2.St} {H : Hp} {env : Ev} {Ed : Dd} {E : Ends},
  BE K A st H0 ow σ H env → ds Ed env → EOk K A st H0 ow H Ed E → t E σ H
section
variable {K : PySem.W.Frag}
section
variable {A : Addr → Prop} {st : Option (Addr × Addr)} {H0 H H' : Hp} {ow ow' : Nat → Option Addr} {σ : L2.St} {env : Ev} {Ed : Dd} {E : Ends}
theorem EOk.to (k : EOk K A st H0 ow H Ed E) (t : To H H' (Mo A ow) (Mo A ow')) : EOk K A st H0 ow' H' Ed E :=   ⟨fun env' ow' σ' H' q b t2 => k.nx env' ow' σ' H' q b (t.trans t2), k.rt, fun env' ow' σ' H' q b t2 => k.bk env' ow' σ' H' q b (t.trans t2), fun env' ow' σ' H' q b t2 => k.ct env' ow' σ' H' q b (t.trans t2)⟩
theorem BE.step (B : BE K A st H0 ow σ H env) (s : Stp st H H') : BE K A st H0 ow σ H' env := ⟨B.r.step s, B.kp.trans s.k, B.fr⟩
theorem to_del (H : Hp) (A : Addr → Prop) (ow : Nat → Option Addr) (i : Nat) : To H H (Mo A ow) (Mo A (owDel ow i)) := to_less fun b => Mo.sub fun j a h => (owDel_sub h).1
theorem BE.put (B : BE K A st H0 ow σ H env) (i : Nat) {d : D} {v : V} (r : Rep K H (Mo A ow) d v) : BE K A st H0 (owDel ow i) (σ.set i (some v)) H (eset env i (some (.d d))) :=   ⟨B.r.put i r, B.kp, fun j a h => B.fr j a (owDel_sub h).1⟩
end
def dNext : DS := fun Ed env => Ed.nx env
def dSeq (a b : DS) : DS := fun Ed env => a { Ed with nx := b Ed } env
def dRet (de : Ev → (D → Prop) → Prop) : DS := fun Ed env => de env Ed.rt
def dRetN : DS := fun Ed _ => Ed.rt .none
def dIf (c : Ev → (Bool → Prop) → Prop) (a b : DS) : DS := fun Ed env => c env fun k => if k = true then a Ed env else b Ed env
def dAsg (de : Ev → (D → Prop) → Prop) (g : D → Ev → (Ev → Prop) → Prop) : DS := fun Ed env => de env fun x => g x env Ed.nx
def dDrop (de : Ev → (D → Prop) → Prop) : DS := fun Ed env => de env fun _ => Ed.nx env
def dBreak : DS := fun Ed env => Ed.bk env
def dCont : DS := fun Ed env => Ed.ct env
theorem rs_next : RfS K tNext dNext := ⟨fun B q k => k.nx _ _ _ _ q B (To.refl _ _)⟩
theorem rs_break : RfS K tBreak dBreak := ⟨fun B q k => k.bk _ _ _ _ q B (To.refl _ _)⟩
theorem rs_cont : RfS K tCont dCont := ⟨fun B q k => k.ct _ _ _ _ q B (To.refl _ _)⟩
theorem rs_seq {t u : TS} {a b : DS} (h1 : RfS K t a) (h2 : RfS K u b) : RfS K (tSeq t u) (dSeq a b) := ⟨fun B q k =>
  h1.run B q ⟨fun env' ow' σ' H' q' b' t' => h2.run b' q' (k.to t'), k.rt, k.bk, k.ct⟩⟩
theorem rs_ret {t : TE} {de : Ev → (D → Prop) → Prop} (h : RfE K t de) : RfS K (tRet t) (dRet de) := ⟨fun B q k => h.run B.r q fun d v H' q' s r => k.rt d v H' q' ⟨B.kp.trans s.k, s.l⟩ (Rep.to (to_less fun _ z => .inl z) r)⟩
theorem rs_retN : RfS K tRetN dRetN := ⟨fun B q k => k.rt _ _ _ q ⟨B.kp, B.r.ls⟩ .non⟩
theorem rs_if {c : TT} {t u : TS} {dc : Ev → (Bool → Prop) → Prop} {a b : DS} (hc : RfT K c dc) (h1 : RfS K t a) (h2 : RfS K u b) : RfS K (tIfS c t u) (dIf dc a b) := ⟨fun B q k => hc.run B.r q fun c H1 q1 s1 => by
  have k1 := k.to (B.r.toS s1)
  cases c with
  | true =>
    rw [if_pos rfl] at q1 ⊢
    exact h1.run (B.step s1) q1 k1
  | false =>
    rw [if_neg Bool.false_ne_true] at q1 ⊢
    exact h2.run (B.step s1) q1 k1⟩
theorem rs_drop {t : TE} {de : Ev → (D → Prop) → Prop} (h : RfE K t de) : RfS K (tDrop t) (dDrop de) := ⟨fun B q k => h.run B.r q fun d v H' q' s r => k.nx _ _ _ _ q' (B.step s) (B.r.toS s)⟩
theorem rs_asg {is : List Nat} {t : TE} {g : TG} {de : Ev → (D → Prop) → Prop} {dg : D → Ev → (Ev → Prop) → Prop} (h : RfE K t de) (hg : RfG K is g dg) : RfS K (tAsg t g) (dAsg de dg) := ⟨fun B q k => h.run B.r q fun d v H' q' s r =>
  hg.run (B.r.step s) r q' fun env' ow' σ' q2 R2 sub _ => k.nx _ _ _ _ q2 ⟨R2, (B.step s).kp, fun j a e => B.fr j a (sub j a e)⟩ ((B.r.toS s).trans (to_less fun a => Mo.sub sub))⟩
/-! a slot that owns a list -/
def owPut (ow : Nat → Option Addr) (i : Nat) (a : Addr) : Nat → Option Addr := fun j => if j = i then some a else ow j
theorem owPut_sub {A : Addr → Prop} {ow : Nat → Option Addr} {i : Nat} {L : Addr} {b : Addr} (m : Mo A (owPut ow i L) b) : Mo A ow b ∨ b = L := by
  rcases m with m | ⟨j, m⟩
  · exact .inl (.inl m)
  · unfold owPut at m
    split at m
    · cases m; exact .inr rfl
    · exact .inl (.inr ⟨j, m⟩)
theorem own_to {A : Addr → Prop} {st : Option (Addr × Addr)} {ow : Nat → Option Addr} {σ : L2.St} {H H' : Hp} {env : Ev} (R : RE K A st ow σ H env) (s : Stp st H H') (i : Nat) {L : Addr} (n : H L = none) : To H H' (Mo A ow) (Mo A (owPut ow i L)) :=   ⟨fun b o e m => ⟨((R.toS s).h b o e m).1, fun z => (owPut_sub z).elim m fun y => by rw [y, n] at e; cases e⟩⟩
theorem RE.own {A : Addr → Prop} {st : Option (Addr × Addr)} {ow : Nat → Option Addr} {σ : L2.St} {H H' : Hp} {env : Ev} (R : RE K A st ow σ H env) (s : Stp st H H') (i : Nat) {L : Addr} {o : HO} (n : H L = none) (hL : H' L = some o) {en : En}
    (hen : SR K A st (owPut ow i L) H' i en (.ref L)) (he : (∃ ds, en = .own ds) ∨ ∃ ds, en = .odk ds) (hi : i < env.length) : RE K A st (owPut ow i L) (σ.set i (some (.ref L))) H' (eset env i (some en)) := by
  have R' := R.step s
  have t := own_to R s i n
  refine ⟨R'.ls, R'.dom, R'.sta, fun j a h => ?_, fun j a h => ?_, fun j k a h1 h2 => ?_, fun j a h => ?_, by unfold eset; rw [List.length_set, List.length_set]; exact R.len, fun j e he => ?_⟩
  · unfold owPut at h
    split at h
    · cases h; rw [hL]; intro z; cases z
    · exact R'.al j a h
  · unfold owPut at h
    split at h
    · cases h; exact fun z => R.dom _ z n
    · exact R'.na j a h
  · unfold owPut at h1 h2
    split at h1 <;> split at h2
    · simp_all
    · cases h1; exact absurd n (R.al k _ h2)
    · cases h2; exact absurd n (R.al j _ h1)
    · exact R.inj j k a h1 h2
  · unfold owPut at h
    unfold eset
    split at h
    · rename_i hj
      subst hj
      rw [List.getElem?_set_self hi]
      rcases he with ⟨ds, rfl⟩ | ⟨ds, rfl⟩
      · exact .inl ⟨ds, rfl⟩
      · exact .inr ⟨ds, rfl⟩
    · rename_i hj
      rw [List.getElem?_set_ne fun z => hj z.symm]
      exact R.tie j a h
  · unfold eset at he
    by_cases hj : i = j
    · subst hj
      rw [List.getElem?_set_self hi] at he
      cases he
      exact ⟨_, List.getElem?_set_self (by rw [R.len]; exact hi), hen⟩
    · rw [List.getElem?_set_ne hj] at he
      obtain ⟨u, hu, r⟩ := R.sl j e he
      refine ⟨u, by rw [List.getElem?_set_ne hj]; exact hu, ?_⟩
      have oj : owPut ow i L j = ow j := by unfold owPut; rw [if_neg fun z => hj z.symm]
      cases e with
      | d x => exact Rep.to t r
      | own ds =>
        obtain ⟨a, vs, h1, h2, h3, h4⟩ := r
        exact ⟨a, vs, oj.trans h1, h2, s.k a _ h3 fun z => R.na j a h1 (R.exA a z), RepL.to t h4⟩
      | odk ds =>
        obtain ⟨a, vs, h1, h2, h3, h4⟩ := r
        exact ⟨a, vs, oj.trans h1, h2, s.k a _ h3 fun z => R.na j a h1 (R.exA a z), RepK.to t h4⟩
      | st => exact r
/-- x = a new list -/
def dOwn (i : Nat) (df : Ev → (List D → Prop) → Prop) : DS := fun Ed env => df env fun ds => i < env.length ∧ Ed.nx (eset env i (some (.own ds)))
theorem rs_own (i : Nat) {t : TE} {df : Ev → (List D → Prop) → Prop} (h : RfF K t df) : RfS K (tAsg t (gName i)) (dOwn i df) := ⟨fun {A st H0 ow σ H env Ed E} B q k => h.run B.r q fun ds L vs H' ⟨hi, q'⟩ s n e r => by
  have t := own_to B.r s i n
  refine k.nx _ _ _ _ q' ⟨B.r.own s i n e (en := .own ds) ⟨L, vs, by unfold owPut; rw [if_pos rfl], rfl, e, RepL.to (to_less fun b z => owPut_sub z) r⟩ (.inl ⟨ds, rfl⟩) hi, B.kp.trans s.k, fun j a h => ?_⟩ t
  unfold owPut at h
  split at h
  · cases h
    cases z : H0 L with
    | none => rfl
    | some o =>
      by_cases hx : L ∈ exs st
      · exact absurd n (B.r.ls.ne L hx)
      · rw [B.kp L o z hx] at n; cases n
  · exact B.fr j a h⟩
/-- what a slot owns becomes another thing of its kind -/
theorem BE.mut {A : Addr → Prop} {st : Option (Addr × Addr)} {H0 H : Hp} {ow : Nat → Option Addr} {σ : L2.St} {env : Ev} (B : BE K A st H0 ow σ H env) (i : Nat) {L : Addr} {o o' : HO} (hi : ow i = some L) (hL : H L = some o) (hs : σ[i]? = some (some (.ref L))) {en : En}
    (hen : SR K A st ow (upd H L o') i en (.ref L)) (he : (∃ ds, en = .own ds) ∨ ∃ ds, en = .odk ds) : BE K A st H0 ow σ (upd H L o') (eset env i (some en)) ∧ To H (upd H L o') (Mo A ow) (Mo A ow) := by
  have R := B.r
  have mL : Mo A ow L := .inr ⟨i, hi⟩
  have t : To H (upd H L o') (Mo A ow) (Mo A ow) := ⟨fun b x e n => ⟨by rw [upd_ne (fun (z : b = L) => n (z ▸ mL))]; exact e, n⟩⟩
  have exL : ∀ a ∈ exs st, a ≠ L := fun a z e => R.na i L hi (e ▸ R.exA a z)
  have nn : ∀ {a : Addr}, H a ≠ none → upd H L o' a ≠ none := fun {a} h => by
    by_cases e : a = L
    · subst e; rw [upd_same]; intro z; cases z
    · rw [upd_ne e]; exact h
  refine ⟨⟨⟨fun z e => ?_, fun a z => nn (R.dom a z), R.sta, fun j a e => nn (R.al j a e), R.na, R.inj, fun j a e => ?_, by unfold eset; rw [List.length_set]; exact R.len, fun j e he' => ?_⟩, fun b x e n => ?_, B.fr⟩, t⟩
  · obtain ⟨kk, ns, l1, l2, l3⟩ := R.ls z e
    have m1 : z.1 ≠ L := exL _ (by subst e; simp [exs])
    have m2 : z.2 ≠ L := exL _ (by subst e; simp [exs])
    exact ⟨kk, ns, by rw [upd_ne m1]; exact l1, by rw [upd_ne m2]; exact l2, l3⟩
  · unfold eset
    by_cases hj : i = j
    · subst hj
      have hl : i < env.length := by rw [← R.len]; exact (List.getElem?_eq_some_iff.mp hs).1
      rw [List.getElem?_set_self hl]
      rcases he with ⟨ds, rfl⟩ | ⟨ds, rfl⟩
      · exact .inl ⟨ds, rfl⟩
      · exact .inr ⟨ds, rfl⟩
    · rw [List.getElem?_set_ne hj]
      exact R.tie j a e
  · unfold eset at he'
    by_cases hj : i = j
    · subst hj
      have hl : i < env.length := by rw [← R.len]; exact (List.getElem?_eq_some_iff.mp hs).1
      rw [List.getElem?_set_self hl] at he'
      cases he'
      exact ⟨_, hs, hen⟩
    · rw [List.getElem?_set_ne hj] at he'
      obtain ⟨u, hu, r⟩ := R.sl j e he'
      refine ⟨u, hu, ?_⟩
      cases e with
      | d x => exact Rep.to t r
      | own ds =>
        obtain ⟨a, vs, h1, h2, h3, h4⟩ := r
        exact ⟨a, vs, h1, h2, by rw [upd_ne (fun (z : a = L) => hj (R.inj i j L hi (z ▸ h1)))]; exact h3, RepL.to t h4⟩
      | odk ds =>
        obtain ⟨a, vs, h1, h2, h3, h4⟩ := r
        exact ⟨a, vs, h1, h2, by rw [upd_ne (fun (z : a = L) => hj (R.inj i j L hi (z ▸ h1)))]; exact h3, RepK.to t h4⟩
      | st => exact r
  · have : b ≠ L := fun z => by rw [z, B.fr i L hi] at e; cases e
    rw [upd_ne this]
    exact B.kp b x e n
/-- x.append(e) -/
def dApp (i : Nat) (de : Ev → (D → Prop) → Prop) : DS := fun Ed env => match eget env i with
  | some (.own ds) => de env fun x => ds.length ≤ 100000 ∧ Ed.nx (eset env i (some (.own (ds ++ [x]))))
  | _ => False
theorem rs_app (i : Nat) {te : TE} {de : Ev → (D → Prop) → Prop} (h : RfE K te de) : RfS K (tDrop (tBM K "list" rAppend (tVar i) (tCons te tNil))) (dApp i de) := ⟨fun {A st H0 ow σ H env Ed E} B q k => by
  unfold dApp at q
  split at q
  · rename_i ds e
    obtain ⟨v, hv, L, vs, h1, rfl, h3, h4⟩ := B.r.sl i _ (eget_some e)
    refine ⟨_, hv, .inl ⟨rfl, vs, SqL.of h3⟩, h.run B.r q fun d v H' ⟨hl, q'⟩ s r => ?_⟩
    have B1 := B.step s
    have h3' : H' L = some (.lst vs) := s.k L _ h3 fun z => B.r.na i L h1 (B.r.exA L z)
    refine ⟨L, vs, v, rfl, rfl, h3', Nat.lt_of_le_of_lt (by rw [← h4.len]; exact hl) (by decide), ?_⟩
    have mL : Mo A ow L := .inr ⟨i, h1⟩
    have t : To H' (upd H' L (.lst (vs ++ [v]))) (Mo A ow) (Mo A ow) := ⟨fun b x e n => ⟨by rw [upd_ne (fun (z : b = L) => n (z ▸ mL))]; exact e, n⟩⟩
    have := B1.mut i (o' := .lst (vs ++ [v])) h1 h3' hv (en := .own (ds ++ [d])) ⟨L, _, h1, rfl, upd_same, RepL.to t ((RepL.to (B.r.toS s) h4).snoc r)⟩ (.inl ⟨_, rfl⟩)
    exact k.nx _ _ _ _ q' this.1 ((B.r.toS s).trans this.2)
  · exact q.elim⟩
/-- x[i] = e -/
def dSetIx (i : Nat) (de di : Ev → (D → Prop) → Prop) : DS := fun Ed env => de env fun x => match eget env i with
  | some (.own ds) => di env fun y => (match y with | .int k => ∃ j, ixN ds.length k = some j ∧ Ed.nx (eset env i (some (.own (ds.set j x)))) | _ => False)
  | _ => False
theorem rs_setIx (i : Nat) {te ti : TE} {de di : Ev → (D → Prop) → Prop} (h : RfE K te de) (hi : RfE K ti di) : RfS K (tAsg te (gSub (tVar i) ti rSetL)) (dSetIx i de di) := ⟨fun {A st H0 ow σ H env Ed E} B q k => h.run B.r q fun d v H1 q1 s1 r1 => by
  have B1 := B.step s1
  split at q1
  · rename_i ds e
    obtain ⟨w, hw, L, vs, h1, rfl, h3, h4⟩ := B1.r.sl i _ (eget_some e)
    refine ⟨_, hw, hi.run B1.r q1 fun y u H2 q2 s2 r2 => ?_⟩
    have B2 := B1.step s2
    have h3' : H2 L = some (.lst vs) := s2.k L _ h3 fun z => B1.r.na i L h1 (B1.r.exA L z)
    split at q2
    · cases r2
      obtain ⟨j, ej, q3⟩ := q2
      refine ⟨L, vs, _, j, rfl, rfl, h3', by rw [← h4.len]; exact ej, ?_⟩
      have mL : Mo A ow L := .inr ⟨i, h1⟩
      have t : To H2 (upd H2 L (.lst (vs.set j v))) (Mo A ow) (Mo A ow) := ⟨fun b x e n => ⟨by rw [upd_ne (fun (z : b = L) => n (z ▸ mL))]; exact e, n⟩⟩
      have := B2.mut i (o' := .lst (vs.set j v)) h1 h3' hw (en := .own (ds.set j d)) ⟨L, _, h1, rfl, upd_same, RepL.to t ((RepL.to (B1.r.toS s2) h4).set j (Rep.to (B1.r.toS s2) r1))⟩ (.inl ⟨_, rfl⟩)
      exact k.nx _ _ _ _ q3 this.1 (((B.r.toS s1).trans (B1.r.toS s2)).trans this.2)
    · exact q2.elim
  · exact q1.elim⟩
/-- what a slot owns is not changed any more -/
def frz (env : Ev) (i : Nat) : Ev := match eget env i with
  | some (.own ds) => eset env i (some (.d (.list ds)))
  | some (.odk ds) => eset env i (some (.d (.dict ds)))
  | _ => env
def dFrz (i : Nat) (a : DS) : DS := fun Ed env => a Ed (frz env i)
theorem set_self {α : Type} {xs : List α} {i : Nat} {x : α} (h : xs[i]? = some x) : xs.set i x = xs := by
  refine List.ext_getElem? fun j => ?_
  by_cases e : i = j
  · subst e
    rw [List.getElem?_set_self (List.getElem?_eq_some_iff.mp h).1, h]
  · rw [List.getElem?_set_ne e]
theorem rs_frz (i : Nat) {t : TS} {a : DS} (h : RfS K t a) : RfS K t (dFrz i a) := ⟨fun {A st H0 ow σ H env Ed E} B q k => by
  have less : To H H (Mo A ow) (Mo A (owDel ow i)) := to_less fun b => Mo.sub fun j a e => (owDel_sub e).1
  have nm : ∀ L, ow i = some L → ¬ Mo A (owDel ow i) L := fun L e z => by
    rcases z with z | ⟨j, z⟩
    · exact B.r.na i L e z
    · obtain ⟨z1, z2⟩ := owDel_sub z
      exact z2 (B.r.inj j i L z1 e)
  have put : ∀ d v, Rep K H (Mo A (owDel ow i)) d v → σ[i]? = some (some v) → BE K A st H0 (owDel ow i) σ H (eset env i (some (.d d))) := fun d v r hv => by
    have R := B.r
    have sub : ∀ j a, owDel ow i j = some a → ow j = some a := fun j a e => (owDel_sub e).1
    refine ⟨⟨R.ls, R.dom, R.sta, fun j a e => R.al j a (sub j a e), fun j a e => R.na j a (sub j a e), fun j k a h1 h2 => R.inj j k a (sub j a h1) (sub k a h2), fun j a h => ?_, by unfold eset; rw [List.length_set]; exact R.len, fun j e he => ?_⟩, B.kp, fun j a h => B.fr j a (sub j a h)⟩
    · have hj := (owDel_sub h).2
      unfold eset
      rw [List.getElem?_set_ne fun z => hj z.symm]
      exact R.tie j a (sub j a h)
    unfold eset at he
    by_cases hj : i = j
    · subst hj
      have hl : i < env.length := by rw [← R.len]; exact (List.getElem?_eq_some_iff.mp hv).1
      rw [List.getElem?_set_self hl] at he
      cases he
      exact ⟨v, hv, r⟩
    · rw [List.getElem?_set_ne hj] at he
      obtain ⟨u, hu, s⟩ := R.sl j e he
      exact ⟨u, hu, s.less sub (by unfold owDel; rw [if_neg (fun z => hj z.symm)])⟩
  unfold dFrz frz at q
  split at q
  · rename_i ds e
    obtain ⟨v, hv, L, vs, h1, rfl, h3, h4⟩ := B.r.sl i _ (eget_some e)
    exact h.run (put _ _ (.lst h3 (nm L h1) (RepL.to less h4)) hv) q (k.to less)
  · rename_i ds e
    obtain ⟨v, hv, L, vs, h1, rfl, h3, h4⟩ := B.r.sl i _ (eget_some e)
    exact h.run (put _ _ (.dct h3 (nm L h1) (RepK.to less h4)) hv) q (k.to less)
  · exact h.run B q k⟩
/-! two names at once -/
def dPar (i j : Nat) (da : Ev → (List D → Prop) → Prop) : DS := fun Ed env => da env fun xs => match xs with
  | [x, y] => Ed.nx (eset (eset env i (some (.d x))) j (some (.d y)))
  | _ => False
theorem rs_par {n : Nat} (i j : Nat) {t : TA} {da : Ev → (List D → Prop) → Prop} (h : RfN K n t da) : RfS K (tPar i j t) (dPar i j da) := ⟨fun {A st H0 ow σ H env Ed E} B q k => h.run B.r q fun ds vs H1 q1 _ s1 r1 => by
  split at q1
  · cases r1 with | cons h1 r1 => cases r1 with | cons h2 r2 =>
    cases r2
    have B1 := B.step s1
    have B2 := B1.put i h1
    have t2 := to_del H1 A ow i
    have B3 := B2.put j (Rep.to t2 h2)
    exact ⟨_, _, rfl, k.nx _ _ _ _ q1 B3 (((B.r.toS s1).trans t2).trans (to_del _ _ _ _))⟩
  · exact q1.elim⟩
def dAug (i : Nat) (de : Ev → (D → Prop) → Prop) (g : Int → Int → Int) : DS := fun Ed env => match eget env i with
  | some (.d (.int x)) => de env fun y => (match y with | .int z => Ed.nx (eset env i (some (.d (.int (g x z))))) | _ => False)
  | _ => False
theorem rs_aug (i : Nat) {t : TE} {de : Ev → (D → Prop) → Prop} {g : Int → Int → Int} (h : RfE K t de) : RfS K (tAug i t (ipI g)) (dAug i de g) := ⟨fun B q k => by
  unfold dAug at q
  split at q
  · rename_i x e
    obtain ⟨v, hv, r⟩ := B.r.sl i _ (eget_some e)
    cases r
    refine ⟨_, hv, h.run B.r q fun d v H1 q1 s1 r1 => ?_⟩
    split at q1
    · cases r1
      have B1 := B.step s1
      exact ⟨_, _, rfl, rfl, k.nx _ _ _ _ q1 (B1.put i (.int _)) ((B.r.toS s1).trans (to_del _ _ _ _))⟩
    · exact q1.elim
  · exact q.elim⟩
/-! loops -/
def loopD (g : D → Ev → (Ev → Prop) → Prop) (body : DS) (Ed : Dd) : List D → Ev → Prop
  | [], env => Ed.nx env
  | d :: r, env => g d env fun env1 => body { nx := loopD g body Ed r, ct := loopD g body Ed r, bk := Ed.nx, rt := Ed.rt } env1
def dFor (di : Ev → (List D → Prop) → Prop) (g : D → Ev → (Ev → Prop) → Prop) (body : DS) : DS := fun Ed env => di env fun ds => loopD g body Ed ds env
theorem rs_for {is : List Nat} {wi : TI} {tg : TG} {tb : TS} {di : Ev → (List D → Prop) → Prop} {g : D → Ev → (Ev → Prop) → Prop} {body : DS} (hi : RfI K wi di) (hg : RfG K is tg g) (hb : RfS K tb body) : RfS K (tFor wi tg tb) (dFor di g body) := ⟨fun {A st H0 ow σ H env Ed E} B q k =>
  hi.run B.r q fun ds J H1 q1 s1 J1 => by
    have B1 := B.step s1
    have k1 := k.to (B.r.toS s1)
    refine ⟨fun i m σ' H' => m = ds.length - i ∧ i ≤ ds.length ∧ ∃ env' ow', BE K A st H0 ow' σ' H' env' ∧ To H1 H' (Mo A ow) (Mo A ow') ∧ loopD g body Ed (ds.drop i) env', ⟨_, rfl, Nat.zero_le _, env, ow, B1, To.refl _ _, q1⟩, ?_⟩
    rintro i m σ' H' ⟨rfl, hi, env', ow', B', t', q'⟩
    have al : ∀ a, Mo A ow' a → H' a ≠ none := fun a z => B'.r.alM z
    by_cases hlt : i < ds.length
    · have eD : ds[i]? = some ds[i] := List.getElem?_eq_getElem hlt
      rw [drop_get eD] at q'
      obtain ⟨go, yl⟩ := (J1 _ H' t' al i).2 _ eD
      refine .inr ⟨go, fun σ2 H2 => ∃ env2 ow2, BE K A st H0 ow2 σ2 H2 env2 ∧ To H1 H2 (Mo A ow) (Mo A ow2) ∧ loopD g body Ed (ds.drop (i + 1)) env2, fun σ2 H2 z => ⟨_, by omega, rfl, hlt, z⟩, fun x H2 y => ?_⟩
      obtain ⟨sm, rx⟩ := yl x H2 y
      have B2 := B'.step (.same B'.r.ls sm)
      refine hg.run B2.r rx q' fun env3 ow3 σ3 q3 R3 sub3 _ => ?_
      have B3 : BE K A st H0 ow3 σ3 H2 env3 := ⟨R3, B2.kp, fun j a e => B2.fr j a (sub3 j a e)⟩
      have t3 : To H' H2 (Mo A ow') (Mo A ow3) := (to_same sm).trans (to_less fun a => Mo.sub sub3)
      have k3 := k1.to (t'.trans t3)
      exact hb.run B3 q3 ⟨fun env' ow' σ' H' q b t => ⟨env', ow', b, (t'.trans t3).trans t, q⟩, k3.rt, k3.nx, fun env' ow' σ' H' q b t => ⟨env', ow', b, (t'.trans t3).trans t, q⟩⟩
    · have e' : i = ds.length := by omega
      subst e'
      rw [List.drop_length] at q'
      exact .inl ⟨(J1 _ H' t' al _).1 rfl, k1.nx _ _ _ _ q' B' t'⟩⟩
def dWhile (c : Ev → (Bool → Prop) → Prop) (body : DS) : DS := fun Ed env => ∃ W : Nat → Ev → Prop, (∃ m, W m env) ∧ ∀ m env, W m env → c env fun b =>
  if b = true then body { nx := fun e => ∃ m', m' < m ∧ W m' e, ct := fun e => ∃ m', m' < m ∧ W m' e, bk := Ed.nx, rt := Ed.rt } env else Ed.nx env
theorem rs_while {tc : TT} {tb : TS} {c : Ev → (Bool → Prop) → Prop} {body : DS} (hc : RfT K tc c) (hb : RfS K tb body) : RfS K (tWhile tc tb) (dWhile c body) := ⟨fun {A st H0 ow σ H env Ed E} B ⟨W, ⟨m0, w0⟩, turn⟩ k => by
  refine ⟨fun m σ' H' => ∃ env' ow', BE K A st H0 ow' σ' H' env' ∧ To H H' (Mo A ow) (Mo A ow') ∧ W m env', ⟨m0, env, ow, B, To.refl _ _, w0⟩, ?_⟩
  rintro m σ' H' ⟨env', ow', B', t', w'⟩
  refine hc.run B'.r (turn m env' w') fun b H2 q2 s2 => ?_
  have B2 := B'.step s2
  have t2 := t'.trans (B'.r.toS s2)
  have k2 := k.to t2
  cases b with
  | false =>
    rw [if_neg Bool.false_ne_true] at q2 ⊢
    exact k2.nx _ _ _ _ q2 B2 (To.refl _ _)
  | true =>
    rw [if_pos rfl] at q2 ⊢
    exact ⟨fun σ3 H3 => ∃ m', m' < m ∧ ∃ env' ow', BE K A st H0 ow' σ3 H3 env' ∧ To H H3 (Mo A ow) (Mo A ow') ∧ W m' env', fun σ3 H3 z => z,
      hb.run B2 q2 ⟨fun env' ow' σ' H' ⟨m', hm, w⟩ b t => ⟨m', hm, env', ow', b, t2.trans t, w⟩, k2.rt, k2.nx, fun env' ow' σ' H' ⟨m', hm, w⟩ b t => ⟨m', hm, env', ow', b, t2.trans t, w⟩⟩⟩⟩
/-! bodies -/
def ev0 (ds : List D) (n : Nat) : Ev := ds.map (fun d => some (.d d)) ++ List.replicate n none
theorem ev0_get {K : PySem.W.Frag} {H : Hp} {A : Addr → Prop} : ∀ {ds : List D} {vs : List V} {n i : Nat} {e : En}, RepL K H A ds vs → (ev0 ds n)[i]? = some (some e) → ∃ d v, e = .d d ∧ vs[i]? = some v ∧ Rep K H A d v := fun {ds vs n i e} r h => by
  unfold ev0 at h
  by_cases hi : i < ds.length
  · rw [List.getElem?_append_left (by rw [List.length_map]; exact hi), List.getElem?_map, List.getElem?_eq_getElem hi] at h
    cases h
    obtain ⟨v, hv, rv⟩ := r.get (List.getElem?_eq_getElem hi)
    exact ⟨_, v, rfl, hv, rv⟩
  · rw [List.getElem?_append_right (by rw [List.length_map]; omega)] at h
    have := List.mem_of_getElem? h
    rw [List.mem_replicate] at this
    cases this.2
theorem start_get {N : List Str} {vs : List V} {i : Nat} {v : V} (h : vs[i]? = some v) : (L2.start N vs)[i]? = some (some v) := by
  unfold L2.start
  have hi := (List.getElem?_eq_some_iff.mp h).1
  rw [List.getElem?_append_left (by rw [List.length_map]; exact hi), List.getElem?_map, h]
  rfl
theorem fn_pure {t : TS} {b : DS} {f : List D → (D → Prop) → Prop} {N : List Str} {vs : List V} {H : Hp} {Q : VK} {E : XK} (hb : RfS K t b) (h : spD K f vs H Q E) (hn : vs.length ≤ N.length)
    (hf : ∀ ds Qd, f ds Qd → b { nx := fun _ => Qd .none, rt := Qd } (ev0 ds (N.length - ds.length))) : t { nx := fun _ H' => Q .non H', rt := Q } (L2.start N vs) H := by
  obtain ⟨A, ds, Qd, dom, r, hq, k⟩ := h
  have hl := r.len
  refine hb.run (A := A) (st := none) (H0 := H) (ow := fun _ => none) ⟨⟨fun q e => (by cases e), dom, fun q e => (by cases e), fun i a e => (by cases e), fun i a e => (by cases e), fun i j a e => (by cases e), fun i a e => (by cases e), ?_, fun i e he => ?_⟩, Keep.refl _ _, fun i a e => (by cases e)⟩ (hf ds Qd hq) ?_
  · unfold L2.start ev0
    simp only [List.length_append, List.length_map, List.length_replicate]
    omega
  · obtain ⟨d, v, rfl, hv, rv⟩ := ev0_get r he
    exact ⟨v, start_get hv, Rep.to (to_less fun a z => z.elim id fun ⟨i, e⟩ => by cases e) rv⟩
  · exact ⟨fun env' ow' σ' H' q b t => k _ _ _ q (fun b' o e => b.kp b' o e (by simp [exs])) .non, fun d v H' q s r => k _ _ _ q (fun b' o e => s.k b' o e (by simp [exs])) r, fun _ _ _ _ q => q.elim, fun _ _ _ _ q => q.elim⟩
theorem fn_state {t : TS} {b : DS} {f : List D → (D → Prop) → Prop} {N : List Str} {vs : List V} {H : Hp} {Q : VK} {E : XK} (hb : RfS K t b) (h : spS K f vs H Q E) (hn : vs.length ≤ N.length)
    (hf : ∀ ds Qd, f ds Qd → b { nx := fun _ => Qd .none, rt := Qd } (some .st :: ev0 ds (N.length - (ds.length + 1)))) : t { nx := fun _ H' => Q .non H', rt := Q } (L2.start N vs) H := by
  obtain ⟨A, z, ds, ws, Qd, rfl, ls, a1, a2, dom, r, hq, k⟩ := h
  have hl := r.len
  refine hb.run (A := A) (st := some z) (H0 := H) (ow := fun _ => none) ⟨⟨fun q e => (by cases e; exact ls), dom, fun q e => (by cases e; exact ⟨a1, a2⟩), fun i a e => (by cases e), fun i a e => (by cases e), fun i j a e => (by cases e), fun i a e => (by cases e), ?_, fun i e he => ?_⟩, Keep.refl _ _, fun i a e => (by cases e)⟩ (hf ds Qd hq) ?_
  · unfold L2.start ev0
    simp only [List.length_append, List.length_map, List.length_replicate, List.length_cons] at hn ⊢
    omega
  · cases i with
    | zero =>
      rw [List.getElem?_cons_zero] at he
      cases he
      exact ⟨_, start_get (i := 0) rfl, z, rfl, rfl⟩
    | succ i =>
      rw [List.getElem?_cons_succ] at he
      obtain ⟨d, v, rfl, hv, rv⟩ := ev0_get r he
      exact ⟨v, start_get (i := i + 1) (by rw [List.getElem?_cons_succ]; exact hv), Rep.to (to_less fun a z => z.elim id fun ⟨i, e⟩ => by cases e) rv⟩
  · exact ⟨fun env' ow' σ' H' q b t => k _ _ _ q ⟨b.kp, b.r.ls⟩ .non, fun d v H' q s r => k _ _ _ q s r, fun _ _ _ _ q => q.elim, fun _ _ _ _ q => q.elim⟩
theorem spD_len {f : List D → (D → Prop) → Prop} {n : Nat} (hf : ∀ ds Qd, f ds Qd → ds.length = n) {vs : List V} {H : Hp} {Q : VK} {E : XK} (h : spD K f vs H Q E) : vs.length = n := by
  obtain ⟨A, ds, Qd, dom, r, hq, k⟩ := h
  rw [← r.len]
  exact hf ds Qd hq
theorem spS_len {f : List D → (D → Prop) → Prop} {n : Nat} (hf : ∀ ds Qd, f ds Qd → ds.length = n) {vs : List V} {H : Hp} {Q : VK} {E : XK} (h : spS K f vs H Q E) : vs.length = n + 1 := by
  obtain ⟨A, z, ds, ws, Qd, rfl, ls, a1, a2, dom, r, hq, k⟩ := h
  rw [List.length_cons, ← r.len, hf ds Qd hq]
end
section
variable {K : PySem.W.Frag}
def dUn (op : D → (D → Prop) → Prop) (da : Ev → (D → Prop) → Prop) : Ev → (D → Prop) → Prop := fun env Q => da env fun x => op x Q
structure RfV1 (K : PySem.W.Frag) (r : V → Hp → VK → Prop) (op : D → (D → Prop) → Prop) : Prop where
  run : ∀ {A : Addr → Prop} {st : Option (Addr × Addr)} {ow : Nat → Option Addr} {σ : L2.St} {H : Hp} {env : Ev} {a : D} {x : V} {Qd : D → Prop} {Q : VK},
  RE K A st ow σ H env → RepB K H A (Mo A ow) a x → op a Qd → (∀ d v H', Qd d → Stp st H H' → Rep K H' (Mo A ow) d v → Q v H') → r x H Q
theorem ru {r : V → Hp → VK → Prop} {op : D → (D → Prop) → Prop} {ta : TE} {da : Ev → (D → Prop) → Prop} (ho : RfV1 K r op) (ha : RfB K ta da) : RfE K (tUn r ta) (dUn op da) := ⟨fun R q k =>
  ha.run R q fun d v H1 q1 s1 r1 => ho.run (R.step s1) r1 q1 fun d v H2 q2 s2 r2 => k d v H2 q2 (s1.trans s2) r2⟩
def oNeg : D → (D → Prop) → Prop := fun x Q => match x with | .int i => Q (.int (-i)) | _ => False
theorem rv_neg : RfV1 K (rU fun i => .int (-i)) oNeg := ⟨fun R h q k => by
  unfold oNeg at q
  split at q
  · cases h.int
    exact ⟨_, rfl, k _ _ _ q (stp_refl R) (.int _)⟩
  · exact q.elim⟩
theorem rv_ninS : RfV2 K (fun x y H Q => ∃ (c : Nat) (z : Str), x = .str ⟨#[c]⟩ ∧ y = .str z ∧ Q (.bl (!decide (c ∈ z.cps.toList))) H) (oInS true) := ⟨fun R h1 h2 q k => by
  unfold oInS at q
  split at q
  · cases h1.str; cases h2.str
    obtain ⟨c, rfl, q⟩ := q
    exact ⟨_, _, rfl, rfl, k _ _ _ q (stp_refl R) (.bl _)⟩
  · exact q.elim⟩
def CDivW' (_ j : Int) : Prop := 0 < j ∧ j.natAbs < 2 ^ 64
/-! promises by their arguments -/
def F0 (P : (D → Prop) → Prop) : List D → (D → Prop) → Prop := fun ds Q => match ds with | [] => P Q | _ => False
def F1 (P : D → (D → Prop) → Prop) : List D → (D → Prop) → Prop := fun ds Q => match ds with | [a] => P a Q | _ => False
def F2 (P : D → D → (D → Prop) → Prop) : List D → (D → Prop) → Prop := fun ds Q => match ds with | [a, b] => P a b Q | _ => False
def F3 (P : D → D → D → (D → Prop) → Prop) : List D → (D → Prop) → Prop := fun ds Q => match ds with | [a, b, c] => P a b c Q | _ => False
def F4 (P : D → D → D → D → (D → Prop) → Prop) : List D → (D → Prop) → Prop := fun ds Q => match ds with | [a, b, c, d] => P a b c d Q | _ => False
def F5 (P : D → D → D → D → D → (D → Prop) → Prop) : List D → (D → Prop) → Prop := fun ds Q => match ds with | [a, b, c, d, e] => P a b c d e Q | _ => False
def F6 (P : D → D → D → D → D → D → (D → Prop) → Prop) : List D → (D → Prop) → Prop := fun ds Q => match ds with | [a, b, c, d, e, f] => P a b c d e f Q | _ => False
theorem F0_len {P} (ds : List D) (Q : D → Prop) (h : F0 P ds Q) : ds.length = 0 := by unfold F0 at h; split at h; rfl; exact h.elim
theorem F1_len {P} (ds : List D) (Q : D → Prop) (h : F1 P ds Q) : ds.length = 1 := by unfold F1 at h; split at h; rfl; exact h.elim
theorem F2_len {P} (ds : List D) (Q : D → Prop) (h : F2 P ds Q) : ds.length = 2 := by unfold F2 at h; split at h; rfl; exact h.elim
theorem F3_len {P} (ds : List D) (Q : D → Prop) (h : F3 P ds Q) : ds.length = 3 := by unfold F3 at h; split at h; rfl; exact h.elim
theorem F4_len {P} (ds : List D) (Q : D → Prop) (h : F4 P ds Q) : ds.length = 4 := by unfold F4 at h; split at h; rfl; exact h.elim
theorem F5_len {P} (ds : List D) (Q : D → Prop) (h : F5 P ds Q) : ds.length = 5 := by unfold F5 at h; split at h; rfl; exact h.elim
theorem F6_len {P} (ds : List D) (Q : D → Prop) (h : F6 P ds Q) : ds.length = 6 := by unfold F6 at h; split at h; rfl; exact h.elim
theorem F0_in {P} {G : List D → (D → Prop) → Prop} (h : ∀ Qd, P Qd → G [] Qd) : ∀ ds Qd, F0 P ds Qd → G ds Qd := fun ds Qd q => by unfold F0 at q; split at q; exact h _ q; exact q.elim
theorem F1_in {P} {G : List D → (D → Prop) → Prop} (h : ∀ a Qd, P a Qd → G [a] Qd) : ∀ ds Qd, F1 P ds Qd → G ds Qd := fun ds Qd q => by unfold F1 at q; split at q; exact h _ _ q; exact q.elim
theorem F2_in {P} {G : List D → (D → Prop) → Prop} (h : ∀ a b Qd, P a b Qd → G [a, b] Qd) : ∀ ds Qd, F2 P ds Qd → G ds Qd := fun ds Qd q => by unfold F2 at q; split at q; exact h _ _ _ q; exact q.elim
theorem F3_in {P} {G : List D → (D → Prop) → Prop} (h : ∀ a b c Qd, P a b c Qd → G [a, b, c] Qd) : ∀ ds Qd, F3 P ds Qd → G ds Qd := fun ds Qd q => by unfold F3 at q; split at q; exact h _ _ _ _ q; exact q.elim
theorem F4_in {P} {G : List D → (D → Prop) → Prop} (h : ∀ a b c d Qd, P a b c d Qd → G [a, b, c, d] Qd) : ∀ ds Qd, F4 P ds Qd → G ds Qd := fun ds Qd q => by unfold F4 at q; split at q; exact h _ _ _ _ _ q; exact q.elim
theorem F5_in {P} {G : List D → (D → Prop) → Prop} (h : ∀ a b c d e Qd, P a b c d e Qd → G [a, b, c, d, e] Qd) : ∀ ds Qd, F5 P ds Qd → G ds Qd := fun ds Qd q => by unfold F5 at q; split at q; exact h _ _ _ _ _ _ q; exact q.elim
theorem F6_in {P} {G : List D → (D → Prop) → Prop} (h : ∀ a b c d e f Qd, P a b c d e f Qd → G [a, b, c, d, e, f] Qd) : ∀ ds Qd, F6 P ds Qd → G ds Qd := fun ds Qd q => by unfold F6 at q; split at q; exact h _ _ _ _ _ _ _ q; exact q.elim
/-! the law's own run -/
def spState (K : PySem.W.Frag) : Sp := fun vs H Q _ => ∃ (a : Addr) (ns : List Int), vs = [.ref a] ∧ SqL K H a (ns.map V.int) ∧ ns.length ≤ 63 ∧
  ∀ (p c : Addr) (H' : Hp), LS H' p c → Same H H' → H p = none → H c = none → Q (.ref p) H'
def spLaw (K : PySem.W.Frag) : Sp := fun vs H Q _ => ∃ (a : Addr) (ns : List Int), vs = [.ref a] ∧ SqL K H a (ns.map V.int) ∧ ns.length ≤ 63 ∧ ∀ H', Q (.bl true) H'
theorem spLaw_len {vs : List V} {H : Hp} {Q : VK} {E : XK} (h : spLaw K vs H Q E) : vs.length = 1 := by
  obtain ⟨a, ns, rfl, _⟩ := h
  rfl
theorem law_run {i : Nat} {u : TS} {b : DS} {N : List Str} {vs : List V} {H : Hp} {Q : VK} {E E' : XK} (hb : RfS K u b) (h : spLaw K vs H Q E) (hi : 0 < i) (hN : i < N.length)
    (hf : b { nx := fun _ => False, rt := fun d => d = .bool true } ((List.replicate N.length none).set i (some .st))) :
    tSeq (tAsg (tCall (spState K) [] E' (tCons (tVar 0) tNil)) (gName i)) u { nx := fun _ H' => Q .non H', rt := Q } (L2.start N vs) H := by
  obtain ⟨a, ns, rfl, hS, hlen, q⟩ := h
  refine ⟨_, start_get (i := 0) rfl, a, ns, rfl, hS, hlen, fun p c H1 ls sm np nc => ?_⟩
  refine hb.run (A := fun x => x = p ∨ x = c) (st := some (p, c)) (H0 := H1) (ow := fun _ => none) ⟨⟨fun q e => (by cases e; exact ls), fun a ha => ?_, fun q e => (by cases e; exact ⟨.inl rfl, .inr rfl⟩), fun i a e => (by cases e), fun i a e => (by cases e), fun i j a e => (by cases e), fun i a e => (by cases e), ?_, fun j e he => ?_⟩, Keep.refl _ _, fun i a e => (by cases e)⟩ hf ?_
  · obtain ⟨k, ns, h1, h2, _⟩ := ls
    rcases ha with rfl | rfl
    · rw [h1]; intro z; cases z
    · rw [h2]; intro z; cases z
  · unfold L2.start
    simp only [List.length_set, List.length_append, List.length_map, List.length_replicate, List.length_cons, List.length_nil]
    omega
  · by_cases hj : i = j
    · subst hj
      rw [List.getElem?_set_self (by rw [List.length_replicate]; exact hN)] at he
      cases he
      refine ⟨_, List.getElem?_set_self ?_, (p, c), rfl, rfl⟩
      unfold L2.start
      simp only [List.length_append, List.length_map, List.length_replicate, List.length_cons, List.length_nil]
      omega
    · rw [List.getElem?_set_ne hj] at he
      have := List.mem_of_getElem? he
      rw [List.mem_replicate] at this
      cases this.2
  · exact ⟨fun env' ow' σ' H' q => q.elim, fun d v H' e s r => by subst e; cases r; exact q H', fun _ _ _ _ q => q.elim, fun _ _ _ _ q => q.elim⟩
/-! draws -/
def sTake : D → (D → Prop) → Prop := fun m Q => match m with | .int m => 0 < m ∧ m < 2 ^ 64 ∧ ∀ r, 0 ≤ r → r < m → Q (.int r) | _ => False
def sTake0 : D → (D → Prop) → Prop := fun m Q => match m with | .int m => m < 2 ^ 64 ∧ ∀ r, 0 ≤ r → (r < m ∨ r < 1) → Q (.int r) | _ => False
def spTake : Sp := fun vs H Q _ => ∃ (p c : Addr) (m : Int), vs = [.ref p, .int m] ∧ LS H p c ∧ 0 < m ∧ m < 2 ^ 64 ∧
  ∀ (r : Int) (H' : Hp), 0 ≤ r → r < m → LS H' p c → Keep [p, c] H H' → Q (.int r) H'
def spTake0 : Sp := fun vs H Q _ => ∃ (p c : Addr) (m : Int), vs = [.ref p, .int m] ∧ LS H p c ∧ m < 2 ^ 64 ∧
  ∀ (r : Int) (H' : Hp), 0 ≤ r → (r < m ∨ r < 1) → LS H' p c → Keep [p, c] H H' → Q (.int r) H'
theorem take_of (vs : List V) (H : Hp) (Q : VK) (E : XK) (h : spS K (F1 sTake) vs H Q E) : spTake vs H Q E := by
  obtain ⟨A, z, ds, ws, Qd, rfl, ls, a1, a2, dom, r, hq, k⟩ := h
  unfold F1 at hq
  split at hq
  · unfold sTake at hq
    split at hq
    · cases r with | cons r1 r2 =>
      cases r2
      cases r1
      exact ⟨z.1, z.2, _, rfl, ls, hq.1, hq.2.1, fun r H' h0 h1 l kk => k _ _ _ (hq.2.2 r h0 h1) ⟨kk, fun q e => by cases e; exact l⟩ (.int _)⟩
    · exact hq.elim
  · exact hq.elim
theorem take0_of (vs : List V) (H : Hp) (Q : VK) (E : XK) (h : spS K (F1 sTake0) vs H Q E) : spTake0 vs H Q E := by
  obtain ⟨A, z, ds, ws, Qd, rfl, ls, a1, a2, dom, r, hq, k⟩ := h
  unfold F1 at hq
  split at hq
  · unfold sTake0 at hq
    split at hq
    · cases r with | cons r1 r2 =>
      cases r2
      cases r1
      exact ⟨z.1, z.2, _, rfl, ls, hq.1, fun r H' h0 h1 l kk => k _ _ _ (hq.2 r h0 h1) ⟨kk, fun q e => by cases e; exact l⟩ (.int _)⟩
    · exact hq.elim
  · exact hq.elim
theorem emod_rng (x : Int) {m : Int} (h : 0 < m) : 0 ≤ x % m ∧ x % m < m := ⟨Int.emod_nonneg _ (by omega), Int.emod_lt_of_pos _ h⟩
theorem at_mod {α : Type} {xs : List α} (h : xs ≠ []) (k : Int) : ∃ (j : Nat) (v : α), k % (xs.length : Int) = (j : Int) ∧ j < xs.length ∧ xs[j]? = some v := by
  have hl : 0 < xs.length := by
    cases xs with
    | nil => exact absurd rfl h
    | cons _ _ => exact Nat.zero_lt_succ _
  have e := emod_rng k (m := (xs.length : Int)) (by omega)
  refine ⟨(k % (xs.length : Int)).toNat, xs[(k % (xs.length : Int)).toNat]'(by omega), by omega, by omega, List.getElem?_eq_getElem _⟩
theorem LS.ne {H : Hp} {p c : Addr} (h : LS H p c) : p ≠ c := by
  obtain ⟨xs, ns, h1, h2, h3⟩ := h
  intro e
  subst e
  rw [h1] at h2
  cases h2
  have := h3.mem
  rw [List.mem_map] at this
  obtain ⟨_, _, z⟩ := this
  cases z
theorem cut63 (xs : List V) (h : xs.length ≤ 63) : cutV xs none (some 63) = xs := by
  unfold cutV
  rw [HT.sIx_none, show HT.sIx xs.length xs.length (some 63) = min 63 xs.length from HT.sIx_nat xs.length xs.length 63]
  rw [List.drop_zero, Nat.min_eq_right h, Nat.sub_zero, List.take_length]
/-! rows that are drawn from -/
def sPick : D → (D → Prop) → Prop := fun m Q => match seqOf m with | some ds => ds ≠ [] ∧ ds.length ≤ 100000 ∧ ∀ d ∈ ds, Q d | none => False
def sNumber : D → D → (D → Prop) → Prop := fun a b Q => match a, b with | .int lo, .int hi => lo ≤ hi ∧ (-(2 ^ 63) ≤ lo ∧ hi < 2 ^ 63) ∧ ∀ r, lo ≤ r → r ≤ hi → Q (.int r) | _, _ => False
end
/-! defs that show data: no repr runs around them -/
structure FnG (P : Program) (w : World) (K : PySem.W.Frag) (mg : Str → Option Value) (base : Heap) (k : Nat) (f : Addr) (fd : FuncData) (ps : List Str) (sp : Sp) : Prop where
  len : ∀ us H Q E, sp us H Q E → us.length = ps.length
  go : ∀ (A : Around) (outer : List Env) (s : Shared) (H : Hp) (args : Args) (us : List Value) (vs : List V) (Q : VK) (E : XK), Room k A → A.guards = some [] → Env0 P w K mg base A outer s H → BindsTo s fd args (ps.zip us) → Vals vs us → sp vs H Q E →
    codeAny (model P w) A (.call (.ref f) args) (CR CX0 outer P w H s Q E) s
theorem FnG.of {P : Program} {w : World} {K : PySem.W.Frag} {mg : Str → Option Value} {base : Heap} {k : Nat} {f : Addr} {fd : FuncData} {ps : List Str} {sp : Sp} (F : FnOk P w K mg base CX0 k f fd ps sp) : FnG P w K mg base k f fd ps sp :=   ⟨F.len, fun A outer s H args us vs Q E hr _ => F.run A outer s H args us vs Q E hr⟩
section
variable {X : Cx} {k : Nat} {f : Addr} {fd : FuncData} {ps : List Str} {sp : Sp} {x : Str} {p pos : Pos} {e : Expr} {es : List Expr} {t : TA}
theorem go_fnG {pins : List (Addr × Obj)} {σ : L2.St} {H : Hp} {s : Shared} {Q : VK} {us : List Value} {vs : List V} (F : FnG X.prog X.w X.K X.mg X.base k f fd ps sp) (hr : Room k X.A) (gd : X.A.guards = some []) (hb : Binds X.K fd ps [])
    (J : Inv X pins σ H s) (r : Vals vs us) (h : sp vs H Q E0) : wpAny (model X.prog X.w) X.A (call (.ref f) us) (EP X pins σ Q) X.xe s := by
  have hl : (us ++ []).length = ps.length := by rw [List.append_nil, ← r.length]; exact F.len _ _ _ _ h
  have bb := hb s us J.kIn hl
  rw [List.append_nil] at bb
  refine wpAny_call (codeAny_mono (F.go X.A X.stack s H ⟨us, []⟩ us vs Q E0 hr gd J.env0 bb r h) fun rr s' hq => ?_)
  match rr, hq with
  | .error e, hq => exact False.elim hq
  | .ok (.ret u), hq => exact J.after hq
  | .ok .next, hq => cases hq
  | .ok .brk, hq => cases hq
  | .ok .cont, hq => cases hq
theorem pe_callG (F : FnG X.prog X.w X.K X.mg X.base k f fd ps sp) (hr : Room k X.A) (gd : X.A.guards = some []) (hg : Gl X x) (hm : X.mg x = some (.ref f)) (hk : PySem.W.keepIn X.K (.ref f) = true) (hb : Binds X.K fd ps [])
    (ha : PA X (e :: es) t) (hdb : (x == ("__debug__" : Str)) = false := by decide) (he : starEach (e :: es) X.env = (false, eval e X.env) :: starEach es X.env := by rfl) (hpl : (backTo pos (starEach es X.env)).any (·.1) = false := by rfl) :
    PE X (.Call (.Name x p) (e :: es) [] pos) (tCall sp [] E0 t) := ⟨fun pins s σ H Q J h => by
  refine wpAny_Call_Name_kw (ld_glob J hg hm ?_ hdb)
  refine PySem.W.callWith_K (h₀ := X.base) J.ok.mod.kin hk (thn (ha.run pos pins s σ H _ J h) fun us s2 ⟨vs, H2, J2, r2, q2⟩ => ⟨J2.kIn, ?_⟩) he hpl
  have q3 : sp (vs ++ []) H2 Q E0 := q2
  rw [List.append_nil] at q3
  exact go_fnG F hr gd hb J2 r2 q3⟩
end
section
variable {P : Program} {w : World} {K : PySem.W.Frag} {mg : Str → Option Value} {base : Heap}
theorem okG {x qual : Str} {st : Stmt} {f : Addr} {fd : FuncData} {N ps : List Str} {k : Nat} {sp : Sp} (F : Fun K x qual st f fd) (S : FnScope N ps (defScope st)) (len : ∀ us H Q E, sp us H Q E → us.length = ps.length)
    (hbody : ∀ (cdv : Value) (A : Around) (outer : List Env) (s : Shared) (H : Hp) (vs : List V) (Q : VK) (E : XK), Room k (A.deeper (envOfC qual (defScope st) s.heap.objs.size f cdv)) → A.guards = some [] → sp vs H Q E →
      ∃ t, PSs (cxOf CX0 P w K mg base N qual (defScope st) f cdv A outer s H E).nox (defBody st) t ∧ t { nx := fun _ H' => Q .non H', rt := Q } (L2.start N vs) H) : FnG P w K mg base (k + 1) f fd ps sp := by
  obtain ⟨oc, od, kV, doc, pm, an, cdv, ct, osl, rfl, lk, hcd⟩ := F.ex
  refine ⟨len, fun A outer s H args us vs Q E hr gd ee hb r hsp => ?_⟩
  have hl := len _ _ _ _ hsp
  have kin : K.In s.heap := ee.mod.kin.keeps fun b o e => (ee.bs b o e).1
  have nol : s.heap.NoLimit := ee.mod.nolimit.keeps fun b o e => (ee.bs b o e).1
  have kinds : ∀ y ∈ ps.zip us, (defScope st).names.lookup y.1 = some .local ∨ ((defScope st).names.lookup y.1 = some .cell ∧ ((cellsFrom (s.heap.objs.size + 1) (defScope st).names []).lookup y.1).isSome = true) := fun ⟨n, v⟩ hy => by
    rcases S.par n (List.of_mem_zip hy).1 with z | z
    · exact .inl z
    · exact .inr ⟨z, PySem.W.cellsFrom_some _ _ _ (.inl z)⟩
  refine codeAny_call_function hr.depth (kin _ _ lk) rfl S.co S.gen rfl (PySem.W.codeRec_of kin hcd) (hb _ _ _ _ ?_)
  refine wpAny_newFunctionEnv_cells S.kind kinds fun env he s2 y => ?_
  subst he
  refine ⟨nol.keeps y.toInCall.keep, codeAny_func ?_⟩
  obtain ⟨t, ht, hq⟩ := hbody cdv A outer s H vs Q E (hr.deeper _) gd hsp
  have J : Inv (cxOf CX0 P w K mg base N qual (defScope st) f cdv A outer s H E) [] (L2.start N vs) H s2 := inv_start S hr.hd ee hl r y
  refine wpAny_mono (ht.nox.run [] s2 (L2.start N vs) H _ J hq) (fun fl s' hs => ?_) fun e s' hs => hs
  match fl, hs with
  | .ret u, ⟨v, σ', H', J', rv, q⟩ => exact ⟨v, H', J'.os, J'.bare, J'.base, J'.hok, rv, q⟩
  | .next, ⟨σ', H', J', q⟩ => exact ⟨.non, H', J'.os, J'.bare, J'.base, J'.hok, rfl, q⟩
  | .brk, ⟨_, _, _, q⟩ => cases q
  | .cont, ⟨_, _, _, q⟩ => cases q
end
/-- the law's call, where no repr runs around it -/
theorem callG {P : Program} {w : World} {K : PySem.W.Frag} {mg mb : Str → Option Value} {k : Nat} {fa a : Addr} {fd : FuncData} {x : Str} {sp : Sp} {sA : Shared} {us : List Value} {zs : List Int}
    (kin : K.In sA.heap) (hns : sA.heap.Ns mainGlobals mg) (hb : sA.heap.Ns builtinsNs mb) (hbb : ∀ x : Str, x ≠ "__name__" → mb x = bootBuiltins x) (nol : sA.heap.NoLimit) (hg : sA.gens = #[])
    (ha : sA.heap.get? a = some { cls := .type "list", data := .seq us.toArray }) (hi : IntsAre us zs) (hl : zs.length ≤ sizeLine) (hr : Room k callerA)
    (F : ∀ base : Heap, K.In base → base.Ns mainGlobals mg → FnG P w K mg base k fa fd [x] sp) (bnd : ∀ (s : Shared) (u : Value), BindsTo s fd ⟨[u], []⟩ [(x, u)])
    (hsp : ∀ H : Hp, SqL K H a (zs.map V.int) → sp [.ref a] H (fun v _ => v = .bl true) E0) :
    codeAny (model P w) callerA (.call (.ref fa) ⟨[.ref a], []⟩) (fun r s' => r = .ok (.ret (.bool true)) ∧ OldK sA.heap s'.heap ∧ s'.os = sA.os ∧ AllBare s'.gens) sA := by
  have rv := vals_ints hi
  have key : ∀ Hh : Hp, Only Hh → SqL K Hh a (zs.map V.int) → HOk P w Hh sA.heap → (∀ b, Hh b ≠ none → b = a) → (Hh a ≠ none → K.lookup a = none) →
      codeAny (model P w) callerA (.call (.ref fa) ⟨[.ref a], []⟩) (fun r s' => r = .ok (.ret (.bool true)) ∧ OldK sA.heap s'.heap ∧ s'.os = sA.os ∧ AllBare s'.gens) sA := by
    intro Hh hO hS hok hA hK
    have under : ∀ {b : Addr} {o : Obj}, sA.heap.get? b = some o → Hh b = none → (hidT sA.heap Hh).get? b = some o := fun e n => hidT_get e n
    have dictN : ∀ {b : Addr} {o : Obj} {es : Array DictEntry} {ep : Nat}, sA.heap.get? b = some o → o.data = .dict es ep → Hh b = none := fun {b o es ep} e d => Decidable.byContradiction fun z => by
      have e' : b = a := hA b z
      rw [e', ha] at e
      cases e
      cases (show Data.seq us.toArray _ = Data.dict es ep from d)
    have nsU : ∀ {b : Addr} {m : Str → Option Value}, sA.heap.Ns b m → (hidT sA.heap Hh).Ns b m := fun {b m} ⟨o, es, ep, e, d, r⟩ => ⟨o, es, ep, under e (dictN e d), d, r⟩
    have kinU : K.In (hidT sA.heap Hh) := fun b o e => under (kin b o e) (Decidable.byContradiction fun z => by
      have e' : b = a := hA b z
      rw [e', hK (e' ▸ z)] at e
      cases e)
    have md : Mod K mg (hidT sA.heap Hh) := ⟨kinU, nsU hns, ⟨mb, nsU hb, hbb⟩, let ⟨mc, h1, h2⟩ := nol; ⟨mc, nsU h1, h2⟩⟩
    have ee : Env0 P w K mg (hidT sA.heap Hh) callerA [] sA Hh := ⟨rfl, md, fun b o e => of_hidT e, Nat.le_of_eq (hidT_size _ _), trivial, fun b hb => absurd hb (by simp [frs]), hok, .of_eq hg⟩
    refine codeAny_mono ((F _ kinU (nsU hns)).go callerA [] sA Hh ⟨[.ref a], []⟩ [.ref a] [.ref a] _ _ hr rfl ee (bnd sA (.ref a)) (.cons rfl .nil) (hsp Hh hS)) fun r s' h => ?_
    match r, h with
    | .error e, h => cases h
    | .ok .next, h => cases h
    | .ok .brk, h => cases h
    | .ok .cont, h => cases h
    | .ok (.ret u), ⟨v, H', os, bare, un, hok', r', q⟩ =>
      subst q
      obtain rfl : u = Value.bool true := r'
      refine ⟨rfl, OldK.of_keep fun b o e => ?_, os, bare⟩
      cases q : Hh b with
      | none => exact un.keep b o e q (by simp [frs]) (by simp)
      | some u =>
        rcases hO b with z | ⟨ob, xs, z⟩
        · rw [q] at z; cases z
        · have z2 := un.frzs b ob _ z
          obtain ⟨e1, _⟩ := hok b _ z
          obtain ⟨e2, _⟩ := hok' b _ z2
          rw [e] at e1; cases e1
          exact e2
  cases hk : K.lookup a with
  | some o =>
    have e := kin a o hk
    rw [ha] at e
    cases e
    exact key (fun _ => none) (fun _ => .inl rfl) (.inr ⟨_, us.toArray, _, hk, rfl, rfl, rfl, by rw [List.size_toArray, hi.length]; exact hl, by simpa using rv⟩) (fun b u z => by cases (show (none : Option HO) = some u from z)) (fun b z => absurd rfl z) fun z => absurd rfl z
  | none =>
    let Hs : Hp := fun b => if b = a then some (.frz { cls := .type "list", data := .seq us.toArray } (.lst (zs.map V.int))) else none
    have at_a : Hs a = some (.frz { cls := .type "list", data := .seq us.toArray } (.lst (zs.map V.int))) := if_pos rfl
    have off : ∀ {b : Addr}, b ≠ a → Hs b = none := fun h => if_neg h
    refine key Hs (fun b => ?_) (.inl (.inr ⟨_, at_a⟩)) (fun b u z => ?_) (fun b z => Decidable.byContradiction fun h => z (off h)) fun _ => hk
    · by_cases h : b = a
      · exact .inr ⟨_, _, by rw [h]; exact at_a⟩
      · exact .inl (off h)
    · by_cases h : b = a
      · subst h
        rw [at_a] at z
        cases z
        exact ⟨ha, by rw [List.length_map]; exact hl, us, _, rv, ha⟩
      · rw [off h] at z
        cases z
theorem walkG {l : PySem.W.OpenLaw} {k : Nat} {q : Program} {loose : List Str} {XP : (Str → Option Value) → Heap → Prop} {YP : World → Heap → Prop} {d : DefRec} {K : Params → PySem.W.Frag} {x : Str}
    (hn : l.most = some 63) (hdf : d.params.defaults = []) (hr : Room k callerA)
    (hY : ∀ (w : World) (h : Heap), YP w h → (K w.params).In h)
    (F : ∀ (w : World) (mg : Str → Option Value) (fa : Addr) (h : Heap), (K w.params).In h → h.Ns mainGlobals mg → mg d.name = some (.ref fa) →
      ∃ fd : FuncData, (∀ (s : Shared) (u : Value), BindsTo s fd ⟨[u], []⟩ [(x, u)]) ∧
        ∀ base : Heap, (K w.params).In base → base.Ns mainGlobals mg → FnG l.prog w (K w.params) mg base k fa fd [x] (spLaw (K w.params))) :
    PySem.W.WalkO q loose XP YP l.row.toRowW d [] (fun f vs => PySem.call f vs) := by
  refine Att.attach_call hn hdf fun w s0 sA mg mb fa o pm cd doc a us zs G Y ho hd hcd hmg hobj hints hlen hg => ?_
  have kin := hY w _ Y
  obtain ⟨fd, hb, hF⟩ := F w mg fa _ kin G.T.g hmg
  exact callG kin G.T.g G.T.b G.T.builtins G.T.nolimit hg hobj hints (Nat.le_trans hlen (by decide)) hr hF hb fun H hS => ⟨a, zs, rfl, hS, hlen, fun _ => rfl⟩

/-! repr -/
def rRepr (K : PySem.W.Frag) : List V → Hp → VK → Prop := fun xs H Q => ∃ x d, xs = [x] ∧ Dp K H x d ∧ d.showable = true ∧ d.hasDict = false ∧ d.depth ≤ 60 ∧ d.shown.length ≤ sizeLine ∧ Q (.str d.shown) H
theorem cr_repr {X : Cx} (gd : X.A.guards = some []) (hu : X.A.units + 64 < cLine) : CallR X (.builtin "repr") (rRepr X.K) := fun pins s σ H xs us Q J r h => by
  obtain ⟨x, d, rfl, hd, hs, hn, hdep, hsz, q⟩ := h
  obtain ⟨u, rfl, ru⟩ := vals1 r
  have hd' := hd
  cases hd with
  | non => cases (show u = Value.none from ru); exact P.repr_of_none ⟨.str PyData.none.shown, H, J.tok _, ⟨_, rfl⟩, q⟩
  | bl b => cases (show u = Value.bool b from ru); exact P.repr_of_bool ⟨.str (PyData.bool b).shown, H, J.tok _, ⟨_, by cases b <;> rfl⟩, q⟩
  | int i =>
    obtain ⟨t, rfl⟩ := ru
    exact P.repr_of_int (by simpa [PyData.showable] using hs) ⟨.str (PyData.int i).shown, H, J.tok _, ⟨_, rfl⟩, q⟩
  | str z =>
    obtain ⟨t, rfl⟩ := ru
    exact P.repr_of_str ⟨.str (PyData.str z).shown, H, J.tok _, ⟨_, rfl⟩, q⟩ hsz
  | @lst a xs ds hq ha =>
    obtain ⟨as, rd⟩ := Dp.reads J _ _ u hd' ru
    cases (show u = Value.ref a from ru)
    exact repr_of_reads' rd hs (fun z => by rw [hn] at z; cases z) gd (by omega) (fun b o e => e) (fun h' u tk k => ⟨.str (PyData.list ds).shown, H, J.kept k, ⟨_, rfl⟩, q⟩) hsz
  | @tup a xs ds hq ha =>
    obtain ⟨as, rd⟩ := Dp.reads J _ _ u hd' ru
    cases (show u = Value.ref a from ru)
    exact repr_of_reads' rd hs (fun z => by rw [hn] at z; cases z) gd (by omega) (fun b o e => e) (fun h' u tk k => ⟨.str (PyData.tuple ds).shown, H, J.kept k, ⟨_, rfl⟩, q⟩) hsz
/-! the size of data -/
structure Sz (d : D) (k w : Nat) : Prop where
  lay : d.canLay0 = true
  sml : d.intsShort 13 = true
  shw : d.showable = true
  dep : d.depth ≤ k
  wt : d.weight ≤ w
theorem Sz.mono {d : D} {k w k' w' : Nat} (h : Sz d k w) (hk : k ≤ k') (hw : w ≤ w') : Sz d k' w' := ⟨h.lay, h.sml, h.shw, Nat.le_trans h.dep hk, Nat.le_trans h.wt hw⟩
theorem Sz.none : Sz .none 0 0 := ⟨rfl, rfl, rfl, Nat.le_refl _, Nat.le_refl _⟩
theorem Sz.bool (b : Bool) : Sz (.bool b) 0 0 := ⟨rfl, rfl, rfl, Nat.le_refl _, Nat.le_refl _⟩
theorem log2_small {n : Nat} (h : n < 10 ^ 12) : n.log2 < 40 := by
  by_cases hz : n = 0
  · subst hz; decide
  · exact (Nat.log2_lt hz).mpr (Nat.lt_of_lt_of_le h (by decide))
theorem Sz.int {i : Int} (h : i.natAbs < 10 ^ 12) : Sz (.int i) 0 40 := by
  have l := log2_small h
  refine ⟨rfl, by simp only [PyData.intsShort, decide_eq_true_eq]; exact PyData.shown_int_le h, by simp only [PyData.showable, decide_eq_true_eq]; omega, Nat.le_refl _, ?_⟩
  simp only [PyData.weight]
  split <;> omega
theorem Sz.str {z : Str} {n : Nat} (h : PyData.strOk z = true) (hn : z.cps.size ≤ n) : Sz (.str z) 0 n := ⟨by simpa only [PyData.canLay0] using h, rfl, rfl, Nat.le_refl _, by simpa only [PyData.weight] using hn⟩
theorem Sz.all {k w : Nat} : ∀ {ds : List D}, (∀ d ∈ ds, Sz d k w) → PyData.canLayAll0 ds = true ∧ PyData.intsShortAll 13 ds = true ∧ PyData.showableAll ds = true ∧ PyData.depthAll ds ≤ k ∧ PyData.weightAll ds ≤ ds.length * (w + 1)
  | [], _ => ⟨rfl, rfl, rfl, Nat.zero_le _, Nat.zero_le _⟩
  | d :: r, h => by
    obtain ⟨a1, a2, a3, a4, a5⟩ := h d List.mem_cons_self
    obtain ⟨b1, b2, b3, b4, b5⟩ := Sz.all (ds := r) fun e he => h e (List.mem_cons_of_mem _ he)
    refine ⟨by simp only [PyData.canLayAll0, a1, b1, Bool.and_self], by simp only [PyData.intsShortAll, a2, b2, Bool.and_self], by simp only [PyData.showableAll, a3, b3, Bool.and_self], ?_, ?_⟩
    · simp only [PyData.depthAll]; omega
    · simp only [PyData.weightAll, List.length_cons, Nat.add_mul]; omega
theorem Sz.tup {k w n : Nat} {ds : List D} (h : ∀ d ∈ ds, Sz d k w) (hn : ds.length ≤ n) : Sz (.tuple ds) (k + 1) (n * (w + 1)) := by
  obtain ⟨b1, b2, b3, b4, b5⟩ := Sz.all h
  exact ⟨by simpa only [PyData.canLay0] using b1, by simpa only [PyData.intsShort] using b2, by simpa only [PyData.showable] using b3, by simp only [PyData.depth]; omega, by simp only [PyData.weight]; exact Nat.le_trans b5 (Nat.mul_le_mul_right _ hn)⟩
theorem Sz.list {k w n : Nat} {ds : List D} (h : ∀ d ∈ ds, Sz d k w) (hn : ds.length ≤ n) : Sz (.list ds) (k + 1) (n * (w + 1)) := by
  obtain ⟨b1, b2, b3, b4, b5⟩ := Sz.all h
  exact ⟨by simpa only [PyData.canLay0] using b1, by simpa only [PyData.intsShort] using b2, by simpa only [PyData.showable] using b3, by simp only [PyData.depth]; omega, by simp only [PyData.weight]; exact Nat.le_trans b5 (Nat.mul_le_mul_right _ hn)⟩
theorem Sz.ok {d : D} {k w : Nat} (h : Sz d k w) (hk : k ≤ 60 := by decide) : okD d = true := by
  unfold okD SeqAt.shaped
  rw [h.lay, decide_eq_true (show d.depth ≤ 64 from Nat.le_trans h.dep (by omega))]
  rfl
def repOK (d : D) : Prop := ∃ k w, Sz d k w ∧ k ≤ 60 ∧ w ≤ 1048576
theorem Sz.rep {d : D} {k w : Nat} (h : Sz d k w) (hk : k ≤ 60 := by decide) (hw : w ≤ 1048576 := by decide) : repOK d := ⟨k, w, h, hk, hw⟩
theorem repOK.short {d : D} (h : repOK d) : d.shown.length ≤ sizeLine := by
  obtain ⟨k, w, h, hk, hw⟩ := h
  refine PyData.shown_fits_of_layable0 (B := 13) (by decide) (by decide) ?_ h.sml
  show (PyData.canLay0 d && decide (PyData.depth d ≤ 64) && decide (PyData.weight d ≤ 2 ^ 20)) = true
  rw [h.lay, decide_eq_true (show PyData.depth d ≤ 64 from Nat.le_trans h.dep (by omega)), decide_eq_true (show PyData.weight d ≤ 2 ^ 20 from Nat.le_trans h.wt (by omega))]
  rfl
/-- what is shown of data -/
def oRepr : List D → (D → Prop) → Prop := fun xs Q => match xs with | [d] => repOK d ∧ Q (.str d.shown) | _ => False
theorem ro_repr {K : PySem.W.Frag} : RfVL K (rRepr K) oRepr := ⟨fun R h q k => by
  unfold oRepr at q
  split at q
  · rename_i d
    obtain ⟨v, rfl, z⟩ := h.one
    obtain ⟨r, q⟩ := q
    have sh := r.short
    obtain ⟨dp, w, hz, hk, hw⟩ := r
    exact ⟨v, d, rfl, z.dp hz.lay, hz.shw, PyData.hasDict_of_canLay d hz.lay, Nat.le_trans hz.dep hk, sh, k _ _ _ q (stp_refl R) (.str _)⟩
  · exact q.elim⟩
theorem eqv_same {d : D} (h : okD d = true) : PyData.eqv d d = true := SeqAt.eqv_refl d (okD_lay h)
/-! how comprehensions and loops go -/
/-- one turn of a comprehension gives T -/
def Turns (g : D → Ev → (Ev → Prop) → Prop) (c : Ev → (Bool → Prop) → Prop) (e : Ev → (D → Prop) → Prop) (env : Ev) (d : D) (T : Option D → Prop) : Prop :=
  ∀ R : Option D → Prop, (∀ o, T o → R o) → g d env fun env1 => c env1 fun b => if b = true then e env1 fun x => R (some x) else R none
theorem lc_any {g : D → Ev → (Ev → Prop) → Prop} {c : Ev → (Bool → Prop) → Prop} {e : Ev → (D → Prop) → Prop} {env : Ev} (T : D → Option D → Prop) : ∀ {ds : List D} {Q : List D → Prop}, (∀ d ∈ ds, Turns g c e env d (T d)) →
    (∀ os : List (Option D), Paired T ds os → Q (os.filterMap id)) → lcD g c e ds env Q
  | [], Q, _, q => q [] .nil
  | d :: r, Q, h, q => h d List.mem_cons_self (fun o => match o with | some x => lcD g c e r env fun xs => Q (x :: xs) | none => lcD g c e r env Q) fun o t => by
    have ih : ∀ {Q' : List D → Prop}, (∀ os : List (Option D), Paired T r os → Q' (os.filterMap id)) → lcD g c e r env Q' := fun {Q'} q' => lc_any T (fun d' h' => h d' (List.mem_cons_of_mem _ h')) q'
    cases o with
    | some x => exact ih fun os hp => q (some x :: os) (.cons t hp)
    | none => exact ih fun os hp => q (none :: os) (.cons t hp)
theorem lc_fun {α : Type} {g : D → Ev → (Ev → Prop) → Prop} {c : Ev → (Bool → Prop) → Prop} {e : Ev → (D → Prop) → Prop} {env : Ev} (enc : α → D) (f : α → Option D) : ∀ {as : List α} {Q : List D → Prop},
    (∀ a ∈ as, ∀ R : Option D → Prop, R (f a) → g (enc a) env fun env1 => c env1 fun b => if b = true then e env1 fun x => R (some x) else R none) → Q (as.filterMap f) → lcD g c e (as.map enc) env Q
  | [], Q, _, q => q
  | a :: r, Q, h, q => h a List.mem_cons_self (fun o => match o with | some x => lcD g c e (r.map enc) env fun xs => Q (x :: xs) | none => lcD g c e (r.map enc) env Q) (by
    have ih : ∀ {Q' : List D → Prop}, Q' (r.filterMap f) → lcD g c e (r.map enc) env Q' := fun {Q'} q' => lc_fun enc f (fun d' h' => h d' (List.mem_cons_of_mem _ h')) q'
    cases hf : f a with
    | some x =>
      rw [List.filterMap_cons, hf] at q
      exact ih q
    | none =>
      rw [List.filterMap_cons, hf] at q
      exact ih q)
/-- a loop by what holds ahead of each turn -/
theorem loop_by {g : D → Ev → (Ev → Prop) → Prop} {body : DS} {Ed : Dd} (I : List D → Ev → Prop) (hd : ∀ env, I [] env → Ed.nx env)
    (hs : ∀ d r env (N : Ev → Prop), I (d :: r) env → (∀ env', I r env' → N env') → g d env fun env1 => body { nx := N, ct := N, bk := Ed.nx, rt := Ed.rt } env1) : ∀ ds env, I ds env → loopD g body Ed ds env
  | [], env, h => hd env h
  | d :: r, env, h => hs d r env _ h fun env' h' => loop_by I hd hs r env' h'
theorem zip_map {α β : Type} (f : α → D) (h : β → D) : ∀ (as : List α) (bs : List β), zipD (as.map f) (bs.map h) = (as.zip bs).map fun p => PyData.tuple [f p.1, h p.2]
  | [], _ => by simp [zipD]
  | _ :: _, [] => by simp [zipD]
  | a :: r, b :: s => by
    rw [List.map_cons, List.map_cons, List.zip_cons_cons, List.map_cons, zipD, zip_map f h r s]
theorem bools_map {α : Type} (f : α → Bool) : ∀ as : List α, boolsOf (as.map fun a => PyData.bool (f a)) = some (as.map f)
  | [] => rfl
  | a :: r => by
    rw [List.map_cons, boolsOf, bools_map f r]
    rfl
theorem ints_map {α : Type} (f : α → Int) : ∀ as : List α, intsOf (as.map fun a => PyData.int (f a)) = some (as.map f)
  | [] => rfl
  | a :: r => by
    rw [List.map_cons, intsOf, ints_map f r]
    rfl
theorem fm_some {α β : Type} (f : α → β) : ∀ as : List α, as.filterMap (fun a => some (f a)) = as.map f
  | [] => rfl
  | a :: r => by rw [List.filterMap_cons, List.map_cons, fm_some f r]
/-! enumerate of a tuple -/
def IteT (K : PySem.W.Frag) (a : Addr) : It :=
  ⟨fun i H => ∃ (zs : List V) (x : V), SqT K H a zs ∧ zs[i]? = some x, fun i H v H' => ∃ T x, v = .ref T ∧ H T = none ∧ H' = upd H T (.tup [.int (i : Nat), x]) ∧ ∀ zs, SqT K H a zs → zs[i]? = some x, fun i H => ∃ zs : List V, SqT K H a zs ∧ i = zs.length⟩
theorem tupne {h : Heap} {a it : Addr} {i : Nat} {us : Array Value} (p : h.IsTuple a us) (q : h.IsTupleIter it a i) : a ≠ it := by
  rintro rfl
  obtain ⟨o, e1, c1, _⟩ := p
  obtain ⟨o', e2, c2, _⟩ := q
  rw [e1] at e2
  cases e2
  rw [c1] at c2
  exact absurd c2 (by decide +kernel)
theorem enumne {h : Heap} {a e it : Addr} {k : Int} {old : Value} {us : Array Value} (p : h.IsTuple a us) (q : IsEnum h e it k old) : e ≠ a := by
  rintro rfl
  obtain ⟨o, e1, c1, _⟩ := p
  rw [show h.get? e = _ from q] at e1
  cases e1
  exact absurd (show (Value.type "enumerate") = Value.type "tuple" from c1) (by decide +kernel)
theorem turn_enumT {P : Program} {w : World} {K : PySem.W.Frag} {elts : List Expr} {kk : Nat} {tpos : Pos} (a e it : Addr) :
    Turn P w K (.Tuple elts kk tpos) (IteT K a) [e, it] e (fun i h => (∃ old, IsEnum h e it ((i : Nat) : Int) old) ∧ h.IsTupleIter it a i ∧ e ≠ it) where
  mem := List.mem_cons_self
  obj := fun i h st b hb => by
    obtain ⟨⟨old, he⟩, ⟨o, ho, _, hd⟩, _⟩ := st
    simp only [List.mem_cons, List.not_mem_nil, or_false] at hb
    rcases hb with rfl | rfl
    · exact ⟨_, he, fun v z => nomatch z⟩
    · exact ⟨o, ho, fun v z => by rw [hd] at z; cases z⟩
  keep := fun i h h' ⟨⟨old, he⟩, hi, hne⟩ k => ⟨⟨old, k e (by simp) _ he⟩, hi.at fun o z => k it (by simp) o z, hne⟩
  item := by
    intro X hP hw hK hc i pins s σ H E J hf ⟨⟨old, he⟩, hit, hne⟩ ⟨zs, x, hq, hx⟩
    subst hP hw hK
    obtain ⟨its, rv, p, hz⟩ := J.tuple hq
    have p' : s.heap.IsTuple a its.toArray := p
    obtain ⟨u, hu, ru⟩ := rv.get hx
    have hil : i < its.toArray.size := by rw [List.size_toArray]; exact (List.getElem?_eq_some_iff.mp hu).1
    have lt_e : e < s.heap.objs.size := Heap.lt_size he
    have lt_it : it < s.heap.objs.size := by obtain ⟨_, z, _⟩ := hit; exact Heap.lt_size z
    refine wpAny_pyNext_enum_itemD (PySem.Draws.tuple (prog := X.prog) (w := X.w) (A := X.A.in1) (J.ok.hd hc) it a (tupne p' hit) its.toArray) he ⟨hit, p'⟩ hil hne (by simp only [List.mem_cons, List.not_mem_nil, or_false]; exact fun z => z.elim hne (enumne p' he)) fun x' h1 tk px ho st1 hT hsz hk => ?_
    rw [List.getElem?_toArray, hu] at px
    cases px
    refine ⟨_, rfl, wpAny_letOwnedTupleGo_enum (s := { s with heap := h1, toks := tk + 1 }) ho fun h2 he2 sb => ?_⟩
    have hT2 : h2.get? s.heap.objs.size = some { cls := .type "tuple", data := .seq #[.int i tk, u] } := (sb.2 _ (Nat.ne_of_gt lt_e)).trans hT
    have new : ObjOk X.prog X.w (upd H s.heap.objs.size (.tup [.int (i : Nat), x])) h2 s.heap.objs.size (.tup [.int (i : Nat), x]) := ⟨by show 2 ≤ sizeLine; decide, [.int i tk, u], .cons ⟨_, rfl⟩ (.cons ru .nil), ⟨_, hT2, rfl, _, rfl⟩⟩
    have J2 : Inv X pins σ (upd H s.heap.objs.size (.tup [.int (i : Nat), x])) { s with heap := h2, toks := tk + 1 } :=
      J.turnedNew (ch := [e, it]) (fun b ob hb z => (sb.2 b (fun y => hb (by simp [y]))).trans (hk b ob (fun y => hb (by simp [y])) (fun y => hb (by simp [y])) z)) hf (Nat.le_refl _) new
    refine ⟨.ref s.heap.objs.size, _, J2, rfl, ⟨_, x, rfl, J.hok.fresh (Nat.le_refl _), rfl, fun ys hy => by rw [J.tuple_inj hy hq]; exact hx⟩, ⟨⟨u, ?_⟩, st1.1.at fun o z => (sb.2 it (Ne.symm hne)).trans z, hne⟩, fun b hb => ?_⟩
    · rw [show ((i + 1 : Nat) : Int) = (i : Int) + 1 by omega]
      exact he2
    · have lb : b < s.heap.objs.size := by
        simp only [List.mem_cons, List.not_mem_nil, or_false] at hb
        rcases hb with rfl | rfl
        · exact lt_e
        · exact lt_it
      rw [upd_ne (Nat.ne_of_lt lb)]
      exact (hf b hb).1
  done := by
    intro X hP hw hK hc i pins s σ H E J hf ⟨⟨old, he⟩, hit, hne⟩ ⟨zs, hq, hx⟩
    subst hP hw hK
    obtain ⟨its, rv, p, hz⟩ := J.tuple hq
    have p' : s.heap.IsTuple a its.toArray := p
    obtain ⟨f0, f1, f2, f3, f4, f5⟩ := hf it (by simp)
    have hl := rv.length
    obtain rfl : i = its.toArray.size := by rw [List.size_toArray]; omega
    exact wpAny_pyNext_enum_endD (PySem.Draws.tuple (prog := X.prog) (w := X.w) (A := X.A.in1) (J.ok.hd hc) it a (tupne p' hit) its.toArray) he ⟨hit, p'⟩ fun h1 eb => ⟨rfl, J.turned (t' := s.toks) (fun b o hb z => eb b o hb z) f0 f1 f3 f4 f5⟩
  self := fun A i s Q E st h => let ⟨⟨_, he⟩, _⟩ := st; wpAny_pyIter_enum he h
set_option maxHeartbeats 4000000 in
theorem meets_enumT (a : Addr) (us : Array Value) (o : Obj) (hc : o.cls = .type "tuple") (n : Nat) (hd : o.data = .seq us n) :
    Meets (Builtin.«enumerate.__new__» ⟨[.type "enumerate", .ref a], []⟩) (fun _ R s => s.heap.get? a = some o ∧
      R (.ok (.ret (.ref (s.heap.push { cls := .type "tuple_iterator", data := .fields #[.ref a, .int 0 0] }).objs.size)))
        { s with heap := (s.heap.push { cls := .type "tuple_iterator", data := .fields #[.ref a, .int 0 0] }).push { cls := .type "enumerate", data := .fields #[.none, .bool false, .ref s.heap.objs.size, rawInt 0, .none, .none] } }) :=   .of_wp fun prog w A R s ⟨hl, h⟩ => by
    obtain ⟨hp, g, d, tk, os⟩ := s
    obtain ⟨c, dct, dt, sl⟩ := o
    replace hc : c = .type "tuple" := hc
    replace hd : dt = .seq us n := hd
    subst hc hd
    have hsub := sub_enumerate
    have tp : Heap.IsTuple (Shared.heap ⟨hp, g, d, tk, os⟩) a us := ⟨_, hl, rfl, n, rfl⟩
    wp_walk using AutoSeq1.wpAny_loadPart' hl
    refine wpAny_stack_any fun st => wpAny_pure ?_
    split
    · rename_i c2 _ _ _ _ _
      cases (c2 == Value.type "enumerate") <;> (wp_walk using AutoSeq1.wpAny_loadPart' hl, wpAny_pyIter_tuple tp; exact ⟨_, rfl, h⟩)
    · wp_walk using AutoSeq1.wpAny_loadPart' hl, wpAny_pyIter_tuple tp
      exact ⟨_, rfl, h⟩
theorem call_enumT {prog : Program} {w : World} {A : Around} {E : Value → Shared → Prop} {s : Shared} {a : Addr} {us : Array Value} {Q : Value → Shared → Prop} (hT : s.heap.IsTuple a us)
    (h : ∀ h1, IsEnum h1 (s.heap.objs.size + 1) s.heap.objs.size 0 .none → h1.IsTupleIter s.heap.objs.size a 0 → h1.objs.size = s.heap.objs.size + 2 → (∀ b o, s.heap.get? b = some o → h1.get? b = some o) → Q (.ref (s.heap.objs.size + 1)) { s with heap := h1 }) :
    wpAny (model prog w) A (call (.type "enumerate") [.ref a]) Q E s := by
  obtain ⟨o, hl, hc, n, hd⟩ := hT
  refine callType_new F.called_enumerate (by decide) (F.typeCall_enumerate_1 _) (F.newCall_enumerate_1 _) (fun obj => F.args_object_init_2 obj _) F.entry_enumerate_new (meets_enumT a us o hc n hd) ⟨hl, ?_⟩
  have sz : (s.heap.push { cls := .type "tuple_iterator", data := .fields #[.ref a, .int 0 0] }).objs.size = s.heap.objs.size + 1 := Heap.size_push ..
  show _ ∧ _
  rw [sz]
  have new : IsEnum ((s.heap.push { cls := .type "tuple_iterator", data := .fields #[.ref a, .int 0 0] }).push { cls := .type "enumerate", data := .fields #[.none, .bool false, .ref s.heap.objs.size, rawInt 0, .none, .none] }) (s.heap.objs.size + 1) s.heap.objs.size 0 .none := by
    have z := Heap.get?_push_size (s.heap.push { cls := .type "tuple_iterator", data := .fields #[.ref a, .int 0 0] }) (o := { cls := .type "enumerate", data := .fields #[.none, .bool false, .ref s.heap.objs.size, rawInt 0, .none, .none] }) rfl
    rw [sz] at z
    exact z
  exact ⟨⟨_, new, rfl⟩, h _ new ⟨_, Heap.get?_push_of_some _ (Heap.get?_push_size _ rfl), rfl, rfl⟩ (by rw [Heap.size_push, sz]) fun b o z => Heap.get?_push_of_some _ (Heap.get?_push_of_some _ z)⟩
def iEnumT (K : PySem.W.Frag) (ta : TA) : TI := fun σ H R => ta σ H fun vs H1 => ∃ a zs, vs = [.ref a] ∧ SqT K H1 a zs ∧ R (IteT K a) H1
theorem pi_enumT {X : Cx} {e : Expr} {ta : TA} {p pos tpos : Pos} {elts : List Expr} {kk : Nat} (hg : Gl X "enumerate") (hm : X.mg "enumerate" = none) (ha : PA X [e] ta) (hs : starEach [e] X.env = [(false, eval e X.env)] := by rfl) :
    PI X (.Tuple elts kk tpos) (.Call (.Name "enumerate" p) [e] [] pos) (iEnumT X.K ta) := ⟨fun pins s σ H R J h => by
  refine Call_ (ld_blt J hg hm boot_enumerate (PyProof.Rows.callWith_type1 (thn (ha.run pos pins s σ H _ J h) fun us s2 ⟨vs, H2, J2, r2, a, zs, ex, hq, q⟩ => ?_) hs rfl))
  subst ex
  cases r2 with
  | cons r rr =>
    cases rr
    cases r
    obtain ⟨its, rv, p', hz⟩ := J2.tuple hq
    refine call_enumT p' fun h1 he hit hsz hk => wpAny_pyIter_enum he ?_
    have J3 : Inv X pins σ H2 { s2 with heap := h1 } := J2.kept (t' := s2.toks) hk
    refine ⟨s2.heap.objs.size + 1, [s2.heap.objs.size + 1, s2.heap.objs.size], _, _, H2, rfl, J3, turn_enumT a (s2.heap.objs.size + 1) s2.heap.objs.size, ⟨⟨.none, he⟩, hit, Nat.succ_ne_self _⟩, fun b hb => ?_, q⟩
    have hle : s2.heap.objs.size ≤ b := by
      simp only [List.mem_cons, List.not_mem_nil, or_false] at hb
      rcases hb with rfl | rfl
      · exact Nat.le_succ _
      · exact Nat.le_refl _
    exact J2.fpOk hle (J2.hok.fresh hle)⟩
section
variable {K : PySem.W.Frag}
theorem iteT_ok {a : Addr} {xs : List V} {ds : List D} {M : Addr → Prop} {H : Hp} (h : TupAt K H M a xs) (r : RepL K H M ds xs) : ItOk K (IteT K a) (enumD 0 ds) M H := fun M' H' t al i => by
  have g1 := (h.to t).sq
  refine ⟨fun l => ⟨xs, g1, by rw [enumD_len, r.len] at l; exact l⟩, fun d e => ?_⟩
  obtain ⟨x, e1, rfl⟩ := enumD_get e
  obtain ⟨v, ev, rv⟩ := r.get e1
  refine ⟨⟨xs, v, g1, ev⟩, fun x' H2 ⟨T, x1, z1, z2, z3, z4⟩ => ?_⟩
  subst z1 z3
  have w1 := z4 xs g1
  rw [ev] at w1
  cases w1
  rw [Nat.zero_add]
  exact ⟨same_upd z2, pair_rep z2 al (.int _) (Rep.to t rv)⟩
def dEnumT (da : Ev → (List D → Prop) → Prop) : Ev → (List D → Prop) → Prop := fun env Q => da env fun xs => match xs with | [.tuple a] => Q (enumD 0 a) | _ => False
theorem ri_enumT {n : Nat} {t : TA} {da : Ev → (List D → Prop) → Prop} (h : RfN K n t da) : RfI K (iEnumT K t) (dEnumT da) := ⟨fun R q k => h.run R q fun ds vs H1 q1 _ s1 r1 => by
  split at q1
  · cases r1 with | cons h1 r1 =>
    cases r1
    cases h1 with | tup h1 r1 =>
    exact ⟨_, _, rfl, h1.sq, k _ _ _ q1 s1 (iteT_ok h1 r1)⟩
  · exact q1.elim⟩
/-! two names at once, one of them owning a new list -/
def dParO1 (i j : Nat) (df : Ev → (List D → Prop) → Prop) (de : Ev → (D → Prop) → Prop) : DS := fun Ed env => i < env.length ∧ i ≠ j ∧ df env fun ds => de env fun x => Ed.nx (eset (eset env i (some (.own ds))) j (some (.d x)))
/-- a new list is shut while more is made -/
theorem RE.shut {A : Addr → Prop} {st : Option (Addr × Addr)} {ow : Nat → Option Addr} {σ : L2.St} {H H1 : Hp} {env : Ev} (R : RE K A st ow σ H env) (s1 : Stp st H H1) {L : Addr} {vs : List V} (n : H L = none) (e : H1 L = some (.lst vs)) : RE K (fun b => A b ∨ b = L) st ow σ H1 env := by
  have R1 := R.step s1
  refine ⟨R1.ls, fun a z => z.elim (R1.dom a) fun y => (by rw [y, e]; intro z; cases z), fun q z => ⟨.inl (R1.sta q z).1, .inl (R1.sta q z).2⟩, R1.al, fun j a z y => y.elim (R1.na j a z) fun w => R.al j a z (w ▸ n), R1.inj, R1.tie, R1.len, fun j' e' he' => ?_⟩
  obtain ⟨u, hu, rr⟩ := R.sl j' e' he'
  have t : To H H1 (Mo A ow) (Mo (fun b => A b ∨ b = L) ow) := ⟨fun b o x m => ⟨((R.toS s1).h b o x m).1, fun z => by
    rcases z with (z | z) | z
    · exact m (.inl z)
    · rw [z, n] at x; cases x
    · exact m (.inr z)⟩⟩
  refine ⟨u, hu, ?_⟩
  cases e' with
  | d x => exact Rep.to t rr
  | own ds =>
    obtain ⟨a, vs, h1, h2, h3, h4⟩ := rr
    exact ⟨a, vs, h1, h2, s1.k a _ h3 fun z => R.na j' a h1 (R.exA a z), RepL.to t h4⟩
  | odk ds =>
    obtain ⟨a, vs, h1, h2, h3, h4⟩ := rr
    exact ⟨a, vs, h1, h2, s1.k a _ h3 fun z => R.na j' a h1 (R.exA a z), RepK.to t h4⟩
  | st => exact rr
theorem owPut_fr {A : Addr → Prop} {st : Option (Addr × Addr)} {H0 H : Hp} {ow : Nat → Option Addr} {σ : L2.St} {env : Ev} (B : BE K A st H0 ow σ H env) {i : Nat} {L : Addr} (n : H L = none) : ∀ j a, owPut ow i L j = some a → H0 a = none := fun j a h => by
  unfold owPut at h
  split at h
  · cases h
    cases z : H0 L with
    | none => rfl
    | some o => rw [B.kp L o z fun y => B.r.ls.ne L y n] at n; cases n
  · exact B.fr j a h
theorem rs_parO1 (i j : Nat) {ta tb : TE} {df : Ev → (List D → Prop) → Prop} {de : Ev → (D → Prop) → Prop} (h : RfF K ta df) (hb : RfE K tb de) : RfS K (tPar i j (tCons ta (tCons tb tNil))) (dParO1 i j df de) := ⟨fun {A st H0 ow σ H env Ed E} B ⟨hi, hij, q⟩ k =>
  h.run B.r q fun ds L vs H1 q1 s1 n e r => by
    have nL : L ∉ exs st := fun z => B.r.ls.ne L z n
    have SH := B.r.shut s1 n e
    refine hb.run SH q1 fun x v H2 q2 s2 r2 => ?_
    have e2 : H2 L = some (.lst vs) := s2.k L _ e nL
    have s12 := s1.trans s2
    have t1 := own_to B.r s12 i n
    have sub : ∀ b, Mo A (owPut ow i L) b → Mo (fun b => A b ∨ b = L) ow b := fun b z => (owPut_sub z).elim (fun y => y.elim (fun y => .inl (.inl y)) .inr) fun y => .inl (.inr y)
    have r3 : RepL K H2 (Mo A (owPut ow i L)) ds vs := RepL.to ((to_less (M' := Mo (fun b => A b ∨ b = L) ow) fun b z => by
      rcases z with (z | z) | z
      · exact .inl (.inl z)
      · exact .inr z
      · exact .inl (.inr z)).trans ((SH.toS s2).trans (to_less sub))) r
    have B1 : BE K A st H0 (owPut ow i L) (σ.set i (some (.ref L))) H2 (eset env i (some (.own ds))) :=
      ⟨B.r.own s12 i n e2 (en := .own ds) ⟨L, vs, by unfold owPut; rw [if_pos rfl], rfl, e2, r3⟩ (.inl ⟨ds, rfl⟩) hi, B.kp.trans s12.k, owPut_fr B n⟩
    exact ⟨_, _, rfl, k.nx _ _ _ _ q2 (B1.put j (Rep.to (to_less sub) r2)) (t1.trans (to_del _ _ _ _))⟩⟩
def dParO2 (i j : Nat) (de : Ev → (D → Prop) → Prop) (df : Ev → (List D → Prop) → Prop) : DS := fun Ed env => j < env.length ∧ de env fun x => df env fun ds => Ed.nx (eset (eset env i (some (.d x))) j (some (.own ds)))
theorem rs_parO2 (i j : Nat) {ta tb : TE} {df : Ev → (List D → Prop) → Prop} {de : Ev → (D → Prop) → Prop} (h : RfE K ta de) (hb : RfF K tb df) : RfS K (tPar i j (tCons ta (tCons tb tNil))) (dParO2 i j de df) := ⟨fun {A st H0 ow σ H env Ed E} B ⟨hj, q⟩ k =>
  h.run B.r q fun x v H1 q1 s1 r1 => hb.run (B.r.step s1) q1 fun ds L vs H2 q2 s2 n e r => by
    have s12 := s1.trans s2
    have n0 := s1.none n
    have r1' : Rep K H2 (Mo A ow) x v := Rep.to ((B.r.step s1).toS s2) r1
    -- the slot i first
    have B1 := (B.step s1).put i r1
    have t0 : To H H1 (Mo A ow) (Mo A (owDel ow i)) := (B.r.toS s1).trans (to_del _ _ _ _)
    have t1 := own_to B1.r s2 j n
    have subD : ∀ b, Mo A (owDel ow i) b → Mo A ow b := fun b => Mo.sub fun j a e => (owDel_sub e).1
    refine ⟨_, _, rfl, k.nx _ _ _ _ q2 ⟨B1.r.own s2 j n e (en := .own ds) ⟨L, vs, by unfold owPut; rw [if_pos rfl], rfl, e, RepL.to (to_less fun b z => (owPut_sub z).imp (subD b) id) r⟩ (.inl ⟨ds, rfl⟩) (by unfold eset; rw [List.length_set]; exact hj), B1.kp.trans s2.k, owPut_fr B1 n⟩ (t0.trans t1)⟩⟩
end
theorem enum_map {α : Type} (f : α → D) : ∀ (as : List α) (k : Nat), enumD k (as.map f) = (as.zipIdx k).map fun p => PyData.tuple [.int (p.2 : Nat), f p.1]
  | [], _ => rfl
  | a :: r, k => by
    rw [List.map_cons, List.zipIdx_cons, List.map_cons, enumD, enum_map f r (k + 1)]
section
variable {K : PySem.W.Frag}
/-- a written dict of the top, asked by a text -/
def dKd (tab : List (Str × D)) (db : Ev → (D → Prop) → Prop) : Ev → (D → Prop) → Prop := fun env Q => db env fun y => match y with
  | .str z => (match tab.lookup z with | some d => Q d | none => False)
  | _ => False
theorem look_mem {α : Type} : ∀ {tab : List (Str × α)} {z : Str} {d : α}, tab.lookup z = some d → (z, d) ∈ tab
  | [], _, _, h => by cases h
  | (k, e) :: r, z, d, h => by
    rw [List.lookup_cons] at h
    by_cases c : z = k
    · subst c
      simp at h
      subst h
      exact List.mem_cons_self
    · have : (z == k) = false := by simpa using c
      rw [this] at h
      exact List.mem_cons_of_mem _ (look_mem h)
theorem re_kd {w : World} {a : Addr} {tb : TE} {db : Ev → (D → Prop) → Prop} (tab : List (Str × D)) (ht : ∀ p ∈ tab, ∃ v, KDct K w a p.1 v ∧ Sc p.2 v) (hb : RfB K tb db) : RfE K (tOp (rIxD K w) (tC (.ref a)) tb) (dKd tab db) := ⟨fun R q k =>
  hb.run R q fun y u H1 q1 s1 r1 => by
    split at q1
    · rename_i z
      cases r1.str
      split at q1
      · rename_i d e
        obtain ⟨v, h1, h2⟩ := ht _ (look_mem e)
        exact ⟨a, z, v, rfl, rfl, h1, k d v H1 q1 s1 h2.rep⟩
      · exact q1.elim
    · exact q1.elim⟩
end
theorem cut_lo {α : Type} (xs : List α) {i : Int} (h : 0 ≤ i) : cutD xs none (some i) = xs.take i.toNat := by
  obtain ⟨n, rfl⟩ := Int.eq_ofNat_of_zero_le h
  unfold cutD
  rw [HT.sIx_none, HT.sIx_nat, List.drop_zero, Nat.sub_zero]
  by_cases h2 : n ≤ xs.length
  · rw [Nat.min_eq_left h2]; rfl
  · rw [Nat.min_eq_right (by omega), List.take_length]
    exact (List.take_of_length_le (by omega)).symm
theorem cut_hi {α : Type} (xs : List α) {i : Int} (h : 0 ≤ i) : cutD xs (some i) none = xs.drop i.toNat := by
  obtain ⟨n, rfl⟩ := Int.eq_ofNat_of_zero_le h
  unfold cutD
  rw [HT.sIx_none, HT.sIx_nat]
  by_cases h2 : n ≤ xs.length
  · rw [Nat.min_eq_left h2]
    exact List.take_of_length_le (by rw [List.length_drop]; exact Nat.le_refl _)
  · rw [Nat.min_eq_right (by omega), List.drop_length, Nat.sub_self, List.take_zero]
    exact (List.drop_of_length_le (by omega)).symm
theorem set_cut {α : Type} {xs : List α} {n : Nat} {x : α} (h : n < xs.length) : xs.take n ++ [x] ++ xs.drop (n + 1) = xs.set n x := by
  rw [List.set_eq_take_append_cons_drop, if_pos h, List.append_assoc]
  rfl
theorem decT {p : Prop} [Decidable p] (h : p) : decide p = true := decide_eq_true h
/-- a draw -/
theorem rng_eq (n : Nat) : rng 0 n = (List.range n).map fun i => PyData.int (i : Nat) := by
  unfold rng
  simp
theorem rng_1 : rng 0 (Int.toNat 1) = [.int 0] := rfl
theorem rng_2 : rng 0 (Int.toNat 2) = [.int 0, .int 1] := rfl
theorem rng_3 : rng 0 (Int.toNat 3) = [.int 0, .int 1, .int 2] := rfl
theorem rng_4 : rng 0 (Int.toNat 4) = [.int 0, .int 1, .int 2, .int 3] := rfl
theorem rng_6 : rng 0 (Int.toNat 6) = [.int 0, .int 1, .int 2, .int 3, .int 4, .int 5] := rfl
theorem rng_len (n : Nat) : (rng 0 n).length = n := by unfold rng; rw [List.length_map, List.length_range]
/-- one of a written row -/
theorem dix_all {ds : List D} {r : Int} {Q : D → Prop} (h0 : 0 ≤ r) (h1 : r < ds.length) (h : ∀ d ∈ ds, Q d) : match dix ds r with | some d => Q d | none => False := by
  have hl : r.toNat < ds.length := by omega
  rw [dix_nn h0 (List.getElem?_eq_getElem hl)]
  exact h _ (List.getElem_mem hl)
theorem dix_two {a b : D} {r : Int} {Q : D → Prop} (h0 : 0 ≤ r) (h1 : r < 2) (ha : Q a) (hb : Q b) : match dix [a, b] r with | some d => Q d | none => False :=   dix_all h0 h1 fun d h => by simp at h; rcases h with rfl | rfl <;> assumption
theorem dix_three {a b c : D} {r : Int} {Q : D → Prop} (h0 : 0 ≤ r) (h1 : r < 3) (ha : Q a) (hb : Q b) (hc : Q c) : match dix [a, b, c] r with | some d => Q d | none => False :=   dix_all h0 h1 fun d h => by simp at h; rcases h with rfl | rfl | rfl <;> assumption
/-- one of a written row of numbers -/
theorem dix_ints {ns : List Int} {r : Int} {Q : D → Prop} (h0 : 0 ≤ r) (h1 : r < ns.length) (h : ∀ n ∈ ns, Q (.int n)) : match dix (ns.map PyData.int) r with | some d => Q d | none => False :=   dix_all h0 (by rw [List.length_map]; exact h1) fun d hd => by
    obtain ⟨n, hn, rfl⟩ := List.mem_map.mp hd
    exact h n hn
/-- a row that is drawn item by item -/
theorem lc_draws {g : D → Ev → (Ev → Prop) → Prop} {c : Ev → (Bool → Prop) → Prop} {e : Ev → (D → Prop) → Prop} {env : Ev} (T : D → Prop) {ds : List D} {Q : List D → Prop}
    (h : ∀ d ∈ ds, ∀ R : Option D → Prop, (∀ x, T x → R (some x)) → g d env fun env1 => c env1 fun b => if b = true then e env1 fun x => R (some x) else R none)
    (q : ∀ xs : List D, xs.length = ds.length → (∀ x ∈ xs, T x) → Q xs) : lcD g c e ds env Q := by
  refine lc_any (fun _ o => ∃ x, T x ∧ o = some x) (fun d hd R hR => h d hd R fun x tx => hR _ ⟨x, tx, rfl⟩) fun os hp => ?_
  have key : ∀ {ds : List D} {os : List (Option D)}, Paired (fun (_ : D) o => ∃ x, T x ∧ o = some x) ds os → (os.filterMap id).length = ds.length ∧ ∀ x ∈ os.filterMap id, T x := by
    intro ds os hp
    induction hp with
    | nil => exact ⟨rfl, fun _ h => nomatch h⟩
    | cons t _ ih =>
      obtain ⟨x, tx, rfl⟩ := t
      rw [List.filterMap_cons]
      exact ⟨congrArg (· + 1) ih.1, fun y hy => (List.mem_cons.mp hy).elim (fun z => z ▸ tx) (ih.2 y)⟩
  exact q _ (key hp).1 (key hp).2
/-! sizes of written rows -/
theorem szn {k w : Nat} : ∀ d ∈ ([] : List D), Sz d k w := fun _ h => nomatch h
theorem szc {d : D} {ds : List D} {k w : Nat} (h : Sz d k w) (hs : ∀ d ∈ ds, Sz d k w) : ∀ e ∈ d :: ds, Sz e k w := fun e he => (List.mem_cons.mp he).elim (fun z => z ▸ h) (hs e)
theorem sI {i : Int} {k w : Nat} (h1 : -1000000000000 < i) (h2 : i < 1000000000000) (hw : 40 ≤ w := by decide) : Sz (.int i) k w := (Sz.int (by omega)).mono (Nat.zero_le _) hw
theorem sBl {b : Bool} {k w : Nat} : Sz (.bool b) k w := (Sz.bool b).mono (Nat.zero_le _) (Nat.zero_le _)
theorem sNo {k w : Nat} : Sz .none k w := Sz.none.mono (Nat.zero_le _) (Nat.zero_le _)
theorem sS {z : Str} {k w : Nat} (h : (PyData.strOk z && decide (z.cps.size ≤ 40)) = true) (hw : 40 ≤ w := by decide) : Sz (.str z) k w := by
  rw [Bool.and_eq_true] at h
  exact (Sz.str h.1 (of_decide_eq_true h.2)).mono (Nat.zero_le _) hw
theorem sT {ds : List D} {k w n k' w' : Nat} (h : ∀ d ∈ ds, Sz d k w) (hn : ds.length ≤ n) (hk : k + 1 ≤ k' := by decide) (hw : n * (w + 1) ≤ w' := by decide) : Sz (.tuple ds) k' w' := (Sz.tup h hn).mono hk hw
theorem sL {ds : List D} {k w n k' w' : Nat} (h : ∀ d ∈ ds, Sz d k w) (hn : ds.length ≤ n) (hk : k + 1 ≤ k' := by decide) (hw : n * (w + 1) ≤ w' := by decide) : Sz (.list ds) k' w' := (Sz.list h hn).mono hk hw
/-! isinstance of each kind -/
theorem it_bool_none  : isTy "bool" .none = false := by simp [isTy]
theorem it_bool_bool {x : Bool} : isTy "bool" (.bool x) = true := by simp [isTy]
theorem it_bool_int {x : Int} : isTy "bool" (.int x) = false := by simp [isTy]
theorem it_bool_str {x : Str} : isTy "bool" (.str x) = false := by simp [isTy]
theorem it_bool_list {x : List D} : isTy "bool" (.list x) = false := by simp [isTy]
theorem it_bool_tuple {x : List D} : isTy "bool" (.tuple x) = false := by simp [isTy]
theorem it_bool_dict {x : List (D × D)} : isTy "bool" (.dict x) = false := by simp [isTy]
theorem it_int_none  : isTy "int" .none = false := by simp [isTy]
theorem it_int_bool {x : Bool} : isTy "int" (.bool x) = true := by simp [isTy]
theorem it_int_int {x : Int} : isTy "int" (.int x) = true := by simp [isTy]
theorem it_int_str {x : Str} : isTy "int" (.str x) = false := by simp [isTy]
theorem it_int_list {x : List D} : isTy "int" (.list x) = false := by simp [isTy]
theorem it_int_tuple {x : List D} : isTy "int" (.tuple x) = false := by simp [isTy]
theorem it_int_dict {x : List (D × D)} : isTy "int" (.dict x) = false := by simp [isTy]
theorem it_str_none  : isTy "str" .none = false := by simp [isTy]
theorem it_str_bool {x : Bool} : isTy "str" (.bool x) = false := by simp [isTy]
theorem it_str_int {x : Int} : isTy "str" (.int x) = false := by simp [isTy]
theorem it_str_str {x : Str} : isTy "str" (.str x) = true := by simp [isTy]
theorem it_str_list {x : List D} : isTy "str" (.list x) = false := by simp [isTy]
theorem it_str_tuple {x : List D} : isTy "str" (.tuple x) = false := by simp [isTy]
theorem it_str_dict {x : List (D × D)} : isTy "str" (.dict x) = false := by simp [isTy]
theorem it_list_none  : isTy "list" .none = false := by simp [isTy]
theorem it_list_bool {x : Bool} : isTy "list" (.bool x) = false := by simp [isTy]
theorem it_list_int {x : Int} : isTy "list" (.int x) = false := by simp [isTy]
theorem it_list_str {x : Str} : isTy "list" (.str x) = false := by simp [isTy]
theorem it_list_list {x : List D} : isTy "list" (.list x) = true := by simp [isTy]
theorem it_list_tuple {x : List D} : isTy "list" (.tuple x) = false := by simp [isTy]
theorem it_list_dict {x : List (D × D)} : isTy "list" (.dict x) = false := by simp [isTy]
theorem it_tuple_none  : isTy "tuple" .none = false := by simp [isTy]
theorem it_tuple_bool {x : Bool} : isTy "tuple" (.bool x) = false := by simp [isTy]
theorem it_tuple_int {x : Int} : isTy "tuple" (.int x) = false := by simp [isTy]
theorem it_tuple_str {x : Str} : isTy "tuple" (.str x) = false := by simp [isTy]
theorem it_tuple_list {x : List D} : isTy "tuple" (.list x) = false := by simp [isTy]
theorem it_tuple_tuple {x : List D} : isTy "tuple" (.tuple x) = true := by simp [isTy]
theorem it_tuple_dict {x : List (D × D)} : isTy "tuple" (.dict x) = false := by simp [isTy]
theorem it_dict_none  : isTy "dict" .none = false := by simp [isTy]
theorem it_dict_bool {x : Bool} : isTy "dict" (.bool x) = false := by simp [isTy]
theorem it_dict_int {x : Int} : isTy "dict" (.int x) = false := by simp [isTy]
theorem it_dict_str {x : Str} : isTy "dict" (.str x) = false := by simp [isTy]
theorem it_dict_list {x : List D} : isTy "dict" (.list x) = false := by simp [isTy]
theorem it_dict_tuple {x : List D} : isTy "dict" (.tuple x) = false := by simp [isTy]
theorem it_dict_dict {x : List (D × D)} : isTy "dict" (.dict x) = true := by simp [isTy]
theorem eqv_nf {a b : D} (hb : okD b = true) (e : a = b) : ¬ PyData.eqv a b = false := by
  subst e
  rw [eqv_same hb]
  exact Bool.noConfusion
theorem ite_nf {a b : D} {X Y : Prop} (hb : okD b = true) (e : a = b) (h : Y) : if PyData.eqv a b = false then X else Y := by
  rw [if_neg (eqv_nf hb e)]
  exact h
theorem bool_eqv {a b : D} (hb : okD b = true) (e : a = b) : PyData.bool (PyData.eqv a b) = PyData.bool true := by
  subst e
  rw [eqv_same hb]
/-! a list of two new lists, each of which is changed once, at one place -/
def dTwo (i k f : Nat) (dt : Ev → (D → Prop) → Prop) (b : DS) : DS := fun Ed env => isOwn env i = false ∧ i < env.length ∧ k ≠ i ∧ f ≠ i ∧ (match eget env k, eget env f with
  | some (.d x), some (.d (.int n)) => (match seqOf x with
    | some ds => dt (eset env i none) fun y => (match y with
      | .tuple [p, q] => ∃ j, ixN ds.length n = some j ∧ b Ed (eset env i (some (.d (.list [.list (ds.set j p), .list (ds.set j q)]))))
      | _ => False)
    | none => False)
  | _, _ => False)
section
variable {K : PySem.W.Frag}
theorem rs_two (i k f : Nat) {tt : TE} {u : TS} {dt : Ev → (D → Prop) → Prop} {b : DS} (ht : RfE K tt dt) (hu : RfS K u b) :
    RfS K (tSeq (tAsg (tLst (tCons (tCB (fun xs H Q => ∃ p ys, xs = [.ref p] ∧ (SqL K H p ys ∨ SqT K H p ys) ∧ ∀ l, H l = none → Q (.ref l) (upd H l (.lst ys))) (tCons (tVar k) tNil)) (tCons (tCB (fun xs H Q => ∃ p ys, xs = [.ref p] ∧ (SqL K H p ys ∨ SqT K H p ys) ∧ ∀ l, H l = none → Q (.ref l) (upd H l (.lst ys))) (tCons (tVar k) tNil)) tNil))) (gName i))
      (tSeq (tAsg tt (gTup K 2 (gCons (gSub (tOp (rIx K) (tVar i) (tC (.int 0))) (tVar f) rSetL) (gCons (gSub (tOp (rIx K) (tVar i) (tC (.int 1))) (tVar f) rSetL) gNil)))) u)) (dTwo i k f dt b) := ⟨fun {A st H0 ow σ H env Ed E} B q kk => by
  obtain ⟨q0, qi, qk, qf, q⟩ := q
  have R := B.r
  split at q
  · rename_i x n ek ef
    split at q
    · rename_i ds es
      obtain ⟨v, hv, rk⟩ := R.sl k _ (eget_some ek)
      obtain ⟨w, hw, rf⟩ := R.sl f _ (eget_some ef)
      cases rf
      obtain ⟨a, xs, rfl, hs, rl⟩ := (RepB.r (A := A) rk).seq es
      refine ⟨_, hv, a, xs, rfl, hs, fun L0 n0 => ?_⟩
      have s0 : Same H (upd H L0 (.lst xs)) := same_upd n0
      have hs1 : SqL K (upd H L0 (.lst xs)) a xs ∨ SqT K (upd H L0 (.lst xs)) a xs := by
        rcases hs with (h | h) | (h | h)
        · exact .inl (.inl (h.imp (s0 _ _) fun ⟨o, z⟩ => ⟨o, s0 _ _ z⟩))
        · exact .inl (.inr h)
        · exact .inr (.inl (h.imp (s0 _ _) fun ⟨o, z⟩ => ⟨o, s0 _ _ z⟩))
        · exact .inr (.inr h)
      refine ⟨_, hv, a, xs, rfl, hs1, fun L1 n1 => ?_⟩
      have s1 : Same H (upd (upd H L0 (.lst xs)) L1 (.lst xs)) := fun b o e => same_upd n1 b o (s0 b o e)
      have e01 : L1 ≠ L0 := fun z => by rw [z, upd_same] at n1; cases n1
      have n1' : H L1 = none := by rw [upd_ne e01] at n1; exact n1
      refine ⟨Nat.le_of_ble_eq_true rfl, fun L nL => ?_⟩
      have e0L : L ≠ L1 := fun z => by rw [z, upd_same] at nL; cases nL
      have e1L : L ≠ L0 := fun z => by rw [z, upd_ne e01.symm, upd_same] at nL; cases nL
      have nL' : H L = none := by rw [upd_ne e0L, upd_ne e1L] at nL; exact nL
      have s3 : Same H (upd (upd (upd H L0 (.lst xs)) L1 (.lst xs)) L (.lst [.ref L0, .ref L1])) := fun b o e => same_upd nL b o (s1 b o e)
      have hL3 : (upd (upd (upd H L0 (.lst xs)) L1 (.lst xs)) L (.lst [.ref L0, .ref L1])) L = some (.lst [.ref L0, .ref L1]) := upd_same
      have hA3 : (upd (upd (upd H L0 (.lst xs)) L1 (.lst xs)) L (.lst [.ref L0, .ref L1])) L0 = some (.lst xs) := by rw [upd_ne e1L.symm, upd_ne e01.symm, upd_same]
      have hB3 : (upd (upd (upd H L0 (.lst xs)) L1 (.lst xs)) L (.lst [.ref L0, .ref L1])) L1 = some (.lst xs) := by rw [upd_ne e0L.symm, upd_same]
      generalize upd (upd (upd H L0 (.lst xs)) L1 (.lst xs)) L (.lst [.ref L0, .ref L1]) = H3 at s3 hL3 hA3 hB3
      have st3 : Stp st H H3 := .same R.ls s3
      have owi : ow i = none := by
        cases z : ow i with
        | none => rfl
        | some p =>
          unfold isOwn at q0
          rcases R.tie i p z with ⟨ds, e⟩ | ⟨ds, e⟩ <;> (rw [some_eget e] at q0; cases q0)
      have nx : ∀ c, (c = L0 ∨ c = L1 ∨ c = L) → H c = none := by
        rintro c (rfl | rfl | rfl) <;> assumption
      have tA : To H H3 (Mo A ow) (Mo (fun c => A c ∨ (c = L0 ∨ c = L1 ∨ c = L)) ow) := ⟨fun c o e m => ⟨s3 c o e, fun z => by
        rcases z with (z | z) | z
        · exact m (.inl z)
        · rw [nx c z] at e; cases e
        · exact m (.inr z)⟩⟩
      have R3 : RE K (fun c => A c ∨ (c = L0 ∨ c = L1 ∨ c = L)) st ow (σ.set i (some (.ref L))) H3 (eset env i none) := by
        have Rs := R.step st3
        refine ⟨st3.l, fun c hc => ?_, fun z e => ⟨.inl (R.sta z e).1, .inl (R.sta z e).2⟩, Rs.al, fun j c e hc => ?_, R.inj, fun j c e => ?_, by unfold eset; rw [List.length_set, List.length_set]; exact R.len, fun j e he => ?_⟩
        · rcases hc with hc | rfl | rfl | rfl
          · exact Rs.dom c hc
          · rw [hA3]; intro z; cases z
          · rw [hB3]; intro z; cases z
          · rw [hL3]; intro z; cases z
        · rcases hc with hc | hc
          · exact R.na j c e hc
          · exact R.al j c e (nx c hc)
        · have hj : i ≠ j := fun z => by rw [← z, owi] at e; cases e
          unfold eset
          rw [List.getElem?_set_ne hj]
          exact R.tie j c e
        · unfold eset at he
          by_cases hj : i = j
          · subst hj
            rw [List.getElem?_set_self qi] at he
            cases he
          · rw [List.getElem?_set_ne hj] at he
            obtain ⟨y, hy, r⟩ := R.sl j e he
            refine ⟨y, by rw [List.getElem?_set_ne hj]; exact hy, ?_⟩
            cases e with
            | d x => exact Rep.to tA r
            | own es =>
              obtain ⟨c, vs, h1, h2, h3, h4⟩ := r
              exact ⟨c, vs, h1, h2, s3 c _ h3, RepL.to tA h4⟩
            | odk es =>
              obtain ⟨c, vs, h1, h2, h3, h4⟩ := r
              exact ⟨c, vs, h1, h2, s3 c _ h3, RepK.to tA h4⟩
            | st => exact r
      refine ht.run R3 q fun d v H4 q4 s4 r4 => ?_
      split at q4
      · rename_i y p pq
        obtain ⟨j, ej, q5⟩ := q4
        have ex : ∀ c, H c = none → c ∉ exs st := fun c z m => R.ls.ne c m z
        have hL4 : H4 L = some (.lst [.ref L0, .ref L1]) := s4.k _ _ hL3 (ex _ nL')
        have hA4 : H4 L0 = some (.lst xs) := s4.k _ _ hA3 (ex _ n0)
        have hB4 : H4 L1 = some (.lst xs) := s4.k _ _ hB3 (ex _ n1')
        have ilen : i < σ.length := by rw [R.len]; exact qi
        have vi : (σ.set i (some (V.ref L)))[i]? = some (some (.ref L)) := List.getElem?_set_self ilen
        have vf : (σ.set i (some (V.ref L)))[f]? = some (some (.int n)) := by rw [List.getElem?_set_ne qf.symm]; exact hw
        have ej' : ixN xs.length n = some j := by rw [← rl.len]; exact ej
        cases r4 with
        | tup h r =>
        cases r with | cons rp r =>
        cases r with | cons rq r =>
        cases r
        rename_i c vp vq
        refine ⟨c, _, rfl, h.sq, rfl, vp, _, rfl, ?_⟩
        refine ⟨_, vi, .inl ⟨L, _, 0, .ref L0, rfl, rfl, SqL.of hL4, rfl, ?_⟩⟩
        refine ⟨_, vf, L0, xs, n, j, rfl, rfl, hA4, ej', vq, _, rfl, ?_⟩
        have hL5 : (upd H4 L0 (.lst (xs.set j vp))) L = some (.lst [.ref L0, .ref L1]) := by rw [upd_ne e1L]; exact hL4
        have hB5 : (upd H4 L0 (.lst (xs.set j vp))) L1 = some (.lst xs) := by rw [upd_ne e01]; exact hB4
        refine ⟨_, vi, .inl ⟨L, _, 1, .ref L1, rfl, rfl, SqL.of hL5, rfl, ?_⟩⟩
        refine ⟨_, vf, L1, xs, n, j, rfl, rfl, hB5, ej', rfl, ?_⟩
        have hLf : (upd (upd H4 L0 (.lst (xs.set j vp))) L1 (.lst (xs.set j vq))) L = some (.lst [.ref L0, .ref L1]) := by rw [upd_ne e0L]; exact hL5
        have hAf : (upd (upd H4 L0 (.lst (xs.set j vp))) L1 (.lst (xs.set j vq))) L0 = some (.lst (xs.set j vp)) := by rw [upd_ne e01.symm, upd_same]
        have hBf : (upd (upd H4 L0 (.lst (xs.set j vp))) L1 (.lst (xs.set j vq))) L1 = some (.lst (xs.set j vq)) := upd_same
        have oth : ∀ c, c ≠ L0 → c ≠ L1 → (upd (upd H4 L0 (.lst (xs.set j vp))) L1 (.lst (xs.set j vq))) c = H4 c := fun c h0 h1 => by rw [upd_ne h1, upd_ne h0]
        generalize upd (upd H4 L0 (.lst (xs.set j vp))) L1 (.lst (xs.set j vq)) = Hf at hLf hAf hBf oth
        have st4 : Stp st H H4 := st3.trans s4
        have stf : Stp st H Hf := by
          refine ⟨fun c o e m => ?_, fun z e => ?_⟩
          · rw [oth c (fun w => by rw [w, n0] at e; cases e) (fun w => by rw [w, n1'] at e; cases e)]
            exact st4.k c o e m
          · obtain ⟨kk, ns, l1, l2, l3⟩ := st4.l z e
            have d1 : H z.1 ≠ none := R.ls.ne _ (by subst e; simp [exs])
            have d2 : H z.2 ≠ none := R.ls.ne _ (by subst e; simp [exs])
            exact ⟨kk, ns, by rw [oth _ (fun w => d1 (by rw [w]; exact n0)) (fun w => d1 (by rw [w]; exact n1'))]; exact l1, by rw [oth _ (fun w => d2 (by rw [w]; exact n0)) (fun w => d2 (by rw [w]; exact n1'))]; exact l2, l3⟩
        have t4 : To H4 Hf (Mo (fun c => A c ∨ (c = L0 ∨ c = L1 ∨ c = L)) ow) (Mo A ow) := ⟨fun c o e m => by
          have h0 : c ≠ L0 := fun z => m (.inl (.inr (.inl z)))
          have h1 : c ≠ L1 := fun z => m (.inl (.inr (.inr (.inl z))))
          refine ⟨by rw [oth c h0 h1]; exact e, fun z => ?_⟩
          rcases z with z | z
          · exact m (.inl (.inl z))
          · exact m (.inr z)⟩
        have ra : RepL K Hf (Mo A ow) ds xs := RepL.to (R.toS stf) rl
        have rep : Rep K Hf (Mo A ow) (.list [.list (ds.set j p), .list (ds.set j pq)]) (.ref L) :=
          .lst hLf (R.newM nL') (.cons (.lst hAf (R.newM n0) (ra.set j (Rep.to t4 rp))) (.cons (.lst hBf (R.newM n1') (ra.set j (Rep.to t4 rq))) .nil))
        have Bf := (B.step stf).put i rep
        exact hu.run Bf q5 (kk.to ((R.toS stf).trans (to_del Hf A ow i)))
      · exact q4.elim
    · exact q.elim
  · exact q.elim⟩
end
/-! dicts whose keys are ints and texts -/
def keyOf : D → Option Key
  | .int i => some (.inl i)
  | .str s => some (.inr s)
  | _ => none
theorem KeyD.of {k : D} {q : Key} (h : KeyD k q) : keyOf k = some q := by cases h <;> rfl
theorem keyD_of {k : D} {q : Key} (h : keyOf k = some q) : KeyD k q := by
  unfold keyOf at h
  split at h
  · cases h; exact .int _
  · cases h; exact .str _
  · cases h
def lookD : List (D × D) → Key → Option D
  | [], _ => none
  | (k, d) :: r, q => if keyOf k = some q then some d else lookD r q
def anyD (kvs : List (D × D)) (q : Option Key) : Bool := kvs.any fun p => decide (keyOf p.1 = q)
def putD (kvs : List (D × D)) (k d : D) : List (D × D) := if anyD kvs (keyOf k) = true then kvs.map (fun p => if keyOf p.1 = keyOf k then (p.1, d) else p) else kvs ++ [(k, d)]
section
variable {K : PySem.W.Frag} {H : Hp} {A : Addr → Prop}
theorem RepK.len : ∀ {ds : List (D × D)} {us : List (Key × V)}, RepK K H A ds us → ds.length = us.length
  | _, _, .nil => rfl
  | _, _, .cons _ _ r => congrArg (· + 1) r.len
theorem RepK.app : ∀ {ds es : List (D × D)} {us ws : List (Key × V)}, RepK K H A ds us → RepK K H A es ws → RepK K H A (ds ++ es) (us ++ ws)
  | _, _, _, _, .nil, h => h
  | _, _, _, _, .cons k h r, g => .cons k h (r.app g)
theorem RepK.any : ∀ {ds : List (D × D)} {us : List (Key × V)} (q : Key), RepK K H A ds us → anyD ds (some q) = us.any fun kv => decide (kv.1 = q)
  | _, _, _, .nil => rfl
  | _, _, q, .cons (k := k) (q := q') hk _ r => by
    have ih := r.any q
    unfold anyD at ih ⊢
    rw [List.any_cons, List.any_cons, ih, hk.of]
    congr 1
    simp
theorem RepK.setAll : ∀ {ds : List (D × D)} {us : List (Key × V)} {q : Key} {d : D} {v : V}, RepK K H A ds us → Rep K H A d v →
    RepK K H A (ds.map fun p => if keyOf p.1 = some q then (p.1, d) else p) (us.map fun kv => if kv.1 = q then (kv.1, v) else kv)
  | _, _, _, _, _, .nil, _ => .nil
  | _, _, q, d, v, .cons (k := k) (q := q') hk h r, g => by
    have ih := r.setAll (q := q) g
    rw [List.map_cons, List.map_cons]
    by_cases e : q' = q
    · rw [if_pos (by rw [hk.of, e]), if_pos e]
      exact .cons hk g ih
    · rw [if_neg (by rw [hk.of]; exact fun z => e (Option.some.inj z)), if_neg e]
      exact .cons hk h ih
theorem RepK.put {ds : List (D × D)} {us : List (Key × V)} {k d : D} {q : Key} {v : V} (r : RepK K H A ds us) (hk : KeyD k q) (h : Rep K H A d v) : RepK K H A (putD ds k d) (putK us q v) := by
  unfold putD putK
  rw [hk.of, r.any q]
  split
  · exact r.setAll h
  · exact r.app (.cons hk h .nil)
theorem RepK.look : ∀ {ds : List (D × D)} {us : List (Key × V)} (q : Key), RepK K H A ds us → (∀ d, lookD ds q = some d → ∃ v, valV us q = some v ∧ Rep K H A d v) ∧ (lookD ds q = none → valV us q = none)
  | _, _, _, .nil => ⟨fun _ h => (nomatch h), fun _ => rfl⟩
  | _, _, q, .cons (k := k) (d := d0) (q := q') (v := v0) (ds := ds) (us := us) hk h r => by
    have ih := r.look q
    by_cases e : q' = q
    · have e1 : lookD ((k, d0) :: ds) q = some d0 := by unfold lookD; rw [if_pos (by rw [hk.of, e])]
      rw [e1]
      exact ⟨fun d z => ⟨v0, valV_pos e, (Option.some.inj z) ▸ h⟩, fun z => by cases z⟩
    · have e1 : lookD ((k, d0) :: ds) q = lookD ds q := by rw [lookD, if_neg (by rw [hk.of]; exact fun z => e (Option.some.inj z))]
      rw [e1, valV_neg e]
      exact ih
end
theorem putD_len (kvs : List (D × D)) (k d : D) : (putD kvs k d).length ≤ kvs.length + 1 := by
  unfold putD
  split
  · rw [List.length_map]; omega
  · rw [List.length_append]; exact Nat.le_refl _
/-- a term that makes a new dict -/
structure RfK (K : PySem.W.Frag) (t : TE) (df : Ev → (List (D × D) → Prop) → Prop) : Prop where
  run : ∀ {A : Addr → Prop} {st : Option (Addr × Addr)} {ow : Nat → Option Addr} {σ : L2.St} {H : Hp} {env : Ev} {Qd : List (D × D) → Prop} {Q : VK},
  RE K A st ow σ H env → df env Qd → (∀ ds a us H', Qd ds → Stp st H H' → H a = none → H' a = some (.dK us) → RepK K H' (fun b => Mo A ow b ∨ b = a) ds us → Q (.ref a) H') → t σ H Q
def dK (df : Ev → (List (D × D) → Prop) → Prop) : Ev → (D → Prop) → Prop := fun env Q => df env fun ds => Q (.dict ds)
def dcD (g : D → Ev → (Ev → Prop) → Prop) (c : Ev → (Bool → Prop) → Prop) (ek ev : Ev → (D → Prop) → Prop) : List D → Ev → List (D × D) → (List (D × D) → Prop) → Prop
  | [], _, acc, Q => Q acc
  | d :: r, env, acc, Q => g d env fun env1 => c env1 fun b => if b = true then ek env1 fun kd => (keyOf kd).isSome = true ∧ ev env1 fun x => dcD g c ek ev r env (putD acc kd x) Q else dcD g c ek ev r env acc Q
def dDc (vs : List Nat) (di : Ev → (List D → Prop) → Prop) (g : D → Ev → (Ev → Prop) → Prop) (c : Ev → (Bool → Prop) → Prop) (ek ev : Ev → (D → Prop) → Prop) : Ev → (List (D × D) → Prop) → Prop :=
  fun env Q => noOwn vs env = true ∧ di env fun ds => ds.length ≤ 100000 ∧ dcD g c ek ev ds (wipeE env vs) [] Q
section
variable {K : PySem.W.Frag}
theorem RfK.e {t : TE} {df : Ev → (List (D × D) → Prop) → Prop} (h : RfK K t df) : RfE K t (dK df) := ⟨fun R q k => h.run R q fun ds a us H' q' s n e r => k _ _ _ q' s (.dct e (R.newM n) (RepK.to ⟨fun b o x y => ⟨x, fun z => y (.inl z)⟩⟩ r))⟩
theorem rk_dc {vs is : List Nat} {wi : TI} {tg : TG} {tt : TT} {tk tv : TE} {di : Ev → (List D → Prop) → Prop} {g : D → Ev → (Ev → Prop) → Prop} {c : Ev → (Bool → Prop) → Prop} {ek ev : Ev → (D → Prop) → Prop}
    (hi : RfI K wi di) (hg : RfG K is tg g) (hc : RfT K tt c) (hk : RfE K tk ek) (he : RfE K tv ev) (his : ∀ i ∈ is, i ∈ vs := by decide) : RfK K (tDc wi tg tt tk tv vs) (dDc vs di g c ek ev) := ⟨fun {A st ow σ H env Qd Q} R q0 k =>
  hi.run R q0.2 fun ds J H1 ⟨hl, q1⟩ s1 J1 L hL => by
    have hno := R.noOwn q0.1
    have R1 := R.step s1
    have nM := R1.newM hL
    let A' : Addr → Prop := fun a => A a ∨ a = L
    have toA : ∀ {H' : Hp}, To H1 (upd H1 L (.dK [])) (Mo A ow) (Mo A' ow) := new_to hL fun a z => by
      rcases z with (z | z) | z
      · exact .inl (.inl z)
      · exact .inr z
      · exact .inl (.inr z)
    have fw : ∀ a, Mo A ow a → Mo A' ow a := fun a z => z.elim (fun z => .inl (.inl z)) .inr
    have fwL : Mo A' ow L := .inl (.inr rfl)
    refine ⟨fun i m H' => m = ds.length - i ∧ i ≤ ds.length ∧ ∃ acc xs, H' L = some (.dK xs) ∧ xs.length ≤ i ∧ RepK K H' (Mo A' ow) acc xs ∧ RE K A' st ow (wipe σ vs) H' (wipeE env vs) ∧ Keep (exs st) H H' ∧ To H1 H' (Mo A ow) (Mo A' ow) ∧ LSo st H' ∧
      dcD g c ek ev (ds.drop i) (wipeE env vs) acc Qd, ⟨_, rfl, Nat.zero_le _, [], [], upd_same, Nat.zero_le _, .nil, ?_, ?_, toA (H' := H1), ?_, ?_⟩, ?_⟩
    · have RR := (R1.wipes vs hno)
      have S1 : Stp st H1 (upd H1 L (.dK [])) := R1.new hL
      have RS := RR.step S1
      refine ⟨RS.ls, fun a z => ?_, fun z e => ⟨.inl (RS.sta z e).1, .inl (RS.sta z e).2⟩, RS.al, fun j a e z => ?_, RS.inj, RS.tie, RS.len, fun j e' he' => ?_⟩
      · rcases z with z | rfl
        · exact RS.dom a z
        · rw [upd_same]; intro z; cases z
      · rcases z with z | rfl
        · exact RS.na j a e z
        · exact R1.al j _ e hL
      · obtain ⟨v, hv, r⟩ := RR.sl j e' he'
        refine ⟨v, hv, ?_⟩
        have t : To H1 (upd H1 L (.dK [])) (Mo A ow) (Mo A' ow) := toA (H' := H1)
        cases e' with
        | d x => exact Rep.to t r
        | own ds =>
          obtain ⟨a, vs, h1, h2, h3, h4⟩ := r
          exact ⟨a, vs, h1, h2, same_upd hL _ _ h3, RepL.to t h4⟩
        | odk ds =>
          obtain ⟨a, vs, h1, h2, h3, h4⟩ := r
          exact ⟨a, vs, h1, h2, same_upd hL _ _ h3, RepK.to t h4⟩
        | st => exact r
    · exact s1.k.trans fun b o z n => same_upd hL b o z
    · exact s1.l.same (same_upd hL)
    · exact q1
    · rintro i m H' ⟨rfl, hi, acc, xs, hx, hxl, rx, RR, kk, tt', ll, qq⟩
      have al : ∀ a, Mo A' ow a → H' a ≠ none := fun a z => RR.alM z
      by_cases hlt : i < ds.length
      · have eD : ds[i]? = some ds[i] := List.getElem?_eq_getElem hlt
        rw [drop_get eD] at qq
        obtain ⟨go, yl⟩ := (J1 (Mo A' ow) H' tt' al i).2 _ eD
        refine .inr ⟨go, fun H2 => ∃ acc xs, H2 L = some (.dK xs) ∧ xs.length ≤ i + 1 ∧ RepK K H2 (Mo A' ow) acc xs ∧ RE K A' st ow (wipe σ vs) H2 (wipeE env vs) ∧ Keep (exs st) H H2 ∧ To H1 H2 (Mo A ow) (Mo A' ow) ∧ LSo st H2 ∧
          dcD g c ek ev (ds.drop (i + 1)) (wipeE env vs) acc Qd, fun H2 z => ⟨_, by omega, rfl, hlt, z⟩, fun x H2 y => ?_⟩
        obtain ⟨sm, rx1⟩ := yl x H2 y
        have S2 : Stp st H' H2 := .same ll sm
        have RR2 := RR.step S2
        refine hg.run RR2 rx1 qq fun env3 ow3 σ3 q3 R3 sub3 w3 => ⟨(w3 vs his).1.trans wipe_idem, ?_⟩
        have eo : ow = ow3 := funext fun j => by
          by_cases hj : j ∈ vs
          · cases e : ow3 j with
            | none => exact hno j hj
            | some a => exact sub3 j a e
          · exact ((w3 vs his).2 j hj).symm
        subst eo
        refine hc.run R3 q3 fun b H4 q4 s4 => ?_
        have R4 := R3.step s4
        have exL : ∀ a ∈ exs st, a ≠ L := fun a z e' => by
          subst e'
          exact R1.ls.ne _ z hL
        have L4 : H4 L = some (.dK xs) := s4.k L _ (sm L _ hx) fun z => exL L z rfl
        have S4 : Stp st H' H4 := ⟨S2.k.trans s4.k, s4.l⟩
        have RR4 := RR.step S4
        have t4 : To H' H4 (Mo A' ow) (Mo A' ow) := RR.toS S4
        have kH4 : Keep (exs st) H H4 := kk.trans S4.k
        have tH4 : To H1 H4 (Mo A ow) (Mo A' ow) := tt'.trans t4
        cases b with
        | false =>
          rw [if_neg Bool.false_ne_true] at q4 ⊢
          exact ⟨acc, xs, L4, Nat.le_succ_of_le hxl, RepK.to t4 rx, RR4, kH4, tH4, s4.l, q4⟩
        | true =>
          rw [if_pos rfl] at q4 ⊢
          refine hk.run R4 q4 fun kd vk H5 q5 s5 r5 => ?_
          obtain ⟨qk, q5⟩ := q5
          have R5 := R4.step s5
          refine he.run R5 q5 fun d v H6 q6 s6 r6 => ?_
          have L5 : H6 L = some (.dK xs) := s6.k L _ (s5.k L _ L4 fun z => exL L z rfl) fun z => exL L z rfl
          have S5 : Stp st H' H6 := ⟨S4.k.trans (s5.k.trans s6.k), s6.l⟩
          have RR5 := RR.step S5
          have t5 : To H' H6 (Mo A' ow) (Mo A' ow) := RR.toS S5
          have len5 : xs.length < sizeLine := Nat.lt_of_le_of_lt hxl (Nat.lt_of_lt_of_le hlt (Nat.le_trans hl (by decide)))
          have nL5 : ∀ {b : Addr} {o : HO}, H6 b = some o → ¬ Mo A' ow b → b ≠ L := fun _ n z => n (z ▸ fwL)
          obtain ⟨kq, ekq⟩ := Option.isSome_iff_exists.mp qk
          have hkd := keyD_of ekq
          have evk : vk = kV kq := by
            cases hkd with
            | int i => cases r5; rfl
            | str i => cases r5; rfl
          have t6 : To H6 (upd H6 L (.dK (putK xs kq v))) (Mo A' ow) (Mo A' ow) := ⟨fun b o e' n => ⟨by rw [upd_ne (nL5 e' n)]; exact e', n⟩⟩
          have l6 : LSo st (upd H6 L (.dK (putK xs kq v))) := fun z e' => by
            obtain ⟨kk', ns, l1, l2, l3⟩ := s6.l z e'
            have m1 : z.1 ≠ L := exL _ (by subst e'; simp [exs])
            have m2 : z.2 ≠ L := exL _ (by subst e'; simp [exs])
            exact ⟨kk', ns, by rw [upd_ne m1]; exact l1, by rw [upd_ne m2]; exact l2, l3⟩
          have k6 : Keep [L] H6 (upd H6 L (.dK (putK xs kq v))) := fun b o e' n => by
            rw [upd_ne (fun z => n (by rw [z]; simp))]
            exact e'
          refine ⟨xs, kq, evk, L5, len5, putD acc kd d, putK xs kq v, upd_same, Nat.le_trans (length_putK _ _ _) (Nat.succ_le_succ hxl), RepK.to t6 ((RepK.to t5 rx).put hkd r6), ?_, fun b o e' n => ?_, (tt'.trans t5).trans t6, l6, q6⟩
          · refine RR5.keep (ex := [L]) (fun a ha => .inr (by simpa using ha)) k6 l6 fun a ha => ?_
            have : a = L := by simpa using ha
            subst this
            rw [upd_same]; intro z; cases z
          · rw [upd_ne (fun z => by rw [z, s1.none hL] at e'; cases e')]
            exact S5.k b o (kk b o e' n) n
      · have e' : i = ds.length := by omega
        subst e'
        rw [List.drop_length] at qq
        refine .inl ⟨(J1 (Mo A' ow) H' tt' al _).1 rfl, ?_⟩
        exact k acc L xs H' qq ⟨kk, ll⟩ (s1.none hL) hx (RepK.to (to_less fun a z => z.elim (fw a) fun y => y ▸ fwL) rx)⟩
def oLenD : List D → (D → Prop) → Prop := fun xs Q => match xs with | [.dict kvs] => Q (.int kvs.length) | _ => False
theorem ro_lenD : RfVL K (fun xs H Q => ∃ a kvs, xs = [V.ref a] ∧ H a = some (.dK kvs) ∧ Q (.int kvs.length) H) oLenD := ⟨fun R h q k => by
  unfold oLenD at q
  split at q
  · rename_i kvs
    obtain ⟨v, rfl, z⟩ := h.one
    cases z with
    | r z => cases z with | dct e n r => exact ⟨_, _, rfl, e, by rw [← r.len]; exact k _ _ _ q (stp_refl R) (.int _)⟩
    | k e n r => exact ⟨_, _, rfl, e, by rw [← r.len]; exact k _ _ _ q (stp_refl R) (.int _)⟩
  · exact q.elim⟩
end
/-! what a comprehension of a dict tells -/
theorem dc_fun {α : Type} {g : D → Ev → (Ev → Prop) → Prop} {c : Ev → (Bool → Prop) → Prop} {ek ev : Ev → (D → Prop) → Prop} {env : Ev} (enc : α → D) (f : α → Option (D × D)) : ∀ {as : List α} {acc : List (D × D)} {Q : List (D × D) → Prop},
    (∀ a ∈ as, ∀ R : Option (D × D) → Prop, R (f a) → g (enc a) env fun env1 => c env1 fun b => if b = true then ek env1 fun kd => (keyOf kd).isSome = true ∧ ev env1 fun x => R (some (kd, x)) else R none) →
    Q (as.foldl (fun acc a => match f a with | some p => putD acc p.1 p.2 | none => acc) acc) → dcD g c ek ev (as.map enc) env acc Q
  | [], _, _, _, q => q
  | a :: r, acc, Q, h, q => h a List.mem_cons_self (fun o => match o with | some p => dcD g c ek ev (r.map enc) env (putD acc p.1 p.2) Q | none => dcD g c ek ev (r.map enc) env acc Q) (by
    have ih : ∀ {acc' : List (D × D)} {Q' : List (D × D) → Prop}, Q' (r.foldl (fun acc a => match f a with | some p => putD acc p.1 p.2 | none => acc) acc') → dcD g c ek ev (r.map enc) env acc' Q' := fun {acc' Q'} q' => dc_fun enc f (fun d' h' => h d' (List.mem_cons_of_mem _ h')) q'
    rw [List.foldl_cons] at q
    cases hf : f a with
    | some x =>
      rw [hf] at q
      exact ih q
    | none =>
      rw [hf] at q
      exact ih q)
def dkeys (ks : List D) (acc : List (D × D)) : List (D × D) := ks.foldl (fun acc k => putD acc k (.bool true)) acc
theorem anyD_snoc {acc : List (D × D)} {k d : D} {q : Option Key} : anyD (acc ++ [(k, d)]) q = (anyD acc q || decide (keyOf k = q)) := by
  unfold anyD
  rw [List.any_append, List.any_cons, List.any_nil, Bool.or_false]
theorem dkeys_le : ∀ {ks : List D} {acc : List (D × D)}, (dkeys ks acc).length ≤ acc.length + ks.length
  | [], _ => Nat.le_refl _
  | k :: r, acc => by
    have := dkeys_le (ks := r) (acc := putD acc k (.bool true))
    have := putD_len acc k (.bool true)
    rw [List.length_cons]
    show (dkeys r (putD acc k (.bool true))).length ≤ _
    omega
theorem dkeys_nd : ∀ {ks : List D} {acc : List (D × D)}, (dkeys ks acc).length = acc.length + ks.length ↔ (ks.map keyOf).Nodup ∧ ∀ k ∈ ks, anyD acc (keyOf k) = false
  | [], acc => ⟨fun _ => ⟨List.nodup_nil, fun _ h => nomatch h⟩, fun _ => rfl⟩
  | k :: r, acc => by
    show (dkeys r (putD acc k (.bool true))).length = _ ↔ _
    rw [List.length_cons, List.map_cons, List.nodup_cons]
    cases e : anyD acc (keyOf k) with
    | true =>
      have hl : (putD acc k (.bool true)).length = acc.length := by unfold putD; rw [if_pos e, List.length_map]
      have := dkeys_le (ks := r) (acc := putD acc k (.bool true))
      exact ⟨fun z => by omega, fun z => by rw [z.2 k List.mem_cons_self] at e; cases e⟩
    | false =>
      have hp : putD acc k (.bool true) = acc ++ [(k, .bool true)] := by unfold putD; rw [if_neg (by rw [e]; decide)]
      rw [hp]
      have ih := dkeys_nd (ks := r) (acc := acc ++ [(k, .bool true)])
      rw [List.length_append, List.length_singleton, Nat.add_assoc, Nat.add_comm 1] at ih
      rw [ih]
      refine ⟨fun ⟨h1, h2⟩ => ⟨⟨fun z => ?_, h1⟩, fun x hx => ?_⟩, fun ⟨⟨h1, h2⟩, h3⟩ => ⟨h2, fun x hx => ?_⟩⟩
      · obtain ⟨x, hx, ex⟩ := List.mem_map.mp z
        have := h2 x hx
        rw [anyD_snoc, ex, decide_eq_true rfl, Bool.or_true] at this
        cases this
      · rcases List.mem_cons.mp hx with rfl | hx
        · exact e
        · have := h2 x hx
          rw [anyD_snoc, Bool.or_eq_false_iff] at this
          exact this.1
      · rw [anyD_snoc, h3 x (List.mem_cons_of_mem _ hx), Bool.false_or]
        exact decide_eq_false fun z => h1 (List.mem_map.mpr ⟨x, hx, z.symm⟩)
/-- how many keys stand in the dict of some names -/
theorem dkeys_all {ks : List D} : decide (((dkeys ks []).length : Int) = (ks.length : Int)) = decide ((ks.map keyOf).Nodup) := by
  have h := dkeys_nd (ks := ks) (acc := [])
  rw [List.length_nil, Nat.zero_add] at h
  refine decide_eq_decide.mpr ⟨fun z => (h.mp (by omega)).1, fun z => ?_⟩
  have := h.mpr ⟨z, fun _ _ => rfl⟩
  omega
theorem all_id {α : Type} (f : α → Bool) (as : List α) : (as.map f).all id = as.all f := by rw [List.all_map]; rfl
theorem any_id {α : Type} (f : α → Bool) (as : List α) : (as.map f).any id = as.any f := by rw [List.any_map]; rfl
theorem lc_raw {g : D → Ev → (Ev → Prop) → Prop} {c : Ev → (Bool → Prop) → Prop} {e : Ev → (D → Prop) → Prop} {env : Ev} (f : D → Option D) {ds : List D} {Q : List D → Prop}
    (h : ∀ a ∈ ds, ∀ R : Option D → Prop, R (f a) → g a env fun env1 => c env1 fun b => if b = true then e env1 fun x => R (some x) else R none) (q : Q (ds.filterMap f)) : lcD g c e ds env Q := by
  have := lc_fun (g := g) (c := c) (e := e) (env := env) id f (as := ds) (Q := Q) h q
  rw [List.map_id] at this
  exact this
theorem dc_raw {g : D → Ev → (Ev → Prop) → Prop} {c : Ev → (Bool → Prop) → Prop} {ek ev : Ev → (D → Prop) → Prop} {env : Ev} (f : D → Option (D × D)) {ds : List D} {acc : List (D × D)} {Q : List (D × D) → Prop}
    (h : ∀ a ∈ ds, ∀ R : Option (D × D) → Prop, R (f a) → g a env fun env1 => c env1 fun b => if b = true then ek env1 fun kd => (keyOf kd).isSome = true ∧ ev env1 fun x => R (some (kd, x)) else R none)
    (q : Q (ds.foldl (fun acc a => match f a with | some p => putD acc p.1 p.2 | none => acc) acc)) : dcD g c ek ev ds env acc Q := by
  have := dc_fun (g := g) (c := c) (ek := ek) (ev := ev) (env := env) id f (as := ds) (acc := acc) (Q := Q) h q
  rw [List.map_id] at this
  exact this
theorem enum_raw (as : List D) (k : Nat) : enumD k as = (as.zipIdx k).map fun p => PyData.tuple [.int (p.2 : Nat), p.1] := by
  have := enum_map id as k
  rw [List.map_id] at this
  exact this
theorem bT {b : Bool} (h : ¬ b = false) : b = true := by cases b <;> simp_all
theorem bF {b : Bool} (h : ¬ b = true) : b = false := by cases b <;> simp_all
def ix6 (i : Nat) : List D := ((List.range 6).drop i).map fun j => PyData.int (j : Nat)
theorem ix6_0 : [PyData.int 0, PyData.int 1, PyData.int 2, PyData.int 3, PyData.int 4, PyData.int 5] = ix6 0 := rfl
theorem ix6_cons {i : Nat} {d : D} {r : List D} (h : d :: r = ix6 i) : i < 6 ∧ d = .int (i : Nat) ∧ r = ix6 (i + 1) := by
  unfold ix6 at h
  by_cases c : i < 6
  · rw [List.drop_eq_getElem_cons (by rw [List.length_range]; exact c), List.map_cons, List.getElem_range] at h
    cases h
    exact ⟨c, rfl, rfl⟩
  · rw [List.drop_of_length_le (by rw [List.length_range]; omega)] at h
    cases h
theorem ix6_nil {i : Nat} (hi : i ≤ 6) (h : [] = ix6 i) : i = 6 := by
  have := congrArg List.length h
  unfold ix6 at this
  rw [List.length_map, List.length_drop, List.length_range, List.length_nil] at this
  omega
def ixn (n i : Nat) : List D := ((List.range n).drop i).map fun j => PyData.int (j : Nat)
theorem ixn_cons {n i : Nat} {d : D} {r : List D} (h : d :: r = ixn n i) : i < n ∧ d = .int (i : Nat) ∧ r = ixn n (i + 1) := by
  unfold ixn at h
  by_cases c : i < n
  · rw [List.drop_eq_getElem_cons (by rw [List.length_range]; exact c), List.map_cons, List.getElem_range] at h
    cases h
    exact ⟨c, rfl, rfl⟩
  · rw [List.drop_of_length_le (by rw [List.length_range]; omega)] at h
    cases h
theorem ixn_nil {n i : Nat} (hi : i ≤ n) (h : [] = ixn n i) : i = n := by
  have := congrArg List.length h
  unfold ixn at this
  rw [List.length_map, List.length_drop, List.length_range, List.length_nil] at this
  omega
theorem count6 {α : Type} {p : α → Bool} {xs : List α} (h : xs.length = 6) : decide (((((xs.take 6).countP p) : Nat) : Int) = 6) = xs.all p := by
  rw [List.take_of_length_le (by omega), Bool.eq_iff_iff, decide_eq_true_eq, List.all_eq_true]
  have := List.countP_eq_length (p := p) (l := xs)
  rw [h] at this
  rw [← this]
  omega
theorem zip_get {α β : Type} {as : List α} {bs : List β} {i : Nat} {a : α} {b : β} (h1 : as[i]? = some a) (h2 : bs[i]? = some b) : (as.zip bs)[i]? = some (a, b) := by
  rw [List.getElem?_zip_eq_some]
  exact ⟨h1, h2⟩
theorem countP_next {α : Type} {p : α → Bool} {xs : List α} {i : Nat} {x : α} (h : xs[i]? = some x) : (xs.take (i + 1)).countP p = (xs.take i).countP p + (if p x = true then 1 else 0) := by
  rw [List.take_add_one, h, List.countP_append]
  simp only [Option.toList, List.countP_cons, List.countP_nil]
  omega
/-- a written list -/
def dCL (xs : List D) : Ev → (List D → Prop) → Prop := fun _ Q => Q xs
/-! the readings' equations, told so that the kernel goes step by step -/
def q_sTake := fun a0 a1 => propext (Iff.of_eq (@sTake.eq_1 a0 a1))
def q_sTake0 := fun a0 a1 => propext (Iff.of_eq (@sTake0.eq_1 a0 a1))
def q_sPick := fun a0 a1 => propext (Iff.of_eq (@sPick.eq_1 a0 a1))
def q_sNumber := fun a0 a1 a2 => propext (Iff.of_eq (@sNumber.eq_1 a0 a1 a2))
def q_dKd := fun a0 a1 a2 a3 => propext (Iff.of_eq (@dKd.eq_1 a0 a1 a2 a3))
def q_F0 := fun a0 a1 => propext (Iff.of_eq (@F0.eq_1 a0 a1))
def q_F1 := fun a0 a1 a2 => propext (Iff.of_eq (@F1.eq_1 a0 a1 a2))
def q_F2 := fun a0 a1 a2 a3 => propext (Iff.of_eq (@F2.eq_1 a0 a1 a2 a3))
def q_F3 := fun a0 a1 a2 a3 a4 => propext (Iff.of_eq (@F3.eq_1 a0 a1 a2 a3 a4))
def q_F4 := fun a0 a1 a2 a3 a4 a5 => propext (Iff.of_eq (@F4.eq_1 a0 a1 a2 a3 a4 a5))
def q_F5 := fun a0 a1 a2 a3 a4 a5 a6 => propext (Iff.of_eq (@F5.eq_1 a0 a1 a2 a3 a4 a5 a6))
def q_F6 := fun a0 a1 a2 a3 a4 a5 a6 a7 => propext (Iff.of_eq (@F6.eq_1 a0 a1 a2 a3 a4 a5 a6 a7))
def q_dParO1 := fun a0 a1 a2 a3 a4 a5 => propext (Iff.of_eq (@dParO1.eq_1 a0 a1 a2 a3 a4 a5))
def q_dParO2 := fun a0 a1 a2 a3 a4 a5 => propext (Iff.of_eq (@dParO2.eq_1 a0 a1 a2 a3 a4 a5))
def q_dEnumT := fun a0 a1 a2 => propext (Iff.of_eq (@dEnumT.eq_1 a0 a1 a2))
def q_oRepr := fun a0 a1 => propext (Iff.of_eq (@oRepr.eq_1 a0 a1))
def q_dUn := fun a0 a1 a2 a3 => propext (Iff.of_eq (@dUn.eq_1 a0 a1 a2 a3))
def q_oNeg := fun a0 a1 => propext (Iff.of_eq (@oNeg.eq_1 a0 a1))
def q_dSeq := fun a0 a1 a2 a3 => propext (Iff.of_eq (@dSeq.eq_1 a0 a1 a2 a3))
def q_dRet := fun a0 a1 a2 => propext (Iff.of_eq (@dRet.eq_1 a0 a1 a2))
def q_dRetN := fun a0 a1 => propext (Iff.of_eq (@dRetN.eq_1 a0 a1))
def q_dIf := fun a0 a1 a2 a3 a4 => propext (Iff.of_eq (@dIf.eq_1 a0 a1 a2 a3 a4))
def q_dAsg := fun a0 a1 a2 a3 => propext (Iff.of_eq (@dAsg.eq_1 a0 a1 a2 a3))
def q_dDrop := fun a0 a1 a2 => propext (Iff.of_eq (@dDrop.eq_1 a0 a1 a2))
def q_dBreak := fun a0 a1 => propext (Iff.of_eq (@dBreak.eq_1 a0 a1))
def q_dCont := fun a0 a1 => propext (Iff.of_eq (@dCont.eq_1 a0 a1))
def q_dNext := fun a0 a1 => propext (Iff.of_eq (@dNext.eq_1 a0 a1))
def q_dOwn := fun a0 a1 a2 a3 => propext (Iff.of_eq (@dOwn.eq_1 a0 a1 a2 a3))
def q_dApp := fun a0 a1 a2 a3 => propext (Iff.of_eq (@dApp.eq_1 a0 a1 a2 a3))
def q_dSetIx := fun a0 a1 a2 a3 a4 => propext (Iff.of_eq (@dSetIx.eq_1 a0 a1 a2 a3 a4))
def q_dFrz := fun a0 a1 a2 a3 => propext (Iff.of_eq (@dFrz.eq_1 a0 a1 a2 a3))
def q_dPar := fun a0 a1 a2 a3 a4 => propext (Iff.of_eq (@dPar.eq_1 a0 a1 a2 a3 a4))
def q_dAug := fun a0 a1 a2 a3 a4 => propext (Iff.of_eq (@dAug.eq_1 a0 a1 a2 a3 a4))
def q_dFor := fun a0 a1 a2 a3 a4 => propext (Iff.of_eq (@dFor.eq_1 a0 a1 a2 a3 a4))
def q_dN := fun a0 a1 a2 => propext (Iff.of_eq (@dN.eq_1 a0 a1 a2))
def q_dNB := fun a0 a1 a2 => propext (Iff.of_eq (@dNB.eq_1 a0 a1 a2))
def q_dC := fun a0 a1 a2 => propext (Iff.of_eq (@dC.eq_1 a0 a1 a2))
def q_dOp := fun a0 a1 a2 a3 a4 => propext (Iff.of_eq (@dOp.eq_1 a0 a1 a2 a3 a4))
def q_oI := fun a0 a1 a2 a3 a4 => propext (Iff.of_eq (@oI.eq_1 a0 a1 a2 a3 a4))
def q_oI0 := fun a0 a1 a2 a3 => propext (Iff.of_eq (@oI0.eq_1 a0 a1 a2 a3))
def q_oB := fun a0 a1 a2 a3 => propext (Iff.of_eq (@oB.eq_1 a0 a1 a2 a3))
def q_oEq := fun a0 a1 a2 a3 => propext (Iff.of_eq (@oEq.eq_1 a0 a1 a2 a3))
def q_oEqS := fun a0 a1 a2 a3 => propext (Iff.of_eq (@oEqS.eq_1 a0 a1 a2 a3))
def q_oIsN := fun a0 a1 a2 => propext (Iff.of_eq (@oIsN.eq_1 a0 a1 a2))
def q_oIxS := fun a0 a1 a2 => propext (Iff.of_eq (@oIxS.eq_1 a0 a1 a2))
def q_oCat := fun a0 a1 a2 => propext (Iff.of_eq (@oCat.eq_1 a0 a1 a2))
def q_oCatT := fun a0 a1 a2 => propext (Iff.of_eq (@oCatT.eq_1 a0 a1 a2))
def q_oCatS := fun a0 a1 a2 => propext (Iff.of_eq (@oCatS.eq_1 a0 a1 a2))
def q_oIn := fun a0 a1 a2 a3 => propext (Iff.of_eq (@oIn.eq_1 a0 a1 a2 a3))
def q_oInS := fun a0 a1 a2 a3 => propext (Iff.of_eq (@oInS.eq_1 a0 a1 a2 a3))
def q_dTb := fun a0 a1 a2 => propext (Iff.of_eq (@dTb.eq_1 a0 a1 a2))
def q_dAnd := fun a0 a1 a2 a3 => propext (Iff.of_eq (@dAnd.eq_1 a0 a1 a2 a3))
def q_dOr := fun a0 a1 a2 a3 => propext (Iff.of_eq (@dOr.eq_1 a0 a1 a2 a3))
def q_dNot := fun a0 a1 a2 => propext (Iff.of_eq (@dNot.eq_1 a0 a1 a2))
def q_dYes := fun a0 a1 => propext (Iff.of_eq (@dYes.eq_1 a0 a1))
def q_dAndV := fun a0 a1 a2 a3 => propext (Iff.of_eq (@dAndV.eq_1 a0 a1 a2 a3))
def q_dOrV := fun a0 a1 a2 a3 => propext (Iff.of_eq (@dOrV.eq_1 a0 a1 a2 a3))
def q_dNotV := fun a0 a1 a2 => propext (Iff.of_eq (@dNotV.eq_1 a0 a1 a2))
def q_dIfV := fun a0 a1 a2 a3 a4 => propext (Iff.of_eq (@dIfV.eq_1 a0 a1 a2 a3 a4))
def q_dChain := fun a0 a1 a2 a3 a4 a5 a6 => propext (Iff.of_eq (@dChain.eq_1 a0 a1 a2 a3 a4 a5 a6))
def q_dNil := fun a0 a1 => propext (Iff.of_eq (@dNil.eq_1 a0 a1))
def q_dCons := fun a0 a1 a2 a3 => propext (Iff.of_eq (@dCons.eq_1 a0 a1 a2 a3))
def q_dL := fun a0 a1 a2 => propext (Iff.of_eq (@dL.eq_1 a0 a1 a2))
def q_dTup := fun a0 a1 a2 => propext (Iff.of_eq (@dTup.eq_1 a0 a1 a2))
def q_dCB := fun a0 a1 a2 a3 => propext (Iff.of_eq (@dCB.eq_1 a0 a1 a2 a3))
def q_oAbs := fun a0 a1 => propext (Iff.of_eq (@oAbs.eq_1 a0 a1))
def q_oI2 := fun a0 a1 a2 a3 => propext (Iff.of_eq (@oI2.eq_1 a0 a1 a2 a3))
def q_oLen := fun a0 a1 => propext (Iff.of_eq (@oLen.eq_1 a0 a1))
def q_oLenS := fun a0 a1 => propext (Iff.of_eq (@oLenS.eq_1 a0 a1))
def q_oInt := fun a0 a1 => propext (Iff.of_eq (@oInt.eq_1 a0 a1))
def q_oInt_1 := fun a0 a1 => propext (Iff.of_eq (@oInt.eq_2 a0 a1))
def q_oSum := fun a0 a1 => propext (Iff.of_eq (@oSum.eq_1 a0 a1))
def q_oBs := fun a0 a1 a2 => propext (Iff.of_eq (@oBs.eq_1 a0 a1 a2))
def q_oTupOf := fun a0 a1 => propext (Iff.of_eq (@oTupOf.eq_1 a0 a1))
def q_dSeqOf := fun a0 a1 a2 => propext (Iff.of_eq (@dSeqOf.eq_1 a0 a1 a2))
def q_dIsi := fun a0 a1 a2 a3 => propext (Iff.of_eq (@dIsi.eq_1 a0 a1 a2 a3))
def q_dNoP := fun a0 a1 => propext (Iff.of_eq (@dNoP.eq_1 a0 a1))
def q_dPart := fun a0 a1 a2 => propext (Iff.of_eq (@dPart.eq_1 a0 a1 a2))
def q_dSlT := fun a0 a1 a2 a3 a4 => propext (Iff.of_eq (@dSlT.eq_1 a0 a1 a2 a3 a4))
def q_dSlL := fun a0 a1 a2 a3 a4 => propext (Iff.of_eq (@dSlL.eq_1 a0 a1 a2 a3 a4))
def q_dSlS := fun a0 a1 a2 a3 a4 => propext (Iff.of_eq (@dSlS.eq_1 a0 a1 a2 a3 a4))
def q_dCall := fun a0 a1 a2 a3 => propext (Iff.of_eq (@dCall.eq_1 a0 a1 a2 a3))
def q_dCallS := fun a0 a1 a2 a3 a4 => propext (Iff.of_eq (@dCallS.eq_1 a0 a1 a2 a3 a4))
def q_dItL := fun a0 a1 a2 => propext (Iff.of_eq (@dItL.eq_1 a0 a1 a2))
def q_dItT := fun a0 a1 a2 => propext (Iff.of_eq (@dItT.eq_1 a0 a1 a2))
def q_dItS := fun a0 a1 a2 => propext (Iff.of_eq (@dItS.eq_1 a0 a1 a2))
def q_dR1 := fun a0 a1 a2 => propext (Iff.of_eq (@dR1.eq_1 a0 a1 a2))
def q_dR2 := fun a0 a1 a2 => propext (Iff.of_eq (@dR2.eq_1 a0 a1 a2))
def q_dZip := fun a0 a1 a2 => propext (Iff.of_eq (@dZip.eq_1 a0 a1 a2))
def q_dEnum := fun a0 a1 a2 => propext (Iff.of_eq (@dEnum.eq_1 a0 a1 a2))
def q_gN := fun a0 a1 a2 a3 => propext (Iff.of_eq (@gN.eq_1 a0 a1 a2 a3))
def q_gNi := fun a0 a1 => propext (Iff.of_eq (@gNi.eq_1 a0 a1))
def q_gCo := fun a0 a1 a2 a3 a4 a5 => propext (Iff.of_eq (@gCo.eq_1 a0 a1 a2 a3 a4 a5))
def q_gCo_1 := fun a0 a1 a2 a3 => propext (Iff.of_eq (@gCo.eq_2 a0 a1 a2 a3))
def q_gT := fun a0 a1 a2 a3 a4 => propext (Iff.of_eq (@gT.eq_1 a0 a1 a2 a3 a4))
def q_dLc := fun a0 a1 a2 a3 a4 a5 a6 => propext (Iff.of_eq (@dLc.eq_1 a0 a1 a2 a3 a4 a5 a6))
def q_dDc := fun a0 a1 a2 a3 a4 a5 a6 a7 => propext (Iff.of_eq (@dDc.eq_1 a0 a1 a2 a3 a4 a5 a6 a7))
def q_dK := fun a0 a1 a2 => propext (Iff.of_eq (@dK.eq_1 a0 a1 a2))
def q_oLenD := fun a0 a1 => propext (Iff.of_eq (@oLenD.eq_1 a0 a1))
def q_dCL := fun a0 a1 a2 => propext (Iff.of_eq (@dCL.eq_1 a0 a1 a2))
theorem ix_l (ds : List D) (i : Int) (Q : D → Prop) : oIx (.list ds) (.int i) Q = (match dix ds i with | some d => Q d | none => False) := rfl
theorem ix_t (ds : List D) (i : Int) (Q : D → Prop) : oIx (.tuple ds) (.int i) Q = (match dix ds i with | some d => Q d | none => False) := rfl
def q_oIx := fun ds i Q => propext (Iff.of_eq (ix_l ds i Q))
def q_oIx_1 := fun ds i Q => propext (Iff.of_eq (ix_t ds i Q))
theorem tuple_mul1 (l : Addr) (items : Array Value) (n : Nat) (dd : Option Addr) (sl : Array (Option Value)) (u : Tok) :
    Meets (Builtin.«tuple.__mul__» ⟨[.ref l, .int 1 u], []⟩) (fun _ R s => s.heap.get? l = some { cls := .type "tuple", dict := dd, data := .seq items n, slots := sl } ∧ R (.ok (.ret (Value.ref l))) s) :=
  .of_wp fun prog w A R s h => by
    obtain ⟨hp, g, d, tk, os⟩ := s
    obtain ⟨hl, h⟩ := h
    have f1 := AutoSeq1.idx_int
    have c1 : (items.isEmpty || ((1 : Int) == 1)) = true := by cases items.isEmpty <;> rfl
    wp_walk using wpAny_loadPart' hl
    repeat (first
      | (refine wpAny_ite_true (decide_eq_true (by rw [c1])) ?_; wp_walk using wpAny_loadPart' hl)
      | (refine wpAny_ite_false (decide_eq_false (by decide)) ?_; wp_walk using wpAny_loadPart' hl))
    exact ⟨_, rfl, h⟩
theorem tuple_mul0 (l : Addr) (items : Array Value) (n : Nat) (dd : Option Addr) (sl : Array (Option Value)) (u : Tok) (hi : items.isEmpty = false) :
    Meets (Builtin.«tuple.__mul__» ⟨[.ref l, .int 0 u], []⟩) (fun _ R s => s.heap.get? l = some { cls := .type "tuple", dict := dd, data := .seq items n, slots := sl } ∧
      R (.ok (.ret (Value.ref s.heap.objs.size))) { s with heap := s.heap.push { cls := Value.type "tuple", data := Data.seq #[] }, toks := s.toks }) :=
  .of_wp fun prog w A R s h => by
    obtain ⟨hp, g, d, tk, os⟩ := s
    obtain ⟨hl, h⟩ := h
    have f1 := AutoSeq1.idx_int
    have c1 : (items.isEmpty || ((0 : Int) == 1)) = false := by rw [hi]; rfl
    wp_walk using wpAny_loadPart' hl
    exact ⟨_, rfl, h⟩
/-- t * k, any k up to 10000 -/
def rRep2 (K : PySem.W.Frag) : R2 := fun x y H Q => ∃ l k xs, x = .ref l ∧ y = .int k ∧ SqT K H l xs ∧ xs ≠ [] ∧ 0 ≤ k ∧ k ≤ 10000 ∧ xs.length ≤ 100 ∧
  ((k = 1 ∧ Q (.ref l) H) ∨ (k ≠ 1 ∧ ∀ p, H p = none → Q (.ref p) (upd H p (.tup (List.replicate k.toNat xs).flatten))))
theorem op_rep2 {X : Cx} : OpR X (binaryOp .Mult) (rRep2 X.K) := by
  intro pins s σ H x y v u Q I rx ry h
  obtain ⟨l, k, xs, rfl, rfl, hT, hne, h1, h2, hz, q⟩ := h
  cases rx
  obtain ⟨t, rfl⟩ := ry
  obtain ⟨its, r, ⟨⟨cls, dd, data, sl⟩, ho, hc, n, hd⟩, hs⟩ := I.tuple hT
  simp only at hc hd
  subst hc hd
  have hle : its.length = xs.length := r.length.symm
  have hn : its ≠ [] := fun e => hne (by
    rw [e] at hle
    exact List.eq_nil_of_length_eq_zero hle.symm)
  have hi : its.toArray.isEmpty = false := by
    cases its with
    | nil => exact absurd rfl hn
    | cons a b => rfl
  have hsz0 : its.toArray.size = xs.length := by rw [List.size_toArray, hle]
  have hm : ((its.toArray.size : Nat) : Int) * k ≤ 1000000 := by
    rw [hsz0]
    have a1 : ((xs.length : Nat) : Int) * k ≤ 100 * k := Int.mul_le_mul_of_nonneg_right (by omega) (by omega)
    omega
  have flen : (List.replicate k.toNat its).flatten.length ≤ sizeLine := by
    rw [PyProof.Rows.lm_len_rep_flat, hle, sizeLine_eq]
    have a1 : k.toNat * xs.length ≤ 10000 * 100 := Nat.mul_le_mul (by omega) hz
    omega
  have flen2 : (List.replicate k.toNat xs).flatten.length ≤ sizeLine := by
    rw [PyProof.Rows.lm_len_rep_flat, sizeLine_eq]
    have a1 : k.toNat * xs.length ≤ 10000 * 100 := Nat.mul_le_mul (by omega) hz
    omega
  have road : ∀ {C : Value → Shared → Prop} , wpAny (model X.prog X.w) X.A (call (.builtin "tuple.__mul__") [.ref l, .int k t]) C X.xe s → wpAny (model X.prog X.w) X.A (binaryOp .Mult (.ref l) (.int k t)) C X.xe s := fun hw =>
    wpAny_binaryOp_repeat_ref (T := "tuple") (U := "int") (by decide) ⟨_, ho, rfl⟩ (fun s' => typeIs_int s' k t) noFill_tuple_mul F.fills_int_mul F.slot_int_rmul repeat_tuple F.slot_int_index.lookup
      (call_meets F.slot_int_rmul (typeIs_int s k t) F.entry_int_rmul (F.args_int_rmul_2 _ _) (int_rmul_tuple k t l its.toArray n dd sl) ⟨ho, rfl, ⟨_, ho, rfl⟩, hw⟩)
  rcases q with ⟨rfl, q⟩ | ⟨k1, q⟩
  · exact road (call_meets F.slot_tuple_mul ⟨_, ho, rfl⟩ F.entry_tuple_mul (F.args_tuple_mul_2 _ _) (tuple_mul1 l its.toArray n dd sl t) ⟨ho, .ref l, H, I, rfl, q⟩)
  · by_cases k0 : k = 0
    · subst k0
      refine road (call_meets F.slot_tuple_mul ⟨_, ho, rfl⟩ F.entry_tuple_mul (F.args_tuple_mul_2 _ _) (tuple_mul0 l its.toArray n dd sl t hi) ⟨ho, ?_⟩)
      refine ⟨.ref s.heap.objs.size, _, I.laid (t' := s.toks) (o := .tup []) (fun b ob q => Heap.get?_push_of_some _ q) (Nat.le_refl _) ?_, rfl, q _ (I.hok.fresh (Nat.le_refl _))⟩
      exact ⟨Nat.zero_le _, [], .nil, IsTup.new _ _⟩
    · have c0 : (decide (k < -(2 ^ 63)) || decide (k ≥ 2 ^ 63)) = false := by
        rw [decide_eq_false (by omega), decide_eq_false (by omega)] <;> rfl
      have c1 : (its.toArray.isEmpty || k == 1) = false := by
        rw [hi, Bool.false_or]
        exact beq_eq_false_iff_ne.mpr (by omega)
      have c2 : (decide (k ≤ 0) || its.toArray.isEmpty) = false := by
        rw [hi, Bool.or_false]
        exact decide_eq_false (by omega)
      have c4 : Builtin.Tuple.tupleTooMany (((its.toArray.size : Nat) : Int) * k) = false := by
        unfold Builtin.Tuple.tupleTooMany
        rw [sizeLine_eq]
        exact decide_eq_false (by omega)
      refine road (call_meets F.slot_tuple_mul ⟨_, ho, rfl⟩ F.entry_tuple_mul (F.args_tuple_mul_2 _ _) (tuple_mulW l its.toArray n dd sl k t c0 c1 c2 (by omega) c4 (by rw [size_rep, List.size_toArray]; exact flen)) ⟨ho, ?_⟩)
      rw [size_rep]
      refine ⟨.ref s.heap.objs.size, _, I.laid (t' := s.toks) (o := .tup (List.replicate k.toNat xs).flatten) (fun b ob q => Heap.get?_push_of_some _ q) (Nat.le_refl _) ?_, rfl, q _ (I.hok.fresh (Nat.le_refl _))⟩
      exact ⟨flen2, _, r.rep k.toNat, IsTup.new _ _⟩
section
variable {K : PySem.W.Frag}
theorem RepL.rep {H : Hp} {A : Addr → Prop} {ds : List D} {vs : List V} (r : RepL K H A ds vs) : ∀ k : Nat, RepL K H A (List.replicate k ds).flatten (List.replicate k vs).flatten
  | 0 => .nil
  | k + 1 => by
    rw [List.replicate_succ, List.replicate_succ, List.flatten_cons, List.flatten_cons]
    exact r.app (r.rep k)
def oRep : D → D → (D → Prop) → Prop := fun x y Q => match x, y with
  | .list a, .int k => (-(2 ^ 63) ≤ k ∧ k < 2 ^ 63) ∧ a.length * k.toNat ≤ 16777216 ∧ Q (.list (List.replicate k.toNat a).flatten)
  | _, _ => False
theorem rv_rep : RfV2 K rRep oRep := ⟨fun R h1 h2 q k => by
  unfold oRep at q
  split at q
  · obtain ⟨a, xs, rfl, h3, r3⟩ := h1.lst
    cases h2.int
    exact ⟨a, _, xs, rfl, rfl, h3, q.1.1, q.1.2, by rw [← r3.len]; exact Nat.le_trans q.2.1 (by rw [sizeLine_eq]; exact Nat.le_refl _), fun p n => k _ _ _ q.2.2 (R.new n) (R.mkL n (r3.rep _))⟩
  · exact q.elim⟩
def oRepT : D → D → (D → Prop) → Prop := fun x y Q => match x, y with
  | .tuple a, .int k => a ≠ [] ∧ (0 ≤ k ∧ k ≤ 10000) ∧ a.length ≤ 100 ∧ Q (.tuple (List.replicate k.toNat a).flatten)
  | _, _ => False
theorem rv_repT : RfV2 K (rRep2 K) oRepT := ⟨fun {A st ow σ H env x y v u Qd Q} R h1 h2 q k => by
  unfold oRepT at q
  split at q
  · rename_i ds n
    obtain ⟨a, xs, rfl, h3, r3⟩ := h1.tup
    cases h2.int
    obtain ⟨q1, q2, q3, q4⟩ := q
    refine ⟨a, n, xs, rfl, rfl, h3.sq, fun e => q1 (r3.nil_iff e), q2.1, q2.2, by rw [← r3.len]; exact q3, ?_⟩
    by_cases e : n = 1
    · subst e
      refine .inl ⟨rfl, k _ _ _ q4 (stp_refl R) (.tup h3 ?_)⟩
      show RepL K H (Mo A ow) (ds ++ []) xs
      rw [List.append_nil]
      exact r3
    · exact .inr ⟨e, fun p n => k _ _ _ q4 (R.new n) (R.mkT n (r3.rep _))⟩
  · exact q.elim⟩
end
theorem oRep_l (a : List D) (k : Int) (Q : D → Prop) : oRep (.list a) (.int k) Q = ((-(2 ^ 63) ≤ k ∧ k < 2 ^ 63) ∧ a.length * k.toNat ≤ 16777216 ∧ Q (.list (List.replicate k.toNat a).flatten)) := rfl
theorem oRep_t (a : List D) (k : Int) (Q : D → Prop) : oRepT (.tuple a) (.int k) Q = (a ≠ [] ∧ (0 ≤ k ∧ k ≤ 10000) ∧ a.length ≤ 100 ∧ Q (.tuple (List.replicate k.toNat a).flatten)) := rfl
def q_oRep := fun a k Q => propext (Iff.of_eq (oRep_l a k Q))
def q_oRepT := fun a k Q => propext (Iff.of_eq (oRep_t a k Q))
/-! a part of a block, and what holds behind it -/
theorem seq_mid1 {a r : DS} {Ed : Dd} {env : Ev} (I : Ev → Prop) (h1 : ∀ N : Ev → Prop, (∀ e, I e → N e) → a { Ed with nx := N } env) (h2 : ∀ e, I e → r Ed e) : dSeq a r Ed env := h1 _ h2
theorem seq_mid2 {a b r : DS} {Ed : Dd} {env : Ev} (I : Ev → Prop) (h1 : ∀ N : Ev → Prop, (∀ e, I e → N e) → dSeq a b { Ed with nx := N } env) (h2 : ∀ e, I e → r Ed e) : dSeq a (dSeq b r) Ed env := h1 _ h2
theorem seq_mid3 {a b c r : DS} {Ed : Dd} {env : Ev} (I : Ev → Prop) (h1 : ∀ N : Ev → Prop, (∀ e, I e → N e) → dSeq a (dSeq b c) { Ed with nx := N } env) (h2 : ∀ e, I e → r Ed e) : dSeq a (dSeq b (dSeq c r)) Ed env := h1 _ h2
theorem seq_mid4 {a b c d r : DS} {Ed : Dd} {env : Ev} (I : Ev → Prop) (h1 : ∀ N : Ev → Prop, (∀ e, I e → N e) → dSeq a (dSeq b (dSeq c d)) { Ed with nx := N } env) (h2 : ∀ e, I e → r Ed e) : dSeq a (dSeq b (dSeq c (dSeq d r))) Ed env := h1 _ h2
theorem seq_mid5 {a b c d f r : DS} {Ed : Dd} {env : Ev} (I : Ev → Prop) (h1 : ∀ N : Ev → Prop, (∀ e, I e → N e) → dSeq a (dSeq b (dSeq c (dSeq d f))) { Ed with nx := N } env) (h2 : ∀ e, I e → r Ed e) : dSeq a (dSeq b (dSeq c (dSeq d (dSeq f r)))) Ed env := h1 _ h2
theorem ints_of : ∀ {ds : List D}, (∀ d ∈ ds, ∃ n : Int, d = .int n) → ∃ ns : List Int, ds = ns.map PyData.int
  | [], _ => ⟨[], rfl⟩
  | d :: r, h => by
    obtain ⟨n, rfl⟩ := h d List.mem_cons_self
    obtain ⟨ns, rfl⟩ := ints_of (ds := r) fun e he => h e (List.mem_cons_of_mem _ he)
    exact ⟨n :: ns, rfl⟩
theorem ixN_nat {n i : Nat} (h : i < n) : ixN n (i : Int) = some i := by
  unfold ixN
  rw [if_pos (by omega), if_pos (by omega), Int.toNat_natCast]
/-- None, truths, numbers, texts -/
def flt1 : V → Bool
  | .non => true | .bl _ => true | .int _ => true | .str z => PyData.strOk z | _ => false
/-- x and y are the same data, at most n deep -/
def Sm (K : PySem.W.Frag) (H : Hp) : Nat → V → V → Prop
  | 0, x, y => x = y ∧ flt1 x = true
  | n + 1, x, y => (x = y ∧ flt1 x = true) ∨ ∃ (a b : Addr) (xs ys : List V), x = .ref a ∧ y = .ref b ∧ ((SqL K H a xs ∧ SqL K H b ys) ∨ (SqT K H a xs ∧ SqT K H b ys)) ∧ xs.length = ys.length ∧ xs.length ≤ 100000 ∧
      ∀ (i : Nat) (u v : V), xs[i]? = some u → ys[i]? = some v → Sm K H n u v
theorem sqT_same {K : PySem.W.Frag} {H H' : Hp} {a : Addr} {xs : List V} (e : Same H H') (h : SqT K H a xs) : SqT K H' a xs := by
  rcases h with (h | ⟨o, h⟩) | h
  · exact .inl (.inl (e _ _ h))
  · exact .inl (.inr ⟨o, e _ _ h⟩)
  · exact .inr h
theorem Sm.same {K : PySem.W.Frag} {H H' : Hp} (e : Same H H') : ∀ {n : Nat} {x y : V}, Sm K H n x y → Sm K H' n x y
  | 0, _, _, h => h
  | n + 1, _, _, .inl h => .inl h
  | n + 1, _, _, .inr ⟨a, b, xs, ys, h1, h2, h3, h4, h5, h6⟩ => .inr ⟨a, b, xs, ys, h1, h2, (match h3 with
      | .inl z => .inl ⟨e.seq z.1, e.seq z.2⟩
      | .inr z => .inr ⟨sqT_same e z.1, sqT_same e z.2⟩), h4, h5, fun i u v hu hv => Sm.same e (h6 i u v hu hv)⟩
theorem Sm.flat {K : PySem.W.Frag} {H : Hp} {n : Nat} {x : V} (h : flt1 x = true) : Sm K H n x x := by
  cases n with
  | zero => exact ⟨rfl, h⟩
  | succ n => exact .inl ⟨rfl, h⟩
theorem tyx_L {K : PySem.W.Frag} {H : Hp} {a : Addr} {xs : List V} (h : SqL K H a xs) : TyX K H (.ref a) (.type "list") := by
  rcases h with (h | ⟨o, h⟩) | ⟨o, its, n, h1, h2, h3⟩
  · exact .base (.lst h)
  · exact .base (.frz h)
  · exact .kList h1 h2
theorem tyx_T {K : PySem.W.Frag} {H : Hp} {a : Addr} {xs : List V} (h : SqT K H a xs) : TyX K H (.ref a) (.type "tuple") := by
  rcases h with (h | ⟨o, h⟩) | ⟨o, its, n, h1, h2, h3⟩
  · exact .base (.tup h)
  · exact .fTuple h
  · exact .kTuple h1 h2
theorem kt {K : PySem.W.Frag} (a b : String) {r : Bool} (h : kitB a b = some r) : PySem.W.kitOne K (.type a) (.type b) = some r := h
theorem k_ib {K : PySem.W.Frag} : PySem.W.kitOne K (.type "int") (.type "bool") = some false := kt _ _ (by decide +kernel)
theorem k_is {K : PySem.W.Frag} : PySem.W.kitOne K (.type "int") (.type "str") = some false := kt _ _ (by decide +kernel)
theorem k_ii {K : PySem.W.Frag} : PySem.W.kitOne K (.type "int") (.type "int") = some true := kt _ _ (by decide +kernel)
theorem k_bb {K : PySem.W.Frag} : PySem.W.kitOne K (.type "bool") (.type "bool") = some true := kt _ _ (by decide +kernel)
theorem k_bs {K : PySem.W.Frag} : PySem.W.kitOne K (.type "bool") (.type "str") = some false := kt _ _ (by decide +kernel)
theorem k_sb {K : PySem.W.Frag} : PySem.W.kitOne K (.type "str") (.type "bool") = some false := kt _ _ (by decide +kernel)
theorem k_ss {K : PySem.W.Frag} : PySem.W.kitOne K (.type "str") (.type "str") = some true := kt _ _ (by decide +kernel)
theorem k_lb {K : PySem.W.Frag} : PySem.W.kitOne K (.type "list") (.type "bool") = some false := kt _ _ (by decide +kernel)
theorem k_ls {K : PySem.W.Frag} : PySem.W.kitOne K (.type "list") (.type "str") = some false := kt _ _ (by decide +kernel)
theorem k_li {K : PySem.W.Frag} : PySem.W.kitOne K (.type "list") (.type "int") = some false := kt _ _ (by decide +kernel)
theorem k_ld {K : PySem.W.Frag} : PySem.W.kitOne K (.type "list") (.type "dict") = some false := kt _ _ (by decide +kernel)
theorem k_lt {K : PySem.W.Frag} : PySem.W.kitOne K (.type "list") (.type "tuple") = some false := kt _ _ (by decide +kernel)
theorem k_ll {K : PySem.W.Frag} : PySem.W.kitOne K (.type "list") (.type "list") = some true := kt _ _ (by decide +kernel)
theorem k_tb {K : PySem.W.Frag} : PySem.W.kitOne K (.type "tuple") (.type "bool") = some false := kt _ _ (by decide +kernel)
theorem k_ts {K : PySem.W.Frag} : PySem.W.kitOne K (.type "tuple") (.type "str") = some false := kt _ _ (by decide +kernel)
theorem k_ti {K : PySem.W.Frag} : PySem.W.kitOne K (.type "tuple") (.type "int") = some false := kt _ _ (by decide +kernel)
theorem k_td {K : PySem.W.Frag} : PySem.W.kitOne K (.type "tuple") (.type "dict") = some false := kt _ _ (by decide +kernel)
theorem k_tt {K : PySem.W.Frag} : PySem.W.kitOne K (.type "tuple") (.type "tuple") = some true := kt _ _ (by decide +kernel)
theorem k_tl {K : PySem.W.Frag} : PySem.W.kitOne K (.type "tuple") (.type "list") = some false := kt _ _ (by decide +kernel)
theorem ka2 {K : PySem.W.Frag} {t c d : Value} {x y : Bool} (h1 : PySem.W.kitOne K t c = some x) (h2 : PySem.W.kitOne K t d = some y) : PySem.W.kitAny K t [c, d] = some (x || y) := by
  unfold PySem.W.kitAny
  rw [h1]
  cases x with
  | true => rfl
  | false =>
    show PySem.W.kitAny K t [d] = _
    unfold PySem.W.kitAny
    rw [h2]
    cases y <;> rfl
def spSame (K : PySem.W.Frag) (n : Nat) : Sp := fun vs H Q _ => ∃ (x y : V), vs = [x, y] ∧ Sm K H n x y ∧ ∀ (H' : Hp), Same H H' → Q (.bl true) H'
theorem Sm.eq {K : PySem.W.Frag} {H : Hp} {n : Nat} {x y : V} (e : x = y) (h : flt1 x = true) : Sm K H n x y := e ▸ Sm.flat h
theorem Sm.lst {K : PySem.W.Frag} {H : Hp} {n : Nat} {a b : Addr} {xs : List V} (ha : SqL K H a xs) (hb : SqL K H b xs) (hf : ∀ x ∈ xs, flt1 x = true) (hl : xs.length ≤ 100000) : Sm K H (n + 1) (.ref a) (.ref b) :=
  .inr ⟨a, b, xs, xs, rfl, rfl, .inl ⟨ha, hb⟩, rfl, hl, fun i u v hu hv => by
    rw [hu] at hv
    cases hv
    exact Sm.flat (hf u (List.mem_of_getElem? hu))⟩
theorem Sm.tup {K : PySem.W.Frag} {H : Hp} {n : Nat} {a b : Addr} {xs : List V} (ha : SqT K H a xs) (hb : SqT K H b xs) (hf : ∀ x ∈ xs, flt1 x = true) (hl : xs.length ≤ 100000) : Sm K H (n + 1) (.ref a) (.ref b) :=
  .inr ⟨a, b, xs, xs, rfl, rfl, .inr ⟨ha, hb⟩, rfl, hl, fun i u v hu hv => by
    rw [hu] at hv
    cases hv
    exact Sm.flat (hf u (List.mem_of_getElem? hu))⟩
theorem ix_sq {K : PySem.W.Frag} {H : Hp} {a : Addr} {xs : List V} {i : Int} {v : V} {Q : VK} (h : SqL K H a xs ∨ SqT K H a xs) (hi : atI xs i = some v) (q : Q v H) : rIx K (.ref a) (.int i) H Q := by
  rcases h with h | h
  · exact .inl ⟨a, xs, i, v, rfl, rfl, h, hi, q⟩
  · exact .inr (.inl ⟨a, xs, i, v, rfl, rfl, h, hi, q⟩)
/-- two lists, or two tuples, of the same data -/
def spSeq (K : PySem.W.Frag) (n : Nat) : Sp := fun vs H Q _ => ∃ (a b : Addr) (xs ys : List V), vs = [.ref a, .ref b] ∧ ((SqL K H a xs ∧ SqL K H b ys) ∨ (SqT K H a xs ∧ SqT K H b ys)) ∧ xs.length = ys.length ∧ xs.length ≤ 100000 ∧
  (∀ (i : Nat) (u v : V), xs[i]? = some u → ys[i]? = some v → Sm K H n u v) ∧ ∀ (H' : Hp), Same H H' → Q (.bl true) H'
/-- an empty set, as it is laid -/
abbrev eSet (w : World) : Obj := { cls := .type "set", dict := none, data := .set #[] 0 (.fresh 0 0 (!w.params.followText "set-order")) }
section
variable {P : Program} {w : World} {A : Around} {E : Value → Shared → Prop} {s : Shared}
/-- a set of the ints of a list, with its order -/
theorem set_of_list {l : Addr} {vs : Array Value} (ks : List Int) {Q : Value → Shared → Prop} (nh : A.handled = none) (isl : s.heap.IsList l vs) (hint : IntsAre vs.toList ks) (few : ks.length + 1 < scanBound)
    (fin : ∀ (g : Heap) (tk c : Nat), SetR w g s.heap.objs.size (fun j => decide (j ∈ ks)) c → c ≤ ks.length → (∀ b o, s.heap.get? b = some o → g.get? b = some o) → Q (.ref s.heap.objs.size) { s with heap := g, toks := tk }) :
    wpAny (model P w) A (call (.type "set") [.ref l]) Q E s := by
  have sz : vs.size = ks.length := by have := IntsAre.length hint; rw [Array.length_toList] at this; exact this
  obtain ⟨_, _, m1⟩ := F.called_set.mro
  have m2 := F.called_set.made
  have m3 := F.called_set.sub
  refine wpAny_call (codeAny_of_tree (?_ : wpAny _ _ (callAny (.type "set") _) _ _ _))
  refine wpAny_pure ⟨Code.quiet_builtin _ (by decide +kernel), codeAny_builtin F.entry_type_call (?_ : wpAny _ _ _ _ _ _)⟩
  rw [Around.under_plain (weight_type_call_type "set" [.ref l] []) rfl]
  have m4 := F.called_set.notType
  have m5 := F.called_set.canCreate
  have m6 := F.typeCall_set_1 (.ref l)
  repeat (any_goals (first | assumption | wp_step))
  refine codeAny_mono (code_set_led1 (.ref l) (E := E) (Q₁ := fun u t => u = .ref s.heap.objs.size ∧ t = { s with heap := s.heap.push (eSet w) }) ⟨rfl, rfl⟩) fun r t1 hr => ?_
  match r, hr with
  | .error _, hr => exact hr
  | .ok (.ret _), hr =>
    obtain ⟨rfl, rfl⟩ := hr
    have gS : (s.heap.push (eSet w)).get? s.heap.objs.size = some (eSet w) := Heap.get?_push_size _ rfl
    have tS : Shared.TypeIs { s with heap := s.heap.push (eSet w) } (.ref s.heap.objs.size) "set" := ⟨_, gS, rfl⟩
    have i1 := F.called_set.init.lookup
    have i2 := F.called_set.init.bind (.ref s.heap.objs.size)
    repeat (any_goals (first | assumption | wp_step))
    refine codeAny_mono (codeAny_call_builtin (R := wants (fun r t => r = .none ∧ ∃ g tk c, t = { s with heap := g, toks := tk } ∧ SetR w g s.heap.objs.size (fun j => decide (j ∈ ks)) c ∧ c ≤ ks.length ∧ ∀ b o, s.heap.get? b = some o → g.get? b = some o) E)
      F.called_set.init.plain F.entry_set_init (check_set_init_1 tS ?_)) fun r2 t2 hr2 => ?_
    · obtain ⟨⟨c1, c2, c3, c4⟩, ho, hc, nl, hd⟩ := isl
      simp only at hc hd
      subst hc hd
      have ho2 : (s.heap.push (eSet w)).get? l = some { cls := .type "list", dict := c2, data := .seq vs nl, slots := c4 } := Heap.get?_push_of_some _ ho
      have n1 := F.sub_list_set
      have n2 := F.sub_list_frozenset
      have n3 : (Value.type "list" == Value.type "dict") = false := by decide
      have li : (s.heap.push (eSet w)).IsList l vs := ⟨_, ho2, rfl, nl, rfl⟩
      unfold Builtin.«set.__init__» noKeywords Builtin.Frozenset.updateFrom
      generalize hPI : pyIter = PI
      wp_walk
      subst hPI
      refine wpAny_pyIter_list li (wpAny_bind (wpAny_runValue ?_))
      have lt : l < s.heap.objs.size := Heap.lt_size ho
      have ne1 : l ≠ (s.heap.push (eSet w)).objs.size := by rw [Heap.size_push]; exact Nat.ne_of_lt (Nat.lt_succ_of_lt lt)
      have ne2 : s.heap.objs.size ∉ [(s.heap.push (eSet w)).objs.size, l] := by
        rw [Heap.size_push]
        simp only [List.mem_cons, List.not_mem_nil, or_false, not_or]
        exact ⟨Nat.ne_of_lt (Nat.lt_succ_self _), (Nat.ne_of_lt lt).symm⟩
      refine set_update_ints ((Walks.list (by simp [nh]) _ l ne1 vs).toS) s.heap.objs.size ne2 ks sz few (fun i v hv => ?_) (vs.size - 0) 0 _ (by omega) (Nat.zero_le _) ⟨⟨_, Heap.get?_push_size _ rfl, rfl, rfl⟩, li.push _⟩ ?_ ?_
      · have hi : i < ks.length := by rw [← sz]; exact (Array.getElem?_eq_some_iff.mp hv).1
        obtain ⟨t, e⟩ := PyProof.Rows.IntsAre.int_at hint i v (by rw [Array.getElem?_toList]; exact hv)
        refine ⟨ks[i], t, List.getElem?_eq_getElem hi, ?_⟩
        rw [e, List.getD_eq_getElem?_getD, List.getElem?_eq_getElem hi]
        rfl
      · exact ⟨0, Nat.le_refl 0, setR_new_at (Heap.get?_push_of_some _ gS)⟩
      · rintro ⟨g, g2, d2, tk, o2⟩ c mv hc2 hR
        have q1 : g2 = s.gens := mv.gens
        have q2 : d2 = s.drawn := mv.drawn
        have q3 : o2 = s.os := mv.os
        subst q1 q2 q3
        change wpAny _ _ _ _ _ _
        refine wpAny_pure ?_
        change wpAny _ _ (ret .none) _ _ _
        rw [sz] at hc2
        refine wpAny_pure ⟨rfl, g, tk, c, rfl, hR, hc2, fun b o e => ?_⟩
        have b0 : b < s.heap.objs.size := Heap.lt_size e
        refine mv.heap b o ?_ (Heap.get?_push_of_some _ (Heap.get?_push_of_some _ e))
        rw [Heap.size_push]
        simp only [List.mem_cons, List.not_mem_nil, or_false, not_or]
        exact ⟨Nat.ne_of_lt b0, Nat.ne_of_lt (Nat.lt_succ_of_lt b0)⟩
    · match r2, hr2 with
      | .error _, hr2 => exact hr2
      | .ok (.ret _), hr2 =>
        obtain ⟨rfl, g, tk, c, rfl, hR, hc2, k⟩ := hr2
        repeat (any_goals (first | assumption | wp_step))
        exact fin g tk c hR hc2 k
end
/-- set(xs), xs a list of ints -/
def rSetL1 (K : PySem.W.Frag) (w : World) : List V → Hp → VK → Prop := fun xs H Q => ∃ (p : Addr) (ns : List Int), xs = [.ref p] ∧ SqL K H p (ns.map V.int) ∧ ns.length ≤ 1000 ∧
  ∀ (q : Addr) (c : Nat), H q = none → c ≤ ns.length → Q (.ref q) (upd H q (SetO w q (fun j => decide (j ∈ ns)) c))
theorem cr_set1 {X : Cx} (hc : X.calm = true) : CallR X (.type "set") (rSetL1 X.K X.w) := by
  intro pins s σ H xs us Q I r h
  obtain ⟨p, ns, rfl, hq, hl, q⟩ := h
  rw [Vals.ref1 r]
  obtain ⟨its, rv, pl, hz⟩ := I.list hq
  refine set_of_list ns (I.ok.hd hc) pl.isList (by simpa using intsAre_of rv) (by unfold scanBound; omega) fun g tk c R hcn k => ?_
  exact ⟨.ref s.heap.objs.size, upd H s.heap.objs.size (SetO X.w s.heap.objs.size (fun j => decide (j ∈ ns)) c), I.laid (t' := tk) k (Nat.le_refl _) (setO_new R), rfl, q _ c (I.hok.fresh (Nat.le_refl _)) hcn⟩

/-! the same data -/
/-- data that _law_same walks: at most n deep -/
def smD : Nat → D → Bool
  | _, .none => true
  | _, .bool _ => true
  | _, .int _ => true
  | _, .str z => PyData.strOk z
  | n + 1, .list ds => decide (ds.length ≤ 100000) && ds.all (smD n)
  | n + 1, .tuple ds => decide (ds.length ≤ 100000) && ds.all (smD n)
  | _, _ => false
section
variable {K : PySem.W.Frag}
theorem rep_sm {H : Hp} {A : Addr → Prop} : ∀ {n : Nat} {d : D} {v u : V}, Rep K H A d v → Rep K H A d u → smD n d = true → Sm K H n v u := by
  intro n
  induction n with
  | zero =>
    intro d v u h1 h2 hd
    cases h1 with
    | non => cases h2; exact Sm.flat rfl
    | bl b => cases h2; exact Sm.flat rfl
    | int i => cases h2; exact Sm.flat rfl
    | str z => cases h2; exact Sm.flat (show PyData.strOk z = true by simpa [smD] using hd)
    | lst _ _ _ => cases hd
    | tup _ _ => cases hd
    | dct _ _ _ => cases hd
  | succ n ih =>
    intro d v u h1 h2 hd
    have kids : ∀ {ds : List D} {xs ys : List V}, ds.all (smD n) = true → RepL K H A ds xs → RepL K H A ds ys → ∀ (i : Nat) (a b : V), xs[i]? = some a → ys[i]? = some b → Sm K H n a b := by
      intro ds xs ys hall r1 r2 i a b ha hb
      have hi : i < ds.length := by rw [r1.len]; exact (List.getElem?_eq_some_iff.mp ha).1
      obtain ⟨a', ha', ra⟩ := r1.get (List.getElem?_eq_getElem hi)
      obtain ⟨b', hb', rb⟩ := r2.get (List.getElem?_eq_getElem hi)
      rw [ha] at ha'; cases ha'
      rw [hb] at hb'; cases hb'
      exact ih ra rb (List.all_eq_true.mp hall _ (List.getElem_mem hi))
    cases h1 with
    | non => cases h2; exact Sm.flat rfl
    | bl b => cases h2; exact Sm.flat rfl
    | int i => cases h2; exact Sm.flat rfl
    | str z => cases h2; exact Sm.flat (show PyData.strOk z = true by simpa [smD] using hd)
    | lst ha na r =>
      cases h2 with
      | lst hb nb r' =>
        rw [smD, Bool.and_eq_true, decide_eq_true_eq] at hd
        exact .inr ⟨_, _, _, _, rfl, rfl, .inl ⟨SqL.of ha, SqL.of hb⟩, by rw [← r.len, ← r'.len], by rw [← r.len]; exact hd.1, kids hd.2 r r'⟩
    | tup ha r =>
      cases h2 with
      | tup hb r' =>
        rw [smD, Bool.and_eq_true, decide_eq_true_eq] at hd
        exact .inr ⟨_, _, _, _, rfl, rfl, .inr ⟨ha.sq, hb.sq⟩, by rw [← r.len, ← r'.len], by rw [← r.len]; exact hd.1, kids hd.2 r r'⟩
    | dct _ _ _ => cases hd
def sSame (n : Nat) : D → D → (D → Prop) → Prop := fun a b Q => a = b ∧ smD n b = true ∧ Q (.bool true)
theorem same_of {n : Nat} (vs : List V) (H : Hp) (Q : VK) (E : XK) (h : spD K (F2 (sSame n)) vs H Q E) : spSame K n vs H Q E := by
  obtain ⟨A, ds, Qd, dom, r, hq, k⟩ := h
  unfold F2 at hq
  split at hq
  · cases r with | cons r1 r2 =>
    cases r2 with | cons r2 r3 =>
    cases r3
    obtain ⟨rfl, hs, q⟩ := hq
    exact ⟨_, _, rfl, rep_sm r1 r2 hs, fun H' s => k _ _ _ q s (.bl true)⟩
  · exact hq.elim
theorem sz_sm : ∀ {n : Nat} {d : D} {w : Nat}, Sz d n w → w ≤ 100000 → smD n d = true := by
  have wt : ∀ ds : List D, ds.length ≤ PyData.weightAll ds ∧ ∀ d ∈ ds, PyData.weight d ≤ PyData.weightAll ds := by
    intro ds
    induction ds with
    | nil => exact ⟨Nat.le_refl _, fun _ h => nomatch h⟩
    | cons d r ih =>
      simp only [PyData.weightAll, List.length_cons]
      refine ⟨by omega, fun e he => ?_⟩
      rcases List.mem_cons.mp he with rfl | he
      · omega
      · have := ih.2 e he; omega
  have kids : ∀ {ds : List D} {n w : Nat}, PyData.canLayAll0 ds = true → PyData.intsShortAll 13 ds = true → PyData.showableAll ds = true → PyData.depthAll ds ≤ n → PyData.weightAll ds ≤ w → ∀ d ∈ ds, Sz d n w := by
    intro ds
    induction ds with
    | nil => intro n w _ _ _ _ _ d h; cases h
    | cons e r ih =>
      intro n w h1 h2 h3 h4 h5 d hd
      simp only [PyData.canLayAll0, PyData.intsShortAll, PyData.showableAll, Bool.and_eq_true, PyData.depthAll, PyData.weightAll] at h1 h2 h3 h4 h5
      rcases List.mem_cons.mp hd with rfl | hd
      · exact ⟨h1.1, h2.1, h3.1, by omega, by omega⟩
      · exact ih h1.2 h2.2 h3.2 (by omega) (by omega) d hd
  intro n
  induction n with
  | zero =>
    intro d w h hw
    cases d with
    | none => rfl
    | bool b => rfl
    | int i => rfl
    | str z => have := h.lay; simpa [smD, PyData.canLay0] using this
    | list ds => have := h.dep; simp only [PyData.depth] at this; omega
    | tuple ds => have := h.dep; simp only [PyData.depth] at this; omega
    | dict ds => have := h.lay; simp [PyData.canLay0] at this
  | succ n ih =>
    intro d w h hw
    cases d with
    | none => rfl
    | bool b => rfl
    | int i => rfl
    | str z => have := h.lay; simpa [smD, PyData.canLay0] using this
    | list ds =>
      obtain ⟨h1, h2, h3, h4, h5⟩ := h
      simp only [PyData.canLay0, PyData.intsShort, PyData.showable, PyData.depth, PyData.weight] at h1 h2 h3 h4 h5
      have := wt ds
      rw [smD, Bool.and_eq_true, decide_eq_true_eq]
      exact ⟨by omega, List.all_eq_true.mpr fun d hd => ih (kids h1 h2 h3 (n := n) (w := w) (by omega) h5 d hd) hw⟩
    | tuple ds =>
      obtain ⟨h1, h2, h3, h4, h5⟩ := h
      simp only [PyData.canLay0, PyData.intsShort, PyData.showable, PyData.depth, PyData.weight] at h1 h2 h3 h4 h5
      have := wt ds
      rw [smD, Bool.and_eq_true, decide_eq_true_eq]
      exact ⟨by omega, List.all_eq_true.mpr fun d hd => ih (kids h1 h2 h3 (n := n) (w := w) (by omega) h5 d hd) hw⟩
    | dict ds => have := h.lay; simp [PyData.canLay0] at this
/-! sorted(set(xs)), xs ints -/
def dSortSet (de : Ev → (D → Prop) → Prop) : Ev → (List D → Prop) → Prop := fun env Q => de env fun x => ∃ ns : List Int, x = .list (ns.map PyData.int) ∧ ns.length < 64 ∧ ∀ ms : List Int, ms.Pairwise (· < ·) → (∀ k : Int, k ∈ ms ↔ k ∈ ns) → ms.length ≤ ns.length → Q (ms.map PyData.int)
theorem ints_rep {H : Hp} {A : Addr → Prop} : ∀ {ns : List Int} {vs : List V}, RepL K H A (ns.map PyData.int) vs → vs = ns.map V.int
  | [], _, .nil => rfl
  | n :: ns, _, .cons h r => by
    cases h
    rw [ints_rep r]
    rfl
theorem rep_ints {H : Hp} {A : Addr → Prop} : ∀ ns : List Int, RepL K H A (ns.map PyData.int) (ns.map V.int)
  | [] => .nil
  | n :: ns => .cons (.int n) (rep_ints ns)
theorem rf_sortSet {w : World} {te : TE} {de : Ev → (D → Prop) → Prop} (h : RfB K te de) : RfF K (tCB (rSortedSet w) (tCons (tCB (rSetL1 K w) (tCons te tNil)) tNil)) (dSortSet de) := ⟨fun {A st ow σ H env Qd Q} R q k => h.run R q fun d v H1 ⟨ns, e, hl, q1⟩ s1 r1 => by
  subst e
  obtain ⟨a, xs, rfl, ha, rx⟩ := r1.lst
  obtain rfl := ints_rep rx
  refine ⟨a, ns, rfl, SqL.of ha, by omega, fun q0 c nq hc => ?_⟩
  refine ⟨q0, _, c, rfl, upd_same, by omega, fun ms p pw mem len np => ?_⟩
  have R1 := R.step s1
  have s2 : Same H1 (upd H1 q0 (SetO w q0 (fun j => decide (j ∈ ns)) c)) := same_upd nq
  have s3 : Same H1 (upd (upd H1 q0 (SetO w q0 (fun j => decide (j ∈ ns)) c)) p (.lst (ms.map V.int))) := fun b o e => same_upd np b o (s2 b o e)
  have np' : H1 p = none := by
    cases e : H1 p with
    | none => rfl
    | some o => rw [s2 _ _ e] at np; cases np
  exact k _ p _ _ (q1 ms pw (fun k => (mem k).trans decide_eq_true_iff) (by rw [len]; exact hc)) (s1.trans (.same R1.ls s3)) (s1.none np') upd_same (rep_ints ms)⟩
/-! sorted([(a, b), (c, d)]), ints -/
def isI (x : D) : Prop := ∃ i : Int, x = .int i
def dSort2 (da db dc dd : Ev → (D → Prop) → Prop) : Ev → (List D → Prop) → Prop := fun env Q => da env fun a => db env fun b => dc env fun c => dd env fun d => (isI a ∧ isI b ∧ isI c ∧ isI d) ∧ Q [.tuple [a, b], .tuple [c, d]] ∧ Q [.tuple [c, d], .tuple [a, b]]
theorem rf_sort2 {ta tb tc td : TE} {da db dc dd : Ev → (D → Prop) → Prop} (ha : RfE K ta da) (hb : RfE K tb db) (hc : RfE K tc dc) (hd : RfE K td dd) :
    RfF K (tCB (rSortedP K) (tCons (tLst (tCons (tTup (tCons ta (tCons tb tNil))) (tCons (tTup (tCons tc (tCons td tNil))) tNil))) tNil)) (dSort2 da db dc dd) := ⟨fun {A st ow σ H env Qd Q} R q k =>
  ha.run R q fun a v1 H1 q1 s1 r1 => hb.run (R.step s1) q1 fun b v2 H2 q2 s2 r2 => by
    have R2 := (R.step s1).step s2
    refine ⟨Nat.le_of_ble_eq_true rfl, fun p np => ?_⟩
    have sp : Stp st H2 (upd H2 p (.tup [v1, v2])) := R2.new np
    have R3 := R2.step sp
    refine hc.run R3 q2 fun c v3 H3 q3 s3 r3 => hd.run (R3.step s3) q3 fun d v4 H4 q4 s4 r4 => ?_
    obtain ⟨⟨⟨i1, rfl⟩, ⟨i2, rfl⟩, ⟨i3, rfl⟩, ⟨i4, rfl⟩⟩, qa, qb⟩ := q4
    cases r1; cases r2; cases r3; cases r4
    have R4 := (R3.step s3).step s4
    have nex : p ∉ exs st := fun z => R2.newA np (R2.exA p z)
    have hp4 : H4 p = some (.tup [.int i1, .int i2]) := s4.k p _ (s3.k p _ upd_same nex) nex
    refine ⟨Nat.le_of_ble_eq_true rfl, fun p2 np2 => ⟨Nat.le_of_ble_eq_true rfl, fun l nl => ?_⟩⟩
    have sm1 : Same H4 (upd H4 p2 (.tup [.int i3, .int i4])) := same_upd np2
    have sm2 : Same H4 (upd (upd H4 p2 (.tup [.int i3, .int i4])) l (.lst [.ref p, .ref p2])) := fun b o e => same_upd nl b o (sm1 b o e)
    have hl1 : (upd (upd H4 p2 (.tup [.int i3, .int i4])) l (.lst [.ref p, .ref p2])) p = some (.tup [.int i1, .int i2]) := sm2 _ _ hp4
    have hl2 : (upd (upd H4 p2 (.tup [.int i3, .int i4])) l (.lst [.ref p, .ref p2])) p2 = some (.tup [.int i3, .int i4]) := same_upd nl _ _ upd_same
    have hl3 : (upd (upd H4 p2 (.tup [.int i3, .int i4])) l (.lst [.ref p, .ref p2])) l = some (.lst [.ref p, .ref p2]) := upd_same
    generalize upd (upd H4 p2 (.tup [.int i3, .int i4])) l (.lst [.ref p, .ref p2]) = H5 at sm2 hl1 hl2 hl3
    refine ⟨l, _, rfl, SqL.of hl3, fun x hx => ?_, fun ys q0 pm nq => ?_⟩
    · simp only [List.mem_cons, List.not_mem_nil, or_false] at hx
      rcases hx with rfl | rfl
      · exact ⟨_, _, _, rfl, hl1⟩
      · exact ⟨_, _, _, rfl, hl2⟩
    have sAll : Stp st H H4 := ((s1.trans s2).trans sp).trans (s3.trans s4)
    have s45 : Stp st H4 H5 := .same R4.ls sm2
    have R5 := R4.step s45
    have mp : ¬ Mo A ow p := R2.newM np
    have mp2 : ¬ Mo A ow p2 := R4.newM np2
    have snew : Same H5 (upd H5 q0 (.lst ys)) := same_upd nq
    have e0 : H q0 = none := (sAll.trans s45).none nq
    have neq : ∀ {c : Addr} {o : HO}, H5 c = some o → c ≠ q0 := fun e z => by rw [z, nq] at e; cases e
    have t1 : Rep K (upd H5 q0 (.lst ys)) (fun b => Mo A ow b ∨ b = q0) (.tuple [.int i1, .int i2]) (.ref p) := .tup (.inl ⟨.inl (snew _ _ hl1), fun z => z.elim mp (neq hl1)⟩) (.cons (.int _) (.cons (.int _) .nil))
    have t2 : Rep K (upd H5 q0 (.lst ys)) (fun b => Mo A ow b ∨ b = q0) (.tuple [.int i3, .int i4]) (.ref p2) := .tup (.inl ⟨.inl (snew _ _ hl2), fun z => z.elim mp2 (neq hl2)⟩) (.cons (.int _) (.cons (.int _) .nil))
    have st5 : Stp st H (upd H5 q0 (.lst ys)) := (sAll.trans s45).trans (R5.new nq)
    have two : ys = [.ref p, .ref p2] ∨ ys = [.ref p2, .ref p] := by
      match ys, pm.length_eq with
      | [y1, y2], _ =>
        by_cases e : y1 = .ref p
        · subst e
          have := (List.perm_cons _).mp pm
          rw [List.perm_singleton.mp this]
          exact .inl rfl
        · have h1 : y1 = .ref p2 := by
            have := pm.mem_iff.mp (List.mem_cons_self (a := y1) (l := [y2]))
            simp only [List.mem_cons, List.not_mem_nil, or_false] at this
            exact this.resolve_left e
          subst h1
          have := (List.perm_cons _).mp (pm.trans (List.Perm.swap _ _ _))
          rw [List.perm_singleton.mp this]
          exact .inr rfl
    rcases two with rfl | rfl
    · exact k _ q0 _ _ qa st5 e0 upd_same (.cons t1 (.cons t2 .nil))
    · exact k _ q0 _ _ qb st5 e0 upd_same (.cons t2 (.cons t1 .nil))⟩
end
def q_dSortSet := fun de env Q => propext (Iff.of_eq (dSortSet.eq_1 de env Q))
def q_dSort2 := fun a b c d env Q => propext (Iff.of_eq (dSort2.eq_1 a b c d env Q))
theorem same_e (n : Nat) (a b : D) (Q : D → Prop) : sSame n a b Q = (a = b ∧ smD n b = true ∧ Q (.bool true)) := rfl
def q_sSame := fun n a b Q => propext (Iff.of_eq (same_e n a b Q))
/-! texts -/
section
variable {K : PySem.W.Frag}
def oStr : List D → (D → Prop) → Prop := fun xs Q => match xs with | [.int i] => i.natAbs.log2 < 1920 ∧ Q (.str (toString i)) | _ => False
theorem ro_str : RfVL K (fun xs H Q => ∃ i, xs = [.int i] ∧ i.natAbs.log2 < 1920 ∧ Q (.str (toString i)) H) oStr := ⟨fun R h q k => by
  unfold oStr at q
  split at q
  · obtain ⟨v, rfl, z⟩ := h.one
    cases z.int
    exact ⟨_, rfl, q.1, k _ _ _ q.2 (stp_refl R) (.str _)⟩
  · exact q.elim⟩
def oIntS : List D → (D → Prop) → Prop := fun xs Q => match xs with | [.str a] => ∃ n, PySem.intText? a = some n ∧ a.length ≤ 640 ∧ Q (.int n) | _ => False
theorem ro_intS : RfVL K (fun xs H Q => ∃ a n, xs = [.str a] ∧ PySem.intText? a = some n ∧ a.length ≤ 640 ∧ Q (.int n) H) oIntS := ⟨fun R h q k => by
  unfold oIntS at q
  split at q
  · obtain ⟨v, rfl, z⟩ := h.one
    cases z.str
    obtain ⟨n, h1, h2, q⟩ := q
    exact ⟨_, n, rfl, h1, h2, k _ _ _ q (stp_refl R) (.int _)⟩
  · exact q.elim⟩
def oOrd : List D → (D → Prop) → Prop := fun xs Q => match xs with | [.str x] => x.length = 1 ∧ Q (.int (x.cps.getD 0 0 : Nat)) | _ => False
theorem ro_ord : RfVL K (fun xs H Q => ∃ x, xs = [.str x] ∧ x.length = 1 ∧ Q (.int (x.cps.getD 0 0 : Nat)) H) oOrd := ⟨fun R h q k => by
  unfold oOrd at q
  split at q
  · obtain ⟨v, rfl, z⟩ := h.one
    cases z.str
    exact ⟨_, rfl, q.1, k _ _ _ q.2 (stp_refl R) (.int _)⟩
  · exact q.elim⟩
/-- text * int -/
def oMulS : D → D → (D → Prop) → Prop := fun x y Q => match x, y with | .str z, .int i => z.length ≤ 16 ∧ (-(2 ^ 63) ≤ i ∧ i ≤ 1048576) ∧ Q (.str (Txt.mul z i)) | _, _ => False
def rMulS : R2 := fun x y H Q => ∃ z i, x = .str z ∧ y = .int i ∧ z.length ≤ 16 ∧ (-(2 ^ 63) ≤ i ∧ i ≤ 1048576) ∧ Q (.str (Txt.mul z i)) H
theorem op_mulS {X : Cx} : OpR X (binaryOp .Mult) rMulS := by
  intro pins s σ H x y v u Q I rx ry h
  obtain ⟨z, i, rfl, rfl, h1, h2, q⟩ := h
  obtain ⟨t, rfl⟩ := rx
  obtain ⟨t2, rfl⟩ := ry
  exact PySem.W.KXi.mul rfl h1 h2.1 (by have := h2.2; omega) fun t' k _ _ => ⟨.str (Txt.mul z i), H, I.tok _, ⟨_, rfl⟩, q⟩
theorem rv_mulS : RfV2 K rMulS oMulS := ⟨fun R h1 h2 q k => by
  unfold oMulS at q
  split at q
  · cases h1.str
    cases h2.int
    exact ⟨_, _, rfl, rfl, q.1, q.2.1, k _ _ _ q.2.2 (stp_refl R) (.str _)⟩
  · exact q.elim⟩
/-! methods of texts -/
def dM0 (op : Str → (D → Prop) → Prop) (de : Ev → (D → Prop) → Prop) : Ev → (D → Prop) → Prop := fun env Q => de env fun x => match x with | .str a => op a Q | _ => False
def dM1 (op : Str → D → (D → Prop) → Prop) (de da : Ev → (D → Prop) → Prop) : Ev → (D → Prop) → Prop := fun env Q => de env fun x => match x with | .str a => da env fun y => op a y Q | _ => False
def sLower (a : Str) (Q : D → Prop) : Prop := a.length ≤ 5592405 ∧ Q (.str (Txt.lower a))
def sUpper (a : Str) (Q : D → Prop) : Prop := a.length ≤ 5592405 ∧ Q (.str (Txt.upper a))
theorem re_lower {to : TE} {de : Ev → (D → Prop) → Prop} (h : RfE K to de) : RfE K (tM0 (fun x xs H Q => ∃ a, x = .str a ∧ xs = [] ∧ a.length ≤ 5592405 ∧ Q (.str (Txt.lower a)) H) to) (dM0 sLower de) := ⟨fun R q k => h.run R q fun d v H' q' s r => by
  split at q'
  · cases r
    exact ⟨⟨_, rfl⟩, _, rfl, rfl, q'.1, k _ _ _ q'.2 s (.str _)⟩
  · exact q'.elim⟩
theorem re_upper {to : TE} {de : Ev → (D → Prop) → Prop} (h : RfE K to de) : RfE K (tM0 (fun x xs H Q => ∃ a, x = .str a ∧ xs = [] ∧ a.length ≤ 5592405 ∧ Q (.str (Txt.upper a)) H) to) (dM0 sUpper de) := ⟨fun R q k => h.run R q fun d v H' q' s r => by
  split at q'
  · cases r
    exact ⟨⟨_, rfl⟩, _, rfl, rfl, q'.1, k _ _ _ q'.2 s (.str _)⟩
  · exact q'.elim⟩
def sStarts (a : Str) (y : D) (Q : D → Prop) : Prop := match y with | .str b => Q (.bool (Txt.startswith a b)) | _ => False
def sEnds (a : Str) (y : D) (Q : D → Prop) : Prop := match y with | .str b => Q (.bool (Txt.endswith a b)) | _ => False
theorem re_starts {to te : TE} {de da : Ev → (D → Prop) → Prop} (h : RfE K to de) (h2 : RfE K te da) : RfE K (tM1 (fun x xs H Q => ∃ a b, x = .str a ∧ xs = [.str b] ∧ Q (.bl (Txt.startswith a b)) H) to te) (dM1 sStarts de da) := ⟨fun R q k => h.run R q fun d v H' q' s r => by
  split at q'
  · cases r
    refine ⟨⟨_, rfl⟩, h2.run (R.step s) q' fun e u H2 q2 s2 r2 => ?_⟩
    unfold sStarts at q2
    split at q2
    · cases r2
      exact ⟨_, _, rfl, rfl, k _ _ _ q2 (s.trans s2) (.bl _)⟩
    · exact q2.elim
  · exact q'.elim⟩
theorem re_ends {to te : TE} {de da : Ev → (D → Prop) → Prop} (h : RfE K to de) (h2 : RfE K te da) : RfE K (tM1 (fun x xs H Q => ∃ a b, x = .str a ∧ xs = [.str b] ∧ Q (.bl (Txt.endswith a b)) H) to te) (dM1 sEnds de da) := ⟨fun R q k => h.run R q fun d v H' q' s r => by
  split at q'
  · cases r
    refine ⟨⟨_, rfl⟩, h2.run (R.step s) q' fun e u H2 q2 s2 r2 => ?_⟩
    unfold sEnds at q2
    split at q2
    · cases r2
      exact ⟨_, _, rfl, rfl, k _ _ _ q2 (s.trans s2) (.bl _)⟩
    · exact q2.elim
  · exact q'.elim⟩
theorem rep_strs {H : Hp} {A : Addr → Prop} : ∀ ys : List Str, RepL K H A (ys.map PyData.str) (ys.map V.str)
  | [] => .nil
  | n :: ns => .cons (.str n) (rep_strs ns)
theorem strs_rep {H : Hp} {A : Addr → Prop} : ∀ {ns : List Str} {vs : List V}, RepL K H A (ns.map PyData.str) vs → vs = ns.map V.str
  | [], _, .nil => rfl
  | n :: ns, _, .cons h r => by
    cases h
    rw [strs_rep r]
    rfl
def dSplit (de da : Ev → (D → Prop) → Prop) : Ev → (List D → Prop) → Prop := fun env Q => de env fun x => match x with
  | .str a => da env fun y => (match y with | .str b => (b.length == 0) = false ∧ a.length + 2 ≤ 16777216 ∧ Q ((Txt.split a b).map PyData.str) | _ => False)
  | _ => False
theorem rf_split {to te : TE} {de da : Ev → (D → Prop) → Prop} (h : RfE K to de) (h2 : RfE K te da) :
    RfF K (tM1 (fun x xs H Q => ∃ a b, x = .str a ∧ xs = [.str b] ∧ (b.length == 0) = false ∧ a.length + 2 ≤ sizeLine ∧ rNewStrs (Txt.split a b) H Q) to te) (dSplit de da) := ⟨fun R q k => h.run R q fun d v H' q' s r => by
  split at q'
  · cases r
    refine ⟨⟨_, rfl⟩, h2.run (R.step s) q' fun e u H2 q2 s2 r2 => ?_⟩
    split at q2
    · cases r2
      refine ⟨_, _, rfl, rfl, q2.1, by rw [sizeLine_eq]; exact q2.2.1, fun p np => ?_⟩
      have R2 := (R.step s).step s2
      exact k _ p _ _ q2.2.2 ((s.trans s2).trans (R2.new np)) ((s.trans s2).none np) upd_same (rep_strs _)
    · exact q2.elim
  · exact q'.elim⟩
def dJoin (de da : Ev → (D → Prop) → Prop) : Ev → (D → Prop) → Prop := fun env Q => de env fun x => match x with
  | .str a => da env fun y => ∃ ys : List Str, seqOf y = some (ys.map PyData.str) ∧ (ys.map (·.length)).sum + ys.length * a.length ≤ 16777216 ∧ Q (.str (Txt.join a ys))
  | _ => False
theorem re_join {to te : TE} {de da : Ev → (D → Prop) → Prop} (h : RfE K to de) (h2 : RfB K te da) :
    RfE K (tM1 (fun x xs H Q => ∃ a p, ∃ ys : List Str, x = .str a ∧ xs = [.ref p] ∧ (SqL K H p (ys.map V.str) ∨ SqT K H p (ys.map V.str)) ∧ (ys.map (·.length)).sum + ys.length * a.length ≤ 16777216 ∧ Q (.str (Txt.join a ys)) H) to te) (dJoin de da) := ⟨fun R q k => h.run R q fun d v H' q' s r => by
  split at q'
  · cases r
    refine ⟨⟨_, rfl⟩, h2.run (R.step s) q' fun e u H2 q2 s2 r2 => ?_⟩
    obtain ⟨ys, h1, h3, q2⟩ := q2
    obtain ⟨p, xs, rfl, hs, rx⟩ := r2.seq h1
    obtain rfl := strs_rep rx
    exact ⟨_, p, ys, rfl, rfl, hs, h3, k _ _ _ q2 (s.trans s2) (.str _)⟩
  · exact q'.elim⟩
/-! f-strings -/
def dFmt (de : Ev → (D → Prop) → Prop) : Ev → (D → Prop) → Prop := fun env Q => de env fun x => match x with
  | .str y => y.length ≤ 16777216 ∧ Q (.str y)
  | .int i => i.natAbs.log2 < 1920 ∧ Q (.str (toString i))
  | _ => False
theorem re_fmt {te : TE} {de : Ev → (D → Prop) → Prop} (h : RfE K te de) : RfE K (tFmt te) (dFmt de) := ⟨fun R q k => h.run R q fun d v H' q' s r => by
  split at q'
  · cases r
    exact .inl ⟨_, rfl, by rw [sizeLine_eq]; exact q'.1, k _ _ _ q'.2 s (.str _)⟩
  · cases r
    exact .inr ⟨_, rfl, q'.1, k _ _ _ q'.2 s (.str _)⟩
  · exact q'.elim⟩
structure RfJ (K : PySem.W.Frag) (ts : List TE) (dj : Str → Ev → (Str → Prop) → Prop) : Prop where
  run : ∀ {A : Addr → Prop} {st : Option (Addr × Addr)} {ow : Nat → Option Addr} {σ : L2.St} {H : Hp} {env : Ev} {acc : Str} {Qd : Str → Prop} {Q : Str → Hp → Prop},
  RE K A st ow σ H env → dj acc env Qd → (∀ z H', Qd z → Stp st H H' → Q z H') → tJs ts acc σ H Q
def dJn : Str → Ev → (Str → Prop) → Prop := fun acc _ Q => Q acc
def dJc (de : Ev → (D → Prop) → Prop) (dj : Str → Ev → (Str → Prop) → Prop) : Str → Ev → (Str → Prop) → Prop := fun acc env Q => de env fun x => match x with
  | .str y => (acc ++ y).length ≤ 16777216 ∧ dj (acc ++ y) env Q
  | _ => False
theorem rj_nil : RfJ K [] dJn := ⟨fun R q k => k _ _ q (stp_refl R)⟩
theorem rj_cons {t : TE} {ts : List TE} {de : Ev → (D → Prop) → Prop} {dj : Str → Ev → (Str → Prop) → Prop} (h : RfE K t de) (hs : RfJ K ts dj) : RfJ K (t :: ts) (dJc de dj) := ⟨fun R q k => h.run R q fun d v H' q' s r => by
  split at q'
  · cases r
    exact ⟨_, rfl, by rw [sizeLine_eq]; exact q'.1, hs.run (R.step s) q'.2 fun z H2 q2 s2 => k z H2 q2 (s.trans s2)⟩
  · exact q'.elim⟩
def dFs (dj : Str → Ev → (Str → Prop) → Prop) : Ev → (D → Prop) → Prop := fun env Q => dj Str.empty env fun z => Q (.str z)
theorem re_fs {ts : List TE} {dj : Str → Ev → (Str → Prop) → Prop} (h : RfJ K ts dj) : RfE K (fun σ H Q => tJs ts Str.empty σ H fun out H1 => Q (.str out) H1) (dFs dj) := ⟨fun R q k => h.run R q fun z H' q' s => k _ _ _ q' s (.str _)⟩
/-! dicts that are read -/
theorem RepB.dct {H : Hp} {A M : Addr → Prop} {v : V} {kvs : List (D × D)} (h : RepB K H A M (.dict kvs) v) : ∃ a us, v = .ref a ∧ H a = some (.dK us) ∧ RepK K H M kvs us := by
  cases h with
  | r h => cases h with | dct h n r => exact ⟨_, _, rfl, h, r⟩
  | k h n r => exact ⟨_, _, rfl, h, r⟩
def dDg (dd dk : Ev → (D → Prop) → Prop) : Ev → (D → Prop) → Prop := fun env Q => dd env fun x => dk env fun y => match x with
  | .dict kvs => ∃ q, keyOf y = some q ∧ ∃ d, lookD kvs q = some d ∧ Q d
  | _ => False
theorem key_v {H : Hp} {A : Addr → Prop} {d : D} {v : V} {q : Key} (h : Rep K H A d v) (e : keyOf d = some q) : v = kV q := by
  have := keyD_of e
  cases this <;> cases h <;> rfl
theorem re_dg {td ty : TE} {dd dk : Ev → (D → Prop) → Prop} (h : RfB K td dd) (h2 : RfE K ty dk) : RfE K (tDGet td ty) (dDg dd dk) := ⟨fun R q k => h.run R q fun d v H1 q1 s1 r1 => h2.run (R.step s1) q1 fun y u H2 q2 s2 r2 => by
  split at q2
  · obtain ⟨key, e, d', hd, q2⟩ := q2
    obtain ⟨a, us, rfl, ha, rk⟩ := ((R.step s1).stepB s2 r1).dct
    obtain ⟨v', hv, rv⟩ := (rk.look key).1 d' hd
    obtain rfl := key_v r2 e
    exact ⟨a, v', rfl, hv ▸ DGet.k ha, k _ _ _ q2 (s1.trans s2) rv⟩
  · exact q2.elim⟩
def dDin (neg : Bool) (dk dd : Ev → (D → Prop) → Prop) : Ev → (D → Prop) → Prop := fun env Q => dk env fun y => dd env fun x => match x with
  | .dict kvs => ∃ q, keyOf y = some q ∧ Q (.bool (if neg then !(lookD kvs q).isSome else (lookD kvs q).isSome))
  | _ => False
theorem look_some {H : Hp} {M : Addr → Prop} {kvs : List (D × D)} {us : List (Key × V)} (r : RepK K H M kvs us) (q : Key) : (valV us q).isSome = (lookD kvs q).isSome := by
  obtain ⟨h1, h2⟩ := r.look q
  cases e : lookD kvs q with
  | none => rw [h2 e]; rfl
  | some d =>
    obtain ⟨v, hv, _⟩ := h1 d e
    rw [hv]
    rfl
theorem re_din {td ty : TE} {dd dk : Ev → (D → Prop) → Prop} (h2 : RfE K ty dk) (h : RfB K td dd) : RfE K (tDIn ty td) (dDin false dk dd) := ⟨fun R q k => h2.run R q fun y u H1 q1 s1 r1 => h.run (R.step s1) q1 fun d v H2 q2 s2 r2 => by
  split at q2
  · obtain ⟨key, e, q2⟩ := q2
    obtain ⟨a, us, rfl, ha, rk⟩ := r2.dct
    obtain rfl := key_v r1 e
    exact ⟨a, _, rfl, DGet.k ha, by rw [look_some rk]; exact k _ _ _ q2 (s1.trans s2) (.bl _)⟩
  · exact q2.elim⟩
theorem re_dnin {td ty : TE} {dd dk : Ev → (D → Prop) → Prop} (h2 : RfE K ty dk) (h : RfB K td dd) : RfE K (tDNotIn ty td) (dDin true dk dd) := ⟨fun R q k => h2.run R q fun y u H1 q1 s1 r1 => h.run (R.step s1) q1 fun d v H2 q2 s2 r2 => by
  split at q2
  · obtain ⟨key, e, q2⟩ := q2
    obtain ⟨a, us, rfl, ha, rk⟩ := r2.dct
    obtain rfl := key_v r1 e
    exact ⟨a, _, rfl, DGet.k ha, by rw [look_some rk]; exact k _ _ _ q2 (s1.trans s2) (.bl _)⟩
  · exact q2.elim⟩
def dDg2 (dd dk dx : Ev → (D → Prop) → Prop) : Ev → (D → Prop) → Prop := fun env Q => dd env fun x => dk env fun y => dx env fun z => match x with
  | .dict kvs => ∃ q, keyOf y = some q ∧ Q ((lookD kvs q).getD z)
  | _ => False
end
section
variable {K : PySem.W.Frag}
def dDgx (dd dk dx : Ev → (D → Prop) → Prop) : Ev → (D → Prop) → Prop := fun env Q => dd env fun x => match x with
  | .dict kvs => dk env fun y => dx env fun z => ∃ q, keyOf y = some q ∧ Q ((lookD kvs q).getD z)
  | _ => False
theorem re_dgx {td ty tx : TE} {dd dk dx : Ev → (D → Prop) → Prop} (h : RfB K td dd) (h2 : RfE K ty dk) (h3 : RfE K tx dx) : RfE K (tDGet2 td ty tx) (dDgx dd dk dx) := ⟨fun R q k => h.run R q fun d v H1 q1 s1 r1 => by
  split at q1
  · obtain ⟨a, us, rfl, ha, rk⟩ := _root_.id r1.dct
    refine ⟨a, rfl, .inl ⟨_, .inl ha⟩, h2.run (R.step s1) q1 fun y u H2 q2 s2 r2 => h3.run ((R.step s1).step s2) q2 fun z u3 H3 q3 s3 r3 => ?_⟩
    obtain ⟨key, e, q3⟩ := q3
    have R3 := ((R.step s1).step s2)
    obtain ⟨a', us', e', ha', rk'⟩ := (R3.stepB s3 ((R.step s1).stepB s2 r1)).dct
    cases e'
    obtain rfl := key_v r2 e
    refine ⟨_, DGet.k ha', ?_⟩
    obtain ⟨g1, g2⟩ := rk'.look key
    cases e2 : lookD _ key with
    | none =>
      rw [g2 e2]
      rw [e2] at q3
      exact k _ _ _ q3 (s1.trans (s2.trans s3)) r3
    | some d' =>
      obtain ⟨v', hv, rv⟩ := g1 d' e2
      rw [hv]
      rw [e2] at q3
      exact k _ _ _ q3 (s1.trans (s2.trans s3)) rv
  · exact q1.elim⟩
/-- a written dict of the top whose values are tuples of scalars -/
theorem re_kdT {w : World} {a : Addr} {tb : TE} {db : Ev → (D → Prop) → Prop} (tab : List (Str × D)) (ht : ∀ p ∈ tab, ∃ b vs ds, KDct K w a p.1 (.ref b) ∧ KTup K b vs ∧ Paired Sc ds vs ∧ p.2 = .tuple ds) (hb : RfB K tb db) : RfE K (tOp (rIxD K w) (tC (.ref a)) tb) (dKd tab db) := ⟨fun R q k =>
  hb.run R q fun y u H1 q1 s1 r1 => by
    split at q1
    · rename_i z
      cases r1.str
      split at q1
      · rename_i d e
        obtain ⟨b, vs, ds, h1, h2, h3, rfl⟩ := ht _ (look_mem e)
        exact ⟨a, z, _, rfl, rfl, h1, k _ _ H1 q1 s1 (.tup (.inr h2) (sc_all h3))⟩
      · exact q1.elim
    · exact q1.elim⟩
end
def q_oStr := fun a0 a1 => propext (Iff.of_eq (@oStr.eq_1 a0 a1))
def q_oIntS := fun a0 a1 => propext (Iff.of_eq (@oIntS.eq_1 a0 a1))
def q_oOrd := fun a0 a1 => propext (Iff.of_eq (@oOrd.eq_1 a0 a1))
def q_oMulS := fun a0 a1 a2 => propext (Iff.of_eq (@oMulS.eq_1 a0 a1 a2))
def q_dM0 := fun a0 a1 a2 a3 => propext (Iff.of_eq (@dM0.eq_1 a0 a1 a2 a3))
def q_dM1 := fun a0 a1 a2 a3 a4 => propext (Iff.of_eq (@dM1.eq_1 a0 a1 a2 a3 a4))
def q_sLower := fun a0 a1 => propext (Iff.of_eq (@sLower.eq_1 a0 a1))
def q_sUpper := fun a0 a1 => propext (Iff.of_eq (@sUpper.eq_1 a0 a1))
def q_sStarts := fun a0 a1 a2 => propext (Iff.of_eq (@sStarts.eq_1 a0 a1 a2))
def q_sEnds := fun a0 a1 a2 => propext (Iff.of_eq (@sEnds.eq_1 a0 a1 a2))
def q_dSplit := fun a0 a1 a2 a3 => propext (Iff.of_eq (@dSplit.eq_1 a0 a1 a2 a3))
def q_dJoin := fun a0 a1 a2 a3 => propext (Iff.of_eq (@dJoin.eq_1 a0 a1 a2 a3))
def q_dFmt := fun a0 a1 a2 => propext (Iff.of_eq (@dFmt.eq_1 a0 a1 a2))
def q_dJn := fun a0 a1 a2 => propext (Iff.of_eq (@dJn.eq_1 a0 a1 a2))
def q_dJc := fun a0 a1 a2 a3 a4 => propext (Iff.of_eq (@dJc.eq_1 a0 a1 a2 a3 a4))
def q_dFs := fun a0 a1 a2 => propext (Iff.of_eq (@dFs.eq_1 a0 a1 a2))
def q_dDg := fun a0 a1 a2 a3 => propext (Iff.of_eq (@dDg.eq_1 a0 a1 a2 a3))
def q_dDin := fun a0 a1 a2 a3 a4 => propext (Iff.of_eq (@dDin.eq_1 a0 a1 a2 a3 a4))
def q_dDgx := fun a0 a1 a2 a3 a4 => propext (Iff.of_eq (@dDgx.eq_1 a0 a1 a2 a3 a4))
/-! two names at once, both owning a new list -/
section
variable {K : PySem.W.Frag}
def dParOO (i j : Nat) (df df2 : Ev → (List D → Prop) → Prop) : DS := fun Ed env => i < env.length ∧ j < env.length ∧ df env fun ds => df2 env fun es => Ed.nx (eset (eset env i (some (.own ds))) j (some (.own es)))
theorem rs_parOO (i j : Nat) {ta tb : TE} {df df2 : Ev → (List D → Prop) → Prop} (h : RfF K ta df) (hb : RfF K tb df2) : RfS K (tPar i j (tCons ta (tCons tb tNil))) (dParOO i j df df2) := ⟨fun {A st H0 ow σ H env Ed E} B ⟨hi, hj, q⟩ k =>
  h.run B.r q fun ds L vs H1 q1 s1 n e r => by
    have SH := B.r.shut s1 n e
    have t1 := own_to B.r s1 i n
    have sub : ∀ b, Mo A (owPut ow i L) b → Mo (fun b => A b ∨ b = L) ow b := fun b z => (owPut_sub z).elim (fun y => y.elim (fun y => .inl (.inl y)) .inr) fun y => .inl (.inr y)
    have B1 : BE K A st H0 (owPut ow i L) (σ.set i (some (.ref L))) H1 (eset env i (some (.own ds))) :=
      ⟨B.r.own s1 i n e (en := .own ds) ⟨L, vs, by unfold owPut; rw [if_pos rfl], rfl, e, RepL.to (to_less fun b z => (owPut_sub z).imp id id) r⟩ (.inl ⟨ds, rfl⟩) hi, B.kp.trans s1.k, owPut_fr B n⟩
    refine hb.run SH q1 fun es L2 vs2 H2 q2 s2 n2 e2 r2 => ?_
    have t2 := own_to B1.r s2 j n2
    refine ⟨_, _, rfl, k.nx _ _ _ _ q2 ⟨B1.r.own s2 j n2 e2 (en := .own es) ⟨L2, vs2, by unfold owPut; rw [if_pos rfl], rfl, e2, RepL.to (to_less fun b z => (owPut_sub z).imp (sub b) id) r2⟩ (.inl ⟨es, rfl⟩) (by unfold eset; rw [List.length_set]; exact hj), B1.kp.trans s2.k, owPut_fr B1 n2⟩ (t1.trans t2)⟩⟩
end
/-! three names at once -/
section
variable {K : PySem.W.Frag}
def dPar3 (i j l : Nat) (da : Ev → (List D → Prop) → Prop) : DS := fun Ed env => da env fun xs => match xs with
  | [x, y, z] => Ed.nx (eset (eset (eset env i (some (.d x))) j (some (.d y))) l (some (.d z)))
  | _ => False
theorem rs_par3 {n : Nat} (i j l : Nat) {t : TA} {da : Ev → (List D → Prop) → Prop} (h : RfN K n t da) : RfS K (tPar3 i j l t) (dPar3 i j l da) := ⟨fun {A st H0 ow σ H env Ed E} B q k => h.run B.r q fun ds vs H1 q1 _ s1 r1 => by
  split at q1
  · cases r1 with | cons h1 r1 => cases r1 with | cons h2 r2 => cases r2 with | cons h3 r3 =>
    cases r3
    have B1 := B.step s1
    have B2 := B1.put i h1
    have t2 := to_del H1 A ow i
    have B3 := B2.put j (Rep.to t2 h2)
    have t3 := to_del H1 A (owDel ow i) j
    have B4 := B3.put l (Rep.to (t2.trans t3) h3)
    exact ⟨_, _, _, rfl, k.nx _ _ _ _ q1 B4 ((((B.r.toS s1).trans t2).trans t3).trans (to_del _ _ _ _))⟩
  · exact q1.elim⟩
end
/-! in a list, for data of any depth -/
section
variable {K : PySem.W.Frag}
theorem Room.u65 {k : Nat} {A : Around} (r : Room k A) : A.units + 65 < cLine := by have := r.un; omega
def oInDp (neg : Bool) : D → D → (D → Prop) → Prop := fun x y Q => match y with
  | .list ds => okD x = true ∧ okD (.list ds) = true ∧ Q (.bool (if neg then !inD x ds else inD x ds))
  | _ => False
theorem rv_inDp : RfV2 K (rInD K) (oInDp false) := ⟨fun R h1 h2 q k => by
  unfold oInDp at q
  split at q
  · exact ⟨_, _, h1.dp (okD_lay q.1), h2.dp (okD_lay q.2.1), q.1, q.2.1, k _ _ _ q.2.2 (stp_refl R) (.bl _)⟩
  · exact q.elim⟩
theorem rv_ninDp : RfV2 K (rNotInD K) (oInDp true) := ⟨fun R h1 h2 q k => by
  unfold oInDp at q
  split at q
  · exact ⟨_, _, h1.dp (okD_lay q.1), h2.dp (okD_lay q.2.1), q.1, q.2.1, k _ _ _ q.2.2 (stp_refl R) (.bl _)⟩
  · exact q.elim⟩
end
/-! expressions that take out of a list that a name owns -/
section
variable {K : PySem.W.Frag}
structure RfX (K : PySem.W.Frag) (t : TE) (dx : Ev → (D → Ev → Prop) → Prop) : Prop where
  run : ∀ {A : Addr → Prop} {st : Option (Addr × Addr)} {H0 : Hp} {ow : Nat → Option Addr} {σ : L2.St} {H : Hp} {env : Ev} {Qd : D → Ev → Prop} {Q : VK},
  BE K A st H0 ow σ H env → dx env Qd → (∀ d v H' env', Qd d env' → BE K A st H0 ow σ H' env' → To H H' (Mo A ow) (Mo A ow) → Rep K H' (Mo A ow) d v → Q v H') → t σ H Q
def dXof (de : Ev → (D → Prop) → Prop) : Ev → (D → Ev → Prop) → Prop := fun env Q => de env fun d => Q d env
theorem rx_of {t : TE} {de : Ev → (D → Prop) → Prop} (h : RfE K t de) : RfX K t (dXof de) := ⟨fun B q k => h.run B.r q fun d v H' q' s r => k d v H' _ q' (B.step s) (B.r.toS s) r⟩
theorem RepL.erase {H : Hp} {A : Addr → Prop} : ∀ {ds : List D} {vs : List V} (n : Nat), RepL K H A ds vs → RepL K H A (ds.eraseIdx n) (vs.eraseIdx n)
  | _, _, _, .nil => by simpa using RepL.nil
  | _, _, 0, .cons h r => by simpa using r
  | _, _, n + 1, .cons h r => by rw [List.eraseIdx_cons_succ, List.eraseIdx_cons_succ]; exact .cons h (RepL.erase n r)
def dPopAt (i : Nat) (de : Ev → (D → Prop) → Prop) : Ev → (D → Ev → Prop) → Prop := fun env Q => match eget env i with
  | some (.own ds) => de env fun y => (match y with | .int k => ds.length ≤ 100000 ∧ ∃ j x, ixN ds.length k = some j ∧ ds[j]? = some x ∧ Q x (eset env i (some (.own (ds.eraseIdx j)))) | _ => False)
  | _ => False
theorem seqIx {n : Nat} {k : Int} {j : Nat} (h : ixN n k = some j) (hn : n ≤ 100000) : -(2 ^ 63) ≤ k ∧ k < 2 ^ 63 ∧ seqIndex? k n = some j := by
  have z := ixN_seq h
  exact ⟨by omega, by omega, z.1⟩
theorem rx_popAt (i : Nat) {te : TE} {de : Ev → (D → Prop) → Prop} (h : RfE K te de) : RfX K (tBM K "list" rPopAt (tVar i) (tCons te tNil)) (dPopAt i de) := ⟨fun {A st H0 ow σ H env Qd Q} B q k => by
  unfold dPopAt at q
  split at q
  · rename_i ds e
    obtain ⟨v, hv, L, vs, h1, rfl, h3, h4⟩ := B.r.sl i _ (eget_some e)
    refine ⟨_, hv, .inl ⟨rfl, vs, SqL.of h3⟩, h.run B.r q fun y u H' q' s r => ?_⟩
    have B1 := B.step s
    have h3' : H' L = some (.lst vs) := s.k L _ h3 fun z => B.r.na i L h1 (B.r.exA L z)
    split at q'
    · cases r
      obtain ⟨hl, j, x, ej, ex, q2⟩ := q'
      have h4' := RepL.to (B.r.toS s) h4
      obtain ⟨w, hw, rw'⟩ := h4'.get ex
      have sx := seqIx ej hl
      refine ⟨L, vs, _, j, w, rfl, rfl, h3', sx.1, sx.2.1, by rw [← h4.len]; exact sx.2.2, hw, ?_⟩
      have mL : Mo A ow L := .inr ⟨i, h1⟩
      have t : To H' (upd H' L (.lst (vs.eraseIdx j))) (Mo A ow) (Mo A ow) := ⟨fun b x e n => ⟨by rw [upd_ne (fun (z : b = L) => n (z ▸ mL))]; exact e, n⟩⟩
      have := B1.mut i (o' := .lst (vs.eraseIdx j)) h1 h3' hv (en := .own (ds.eraseIdx j)) ⟨L, _, h1, rfl, upd_same, RepL.to t (h4'.erase j)⟩ (.inl ⟨_, rfl⟩)
      exact k _ _ _ _ q2 this.1 ((B.r.toS s).trans this.2) (Rep.to this.2 rw')
    · exact q'.elim
  · exact q.elim⟩
def dPop (i : Nat) : Ev → (D → Ev → Prop) → Prop := fun env Q => match eget env i with
  | some (.own ds) => ∃ x, ds.getLast? = some x ∧ Q x (eset env i (some (.own ds.dropLast)))
  | _ => False
theorem RepL.dropLast {H : Hp} {A : Addr → Prop} {ds : List D} {vs : List V} (h : RepL K H A ds vs) : RepL K H A ds.dropLast vs.dropLast := by
  rw [List.dropLast_eq_take, List.dropLast_eq_take, h.len]
  exact h.take _
theorem rx_pop (i : Nat) : RfX K (tBM0 K "list" rPop (tVar i)) (dPop i) := ⟨fun {A st H0 ow σ H env Qd Q} B q k => by
  unfold dPop at q
  split at q
  · rename_i ds e
    obtain ⟨v, hv, L, vs, h1, rfl, h3, h4⟩ := B.r.sl i _ (eget_some e)
    obtain ⟨x, ex, q2⟩ := q
    rw [List.getLast?_eq_getElem?] at ex
    obtain ⟨w, hw, rw'⟩ := h4.get ex
    refine ⟨_, hv, .inl ⟨rfl, vs, SqL.of h3⟩, L, vs, w, rfl, rfl, h3, by rw [← h4.len]; exact hw, ?_⟩
    have mL : Mo A ow L := .inr ⟨i, h1⟩
    have t : To H (upd H L (.lst vs.dropLast)) (Mo A ow) (Mo A ow) := ⟨fun b x e n => ⟨by rw [upd_ne (fun (z : b = L) => n (z ▸ mL))]; exact e, n⟩⟩
    have := B.mut i (o' := .lst vs.dropLast) h1 h3 hv (en := .own ds.dropLast) ⟨L, _, h1, rfl, upd_same, RepL.to t h4.dropLast⟩ (.inl ⟨_, rfl⟩)
    exact k _ _ _ _ q2 this.1 this.2 (Rep.to this.2 rw')
  · exact q.elim⟩
def dAsgX (dx : Ev → (D → Ev → Prop) → Prop) (g : D → Ev → (Ev → Prop) → Prop) : DS := fun Ed env => dx env fun x env' => g x env' Ed.nx
def dDropX (dx : Ev → (D → Ev → Prop) → Prop) : DS := fun Ed env => dx env fun _ env' => Ed.nx env'
theorem rs_asgX {is : List Nat} {t : TE} {g : TG} {dx : Ev → (D → Ev → Prop) → Prop} {dg : D → Ev → (Ev → Prop) → Prop} (h : RfX K t dx) (hg : RfG K is g dg) : RfS K (tAsg t g) (dAsgX dx dg) := ⟨fun B q k => h.run B q fun d v H' env1 q' B' t r =>
  hg.run B'.r r q' fun env' ow' σ' q2 R2 sub _ => k.nx _ _ _ _ q2 ⟨R2, B'.kp, fun j a e => B'.fr j a (sub j a e)⟩ (t.trans (to_less fun a => Mo.sub sub))⟩
structure RfXA (K : PySem.W.Frag) (n : Nat) (t : TA) (dx : Ev → (List D → Ev → Prop) → Prop) : Prop where
  run : ∀ {A : Addr → Prop} {st : Option (Addr × Addr)} {H0 : Hp} {ow : Nat → Option Addr} {σ : L2.St} {H : Hp} {env : Ev} {Qd : List D → Ev → Prop} {Q : List V → Hp → Prop},
  BE K A st H0 ow σ H env → dx env Qd → (∀ ds vs H' env', Qd ds env' → ds.length = n → BE K A st H0 ow σ H' env' → To H H' (Mo A ow) (Mo A ow) → RepL K H' (Mo A ow) ds vs → Q vs H') → t σ H Q
def dxaN : Ev → (List D → Ev → Prop) → Prop := fun env Q => Q [] env
def dxaC (dx : Ev → (D → Ev → Prop) → Prop) (dxa : Ev → (List D → Ev → Prop) → Prop) : Ev → (List D → Ev → Prop) → Prop := fun env Q => dx env fun x env1 => dxa env1 fun xs env2 => Q (x :: xs) env2
theorem rxaN : RfXA K 0 tNil dxaN := ⟨fun B q k => k _ _ _ _ q rfl B (To.refl _ _) .nil⟩
theorem rxaC {n : Nat} {te : TE} {ta : TA} {dx : Ev → (D → Ev → Prop) → Prop} {dxa : Ev → (List D → Ev → Prop) → Prop} (h : RfX K te dx) (hs : RfXA K n ta dxa) : RfXA K (n + 1) (tCons te ta) (dxaC dx dxa) := ⟨fun B q k =>
  h.run B q fun d v H1 env1 q1 B1 t1 r1 => hs.run B1 q1 fun ds vs H2 env2 q2 e2 B2 t2 r2 => k _ _ _ _ q2 (congrArg (· + 1) e2) B2 (t1.trans t2) (.cons (Rep.to t2 r1) r2)⟩
def dXcallS (i : Nat) (f : List D → (D → Prop) → Prop) (dxa : Ev → (List D → Ev → Prop) → Prop) : Ev → (D → Ev → Prop) → Prop := fun env Q => match eget env i with | some .st => dxa env fun xs env' => f xs fun d => Q d env' | _ => False
theorem rx_callS {n i : Nat} {f : List D → (D → Prop) → Prop} {E : XK} {t : TA} {dxa : Ev → (List D → Ev → Prop) → Prop} (h : RfXA K n t dxa) : RfX K (tCall (spS K f) [] E (tCons (tVar i) t)) (dXcallS i f dxa) := ⟨fun {A st H0 ow σ H env Qd Q} B q k => by
  unfold dXcallS at q
  split at q
  · rename_i e
    obtain ⟨v, hv, z, rfl, rfl⟩ := B.r.sl i _ (eget_some e)
    refine ⟨_, hv, h.run B q fun ds vs H1 env1 q1 _ B1 t1 r1 => ?_⟩
    exact ⟨Mo A ow, z, ds, vs, _, by rw [List.append_nil], B1.r.ls z rfl, .inl (B1.r.sta z rfl).1, .inl (B1.r.sta z rfl).2, fun a ha => B1.r.alM ha, r1, q1, fun d v H2 q2 s2 r2 => k d v H2 env1 q2 (B1.step s2) (t1.trans (B1.r.toS s2)) r2⟩
  · exact q.elim⟩
def dXcall (f : List D → (D → Prop) → Prop) (dxa : Ev → (List D → Ev → Prop) → Prop) : Ev → (D → Ev → Prop) → Prop := fun env Q => dxa env fun xs env' => f xs fun d => Q d env'
/-- x.append(e), e takes out of another list -/
def dAppX (i : Nat) (dx : Ev → (D → Ev → Prop) → Prop) : DS := fun Ed env => (match eget env i with | some (.own _) => True | _ => False) ∧ dx env fun x env' => match eget env' i with
  | some (.own ds) => ds.length ≤ 100000 ∧ Ed.nx (eset env' i (some (.own (ds ++ [x]))))
  | _ => False
theorem rs_appX (i : Nat) {te : TE} {dx : Ev → (D → Ev → Prop) → Prop} (h : RfX K te dx) : RfS K (tDrop (tBM K "list" rAppend (tVar i) (tCons te tNil))) (dAppX i dx) := ⟨fun {A st H0 ow σ H env Ed E} B q k => by
  obtain ⟨q0, q⟩ := q
  split at q0
  · rename_i ds0 e0
    obtain ⟨v, hv, L, vs0, h1, rfl, h3, h4⟩ := B.r.sl i _ (eget_some e0)
    refine ⟨_, hv, .inl ⟨rfl, vs0, SqL.of h3⟩, h.run B q fun d v H' env' q' B1 t1 r => ?_⟩
    split at q'
    · rename_i ds e
      obtain ⟨w, hw, L2, vs, g1, e2, g3, g4⟩ := B1.r.sl i _ (eget_some e)
      rw [hv] at hw
      have hw' := Option.some.inj (Option.some.inj hw)
      subst hw'
      have hL : L2 = L := Option.some.inj (g1.symm.trans h1)
      subst hL
      refine ⟨L2, vs, v, rfl, rfl, g3, Nat.lt_of_le_of_lt (by rw [← g4.len]; exact q'.1) (by decide), ?_⟩
      have mL : Mo A ow L2 := .inr ⟨i, h1⟩
      have t : To H' (upd H' L2 (.lst (vs ++ [v]))) (Mo A ow) (Mo A ow) := ⟨fun b x e n => ⟨by rw [upd_ne (fun (z : b = L2) => n (z ▸ mL))]; exact e, n⟩⟩
      have := B1.mut i (o' := .lst (vs ++ [v])) h1 g3 hv (en := .own (ds ++ [d])) ⟨L2, _, h1, rfl, upd_same, RepL.to t (g4.snoc r)⟩ (.inl ⟨_, rfl⟩)
      exact k.nx _ _ _ _ q'.2 this.1 (t1.trans this.2)
    · exact q'.elim
  · exact q0.elim⟩
theorem rs_dropX {t : TE} {dx : Ev → (D → Ev → Prop) → Prop} (h : RfX K t dx) : RfS K (tDrop t) (dDropX dx) := ⟨fun B q k => h.run B q fun d v H' env' q' B' t r => k.nx _ _ _ _ q' B' t⟩
end
/-! truth of any value -/
section
variable {K : PySem.W.Frag}
def tru : D → (Bool → Prop) → Prop := fun d Q => match d with
  | .none => Q false
  | .bool b => Q b
  | .int i => Q (i != 0)
  | .str z => z.length ≤ sizeLine ∧ Q ((z.length : Int) != 0)
  | .list ds => Q (!ds.isEmpty)
  | .tuple ds => Q (!ds.isEmpty)
  | .dict kvs => Q (!kvs.isEmpty)
theorem isEmpty_L {H : Hp} {A : Addr → Prop} {ds : List D} {vs : List V} (r : RepL K H A ds vs) : ds.isEmpty = vs.isEmpty := by cases r <;> rfl
theorem isEmpty_K {H : Hp} {A : Addr → Prop} {ds : List (D × D)} {vs : List (Key × V)} (r : RepK K H A ds vs) : ds.isEmpty = vs.isEmpty := by cases r <;> rfl
theorem tru_V {H : Hp} {A M : Addr → Prop} {d : D} {v : V} {Q : Bool → Prop} (r : RepB K H A M d v) (q : tru d Q) : ∃ k, TruV K v H k ∧ Q k := by
  cases r with
  | r r =>
    cases r with
    | non => exact ⟨_, rfl, q⟩
    | bl b => exact ⟨_, rfl, q⟩
    | int i => exact ⟨_, rfl, q⟩
    | str z => exact ⟨_, ⟨q.1, rfl⟩, q.2⟩
    | lst h n r => exact ⟨_, .inl ⟨_, SqL.of h, rfl⟩, by rw [← isEmpty_L r]; exact q⟩
    | tup h r => exact ⟨_, .inr (.inl ⟨_, h.sq, rfl⟩), by rw [← isEmpty_L r]; exact q⟩
    | dct h n r => exact ⟨_, .inr (.inr ⟨_, h, rfl⟩), by rw [← isEmpty_K r]; exact q⟩
  | o h n r => exact ⟨_, .inl ⟨_, SqL.of h, rfl⟩, by rw [← isEmpty_L r]; exact q⟩
  | k h n r => exact ⟨_, .inr (.inr ⟨_, h, rfl⟩), by rw [← isEmpty_K r]; exact q⟩
def dTru (a : Ev → (D → Prop) → Prop) : Ev → (Bool → Prop) → Prop := fun env Q => a env fun x => tru x Q
theorem rt_tru {t : TE} {a : Ev → (D → Prop) → Prop} (h : RfB K t a) : RfT K (fun σ H Q => t σ H fun x H' => ∃ k, TruV K x H' k ∧ Q k H') (dTru a) := ⟨fun R q k => h.run R q fun d v H1 q1 s1 r1 => by
  obtain ⟨b, tb, qb⟩ := tru_V r1 q1
  exact ⟨b, tb, k _ _ qb s1⟩⟩
def dAndT (a b : Ev → (D → Prop) → Prop) : Ev → (D → Prop) → Prop := fun env Q => a env fun x => tru x fun k => if k = true then b env Q else Q x
def dOrT (a b : Ev → (D → Prop) → Prop) : Ev → (D → Prop) → Prop := fun env Q => a env fun x => tru x fun k => if k = true then Q x else b env Q
def dNotT (a : Ev → (D → Prop) → Prop) : Ev → (D → Prop) → Prop := fun env Q => a env fun x => tru x fun k => Q (.bool (!k))
theorem re_andT {t u : TE} {a b : Ev → (D → Prop) → Prop} (h1 : RfE K t a) (h2 : RfE K u b) : RfE K (tAndT K t u) (dAndT a b) := ⟨fun R q k => h1.run R q fun x v H1 q1 s1 r1 => by
  obtain ⟨c, tc, qc⟩ := tru_V (A := fun _ => False) (.r r1) q1
  refine ⟨c, tc, ?_⟩
  cases c with
  | true =>
    rw [if_pos rfl] at qc ⊢
    exact h2.run (R.step s1) qc fun d v H2 q2 s2 r2 => k d v H2 q2 (s1.trans s2) r2
  | false =>
    rw [if_neg Bool.false_ne_true] at qc ⊢
    exact k _ _ _ qc s1 r1⟩
theorem re_orT {t u : TE} {a b : Ev → (D → Prop) → Prop} (h1 : RfE K t a) (h2 : RfE K u b) : RfE K (tOrT K t u) (dOrT a b) := ⟨fun R q k => h1.run R q fun x v H1 q1 s1 r1 => by
  obtain ⟨c, tc, qc⟩ := tru_V (A := fun _ => False) (.r r1) q1
  refine ⟨c, tc, ?_⟩
  cases c with
  | true =>
    rw [if_pos rfl] at qc ⊢
    exact k _ _ _ qc s1 r1
  | false =>
    rw [if_neg Bool.false_ne_true] at qc ⊢
    exact h2.run (R.step s1) qc fun d v H2 q2 s2 r2 => k d v H2 q2 (s1.trans s2) r2⟩
theorem re_notT {t : TE} {a : Ev → (D → Prop) → Prop} (h : RfB K t a) : RfE K (tNotT K t) (dNotT a) := ⟨fun R q k => h.run R q fun x v H1 q1 s1 r1 => by
  obtain ⟨c, tc, qc⟩ := tru_V r1 q1
  exact ⟨c, tc, k _ _ _ qc s1 (.bl _)⟩⟩
end
/-! a written dict -/
structure RfPr (K : PySem.W.Frag) (trs : List (TE × TE)) (ks : List Key) (dp : Ev → (List (D × D) → Prop) → Prop) : Prop where
  run : ∀ {A : Addr → Prop} {st : Option (Addr × Addr)} {ow : Nat → Option Addr} {σ : L2.St} {H : Hp} {env : Ev} {Qd : List (D × D) → Prop} {Q : List (V × V) → Hp → Prop},
  RE K A st ow σ H env → dp env Qd → (∀ ds us H', Qd ds → Stp st H H' → RepK K H' (Mo A ow) ds us → us.map (·.1) = ks → Q (us.map fun kv => (kV kv.1, kv.2)) H') → tPairs trs σ H Q
def dpN : Ev → (List (D × D) → Prop) → Prop := fun _ Q => Q []
def dpS (k : Str) (dv : Ev → (D → Prop) → Prop) (dp : Ev → (List (D × D) → Prop) → Prop) : Ev → (List (D × D) → Prop) → Prop := fun env Q => dv env fun x => dp env fun r => Q ((.str k, x) :: r)
def dpI (k : Int) (dv : Ev → (D → Prop) → Prop) (dp : Ev → (List (D × D) → Prop) → Prop) : Ev → (List (D × D) → Prop) → Prop := fun env Q => dv env fun x => dp env fun r => Q ((.int k, x) :: r)
theorem merge_nodup : ∀ (us acc : List (Key × V)), (∀ kv ∈ us, ∀ kw ∈ acc, kw.1 ≠ kv.1) → (us.map (·.1)).Nodup → mergeK acc us = acc ++ us
  | [], acc, _, _ => by simp [mergeK]
  | (k, v) :: r, acc, h, n => by
    rw [List.map_cons, List.nodup_cons] at n
    have e : putK acc k v = acc ++ [(k, v)] := by
      unfold putK
      rw [if_neg]
      intro z
      rw [List.any_eq_true] at z
      obtain ⟨kw, hm, hk⟩ := z
      exact h _ List.mem_cons_self kw hm (of_decide_eq_true hk)
    have ih := merge_nodup r (acc ++ [(k, v)]) (fun kv hkv kw hkw => by
      rcases List.mem_append.mp hkw with z | z
      · exact h kv (List.mem_cons_of_mem _ hkv) kw z
      · have : kw = (k, v) := by simpa using z
        subst this
        intro ee
        exact n.1 (List.mem_map.mpr ⟨kv, hkv, ee.symm⟩)) n.2
    show mergeK (putK acc k v) r = _
    rw [e, ih, List.append_assoc]
    rfl
section
variable {K : PySem.W.Frag}
theorem rp_nil : RfPr K [] [] dpN := ⟨fun R q k => k [] [] _ q (stp_refl R) .nil rfl⟩
theorem rp_str (k : Str) {tv : TE} {trs : List (TE × TE)} {ks : List Key} {dv : Ev → (D → Prop) → Prop} {dp : Ev → (List (D × D) → Prop) → Prop} (hv : RfE K tv dv) (hr : RfPr K trs ks dp) : RfPr K ((tC (.str k), tv) :: trs) (.inr k :: ks) (dpS k dv dp) := ⟨fun {A st ow σ H env Qd Q} R q c =>
  hv.run R q fun d v H1 q1 s1 r1 => hr.run (R.step s1) q1 fun ds us H2 q2 s2 r2 e2 =>
    c ((.str k, d) :: ds) ((.inr k, v) :: us) H2 q2 (s1.trans s2) (.cons (.str k) (Rep.to ((R.step s1).toS s2) r1) r2) (by rw [List.map_cons, e2])⟩
theorem rp_int (k : Int) {tv : TE} {trs : List (TE × TE)} {ks : List Key} {dv : Ev → (D → Prop) → Prop} {dp : Ev → (List (D × D) → Prop) → Prop} (hv : RfE K tv dv) (hr : RfPr K trs ks dp) : RfPr K ((tC (.int k), tv) :: trs) (.inl k :: ks) (dpI k dv dp) := ⟨fun {A st ow σ H env Qd Q} R q c =>
  hv.run R q fun d v H1 q1 s1 r1 => hr.run (R.step s1) q1 fun ds us H2 q2 s2 r2 e2 =>
    c ((.int k, d) :: ds) ((.inl k, v) :: us) H2 q2 (s1.trans s2) (.cons (.int k) (Rep.to ((R.step s1).toS s2) r1) r2) (by rw [List.map_cons, e2])⟩
theorem rk_disp {trs : List (TE × TE)} {ks : List Key} {dp : Ev → (List (D × D) → Prop) → Prop} (h : RfPr K trs ks dp) (nd : ks.Nodup) (hl : ks.length ≤ 15) : RfK K (tDisp trs) dp := ⟨fun {A st ow σ H env Qd Q} R q k p np => by
  have S1 : Stp st H (upd H p (.dK [])) := R.new np
  have RS := R.step S1
  have toA : To H (upd H p (.dK [])) (Mo A ow) (Mo (fun b => A b ∨ b = p) ow) := new_to np fun a z => by
    rcases z with (z | z) | z
    · exact .inl (.inl z)
    · exact .inr z
    · exact .inl (.inr z)
  have R2 : RE K (fun b => A b ∨ b = p) st ow σ (upd H p (.dK [])) env := by
    refine ⟨RS.ls, fun a z => ?_, fun z e => ⟨.inl (RS.sta z e).1, .inl (RS.sta z e).2⟩, RS.al, fun j a e z => ?_, RS.inj, RS.tie, RS.len, fun j e' he' => ?_⟩
    · rcases z with z | rfl
      · exact RS.dom a z
      · rw [upd_same]; intro z; cases z
    · rcases z with z | rfl
      · exact RS.na j a e z
      · exact R.al j _ e np
    · obtain ⟨v, hv, r⟩ := R.sl j e' he'
      refine ⟨v, hv, ?_⟩
      cases e' with
      | d x => exact Rep.to toA r
      | own ds =>
        obtain ⟨a, vs, h1, h2, h3, h4⟩ := r
        exact ⟨a, vs, h1, h2, same_upd np _ _ h3, RepL.to toA h4⟩
      | odk ds =>
        obtain ⟨a, vs, h1, h2, h3, h4⟩ := r
        exact ⟨a, vs, h1, h2, same_upd np _ _ h3, RepK.to toA h4⟩
      | st => exact r
  refine h.run R2 q fun ds us H2 q2 s2 r2 e2 => ?_
  have exL : ∀ a ∈ exs st, a ≠ p := fun a z e' => by
    subst e'
    exact R.ls.ne _ z np
  have hp : H2 p = some (.dK []) := s2.k p _ upd_same fun z => exL p z rfl
  have hm : mergeK [] us = us := by
    rw [merge_nodup us [] (fun _ _ kw hkw => by cases hkw) (by rw [e2]; exact nd)]
    rfl
  refine ⟨hp, us, rfl, by rw [← List.length_map (f := (·.1)), e2]; exact hl, ?_⟩
  rw [hm]
  refine k ds p us _ q2 ⟨fun b o e n => ?_, fun z e' => ?_⟩ np upd_same (RepK.to ⟨fun b o e n => ⟨?_, fun z => n ?_⟩⟩ r2)
  · rw [upd_ne (fun z => by rw [z, np] at e; cases e)]
    exact s2.k b o (S1.k b o e n) n
  · obtain ⟨kk', ns, l1, l2, l3⟩ := s2.l z e'
    have m1 : z.1 ≠ p := exL _ (by subst e'; simp [exs])
    have m2 : z.2 ≠ p := exL _ (by subst e'; simp [exs])
    exact ⟨kk', ns, by rw [upd_ne m1]; exact l1, by rw [upd_ne m2]; exact l2, l3⟩
  · rw [upd_ne (fun z => n (.inl (.inr z)))]
    exact e
  · rcases z with (z | z) | z
    · exact .inl (.inl z)
    · exact .inr z
    · exact .inl (.inr z)⟩
end
/-! a op1 b op2 c op3 d -/
def tChain3 (r r' r'' : R2) (ta tb tc td : TE) : TE := fun σ H Q => ta σ H fun x H1 => tb σ H1 fun y H2 => r x y H2 fun z H3 => ∃ k, z = .bl k ∧
  (if k = true then tc σ H3 fun w' H4 => r' y w' H4 fun z' H5 => ∃ k', z' = .bl k' ∧ (if k' = true then td σ H5 fun u H6 => r'' w' u H6 Q else Q (.bl false) H5) else Q (.bl false) H3)
theorem pe_chain3 {X : Cx} {a b c d : Expr} {pos : Pos} {ta tb tc td : TE} {op op' op'' : CmpOp} {r r' r'' : R2} (ho : OpR X (compareOp op) r) (ho' : OpR X (compareOp op') r') (ho'' : OpR X (compareOp op'') r'') (ha : PE X a ta) (hb : PE X b tb) (hc : PE X c tc) (hd : PE X d td)
    (hm : lastMarks [op, op', op''] [b, c, d] = false := by with_unfolding_all rfl) : PE X (.Compare a [op, op', op''] [b, c, d] pos) (tChain3 r r' r'' ta tb tc td) := by
  refine ⟨fun pins s σ H Q I h => ?_⟩
  refine Compare_chain (thn (ha.run pins s σ H _ I h) fun v s1 ⟨x, H1, I1, r1, q1⟩ => chain_link (thn (hb.run pins s1 σ H1 _ I1 q1) fun u s2 ⟨y, H2, I2, r2, q2⟩ =>
    thn (ho pins s2 σ H2 x y v u _ I2 r1 r2 q2) fun d s3 ⟨z, H3, I3, r3, k, e, q3⟩ => ?_)) hm
  subst e
  cases r3
  refine wpAny_truthy_bool ?_
  cases k with
  | false => exact ite_ff ⟨.bl false, H3, I3, rfl, q3⟩
  | true =>
    refine ite_tt (chain_link (thn (hc.run pins s3 σ H3 _ I3 q3) fun w' s4 ⟨z', H4, I4, r4, q4⟩ => thn (ho' pins s4 σ H4 y z' u w' _ I4 r2 r4 q4) fun d' s5 ⟨z2, H5, I5, r5, k2, e2, q5⟩ => ?_))
    subst e2
    cases r5
    refine wpAny_truthy_bool ?_
    cases k2 with
    | false => exact ite_ff ⟨.bl false, H5, I5, rfl, q5⟩
    | true => exact ite_tt (chain_last (thn (hd.run pins s5 σ H5 _ I5 q5) fun w2 s6 ⟨z3, H6, I6, r6, q6⟩ => ho'' pins s6 σ H6 z' z3 w' w2 Q I6 r4 r6 q6))
section
variable {K : PySem.W.Frag}
def dChain3 (op op' op'' : D → D → (D → Prop) → Prop) (a b c d : Ev → (D → Prop) → Prop) : Ev → (D → Prop) → Prop := fun env Q => a env fun x => b env fun y => op x y fun z => match z with
  | .bool k => if k = true then c env fun w => op' y w fun z' => (match z' with | .bool k' => if k' = true then d env fun u => op'' w u Q else Q (.bool false) | _ => False) else Q (.bool false)
  | _ => False
theorem re_chain3 {r r' r'' : R2} {op op' op'' : D → D → (D → Prop) → Prop} {ta tb tc td : TE} {a b c d : Ev → (D → Prop) → Prop} (ho : RfV2 K r op) (ho' : RfV2 K r' op') (ho'' : RfV2 K r'' op'') (ha : RfB K ta a) (hb : RfB K tb b) (hc : RfB K tc c) (hd : RfB K td d) : RfE K (tChain3 r r' r'' ta tb tc td) (dChain3 op op' op'' a b c d) := ⟨fun {A st ow σ H env Qd Q} R q k =>
  ha.run R q fun x v H1 q1 s1 r1 => hb.run (R.step s1) q1 fun y u H2 q2 s2 r2 => ho.run ((R.step s1).step s2) ((R.step s1).stepB s2 r1) r2 q2 fun z w H3 q3 s3 r3 => by
    have R3 := ((R.step s1).step s2).step s3
    split at q3
    · rename_i k'
      cases r3
      refine ⟨_, rfl, ?_⟩
      cases k' with
      | true =>
        rw [if_pos rfl] at q3 ⊢
        refine hc.run R3 q3 fun y' u' H4 q4 s4 r4 => ho'.run (R3.step s4) (R3.stepB s4 (((R.step s1).step s2).stepB s3 r2)) r4 q4 fun z2 w2 H5 q5 s5 r5 => ?_
        have R5 := (R3.step s4).step s5
        split at q5
        · rename_i k2
          cases r5
          refine ⟨_, rfl, ?_⟩
          cases k2 with
          | true =>
            rw [if_pos rfl] at q5 ⊢
            exact hd.run R5 q5 fun y3 u3 H6 q6 s6 r6 => ho''.run (R5.step s6) (R5.stepB s6 ((R3.step s4).stepB s5 r4)) r6 q6 fun d v H7 q7 s7 r7 => k d v H7 q7 (s1.trans (s2.trans (s3.trans (s4.trans (s5.trans (s6.trans s7)))))) r7
          | false =>
            rw [if_neg Bool.false_ne_true] at q5 ⊢
            exact k _ _ _ q5 (s1.trans (s2.trans (s3.trans (s4.trans s5)))) (.bl false)
        · exact q5.elim
      | false =>
        rw [if_neg Bool.false_ne_true] at q3 ⊢
        exact k _ _ _ q3 (s1.trans (s2.trans s3)) (.bl false)
    · exact q3.elim⟩
end
/-- every second one, from the first on -/
def alt {α : Type} : List α → List α
  | [] => []
  | [x] => [x]
  | x :: _ :: r => x :: alt r
theorem alt_len {α : Type} : ∀ l : List α, (alt l).length = (l.length + 1) / 2
  | [] => by simp [alt]
  | [_] => by simp [alt]
  | _ :: _ :: r => by
    show (alt r).length + 1 = (r.length + 1 + 1 + 1) / 2
    rw [alt_len r]
    omega
theorem alt_vals : ∀ {xs : List V} {us : List Value}, Vals xs us → Vals (alt xs) (alt us)
  | _, _, .nil => .nil
  | _, _, .cons r .nil => .cons r .nil
  | _, _, .cons r (.cons _ t) => .cons r (alt_vals t)
theorem alt_map {α β : Type} (f : α → β) : ∀ l : List α, alt (l.map f) = (alt l).map f
  | [] => rfl
  | [_] => rfl
  | _ :: _ :: r => by
    show _ :: alt (r.map f) = _ :: (alt r).map f
    rw [alt_map f r]
theorem alt_pick {α : Type} : ∀ (l : List α) (m : Nat), m = (l.length + 1) / 2 → (List.range m).filterMap (fun i => l[2 * i]?) = alt l
  | [], m, h => by
    have e : m = 0 := by simp only [List.length_nil] at h; omega
    subst e
    rfl
  | [x], m, h => by
    have e : m = 1 := by simp only [List.length_cons, List.length_nil] at h; omega
    subst e
    rfl
  | x :: y :: r, m, h => by
    obtain ⟨m', rfl⟩ : ∃ m', m = m' + 1 := ⟨m - 1, by simp only [List.length_cons] at h; omega⟩
    rw [List.range_succ_eq_map, List.filterMap_cons]
    show x :: _ = x :: alt r
    rw [List.filterMap_map]
    have e : ((fun i => (x :: y :: r)[2 * i]?) ∘ Nat.succ) = fun i => r[2 * i]? := by
      funext i
      show (x :: y :: r)[2 * (i + 1)]? = r[2 * i]?
      rw [show 2 * (i + 1) = 2 * i + 1 + 1 by omega]
      rfl
    rw [e, alt_pick r m' (by simp only [List.length_cons] at h; omega)]
theorem pick2 (its : List Value) (k : Nat) : slicePick its.toArray (some (k : Int)) none (some 2) = (alt (its.drop k)).toArray := by
  unfold slicePick
  congr 1
  have hb : sliceBounds (some (k : Int)) none (some 2) its.toArray.size = (((min k its.length : Nat) : Int), ((its.length : Nat) : Int), 2) := by
    have h2 : (2 : Int) > 0 := by decide
    have h3 : ¬ ((k : Int) < 0) := by omega
    unfold sliceBounds
    simp only [Option.getD_some, List.size_toArray, h2, h3, if_true, if_false]
    refine Prod.ext ?_ rfl
    show max 0 (min (k : Int) (its.length : Int)) = ((min k its.length : Nat) : Int)
    omega
  rw [hb]
  show (sliceRange ((min k its.length : Nat) : Int) (its.length : Int) 2).filterMap _ = _
  unfold sliceRange
  rw [← alt_pick (its.drop k) ((its.length - k + 1) / 2) (by rw [List.length_drop]), List.filterMap_map]
  have h2 : (2 : Int) > 0 := by decide
  have hm : (if ((min k its.length : Nat) : Int) < (its.length : Int) then ((its.length : Int) - ((min k its.length : Nat) : Int) + 2 - 1) / 2 else 0).toNat = (its.length - k + 1) / 2 := by
    split <;> omega
  simp only [h2, if_true]
  rw [hm]
  by_cases hk : k ≤ its.length
  · congr 1
    funext i
    show its.toArray[(((min k its.length : Nat) : Int) + 2 * (i : Int)).toNat]? = (its.drop k)[2 * i]?
    rw [List.getElem?_toArray, List.getElem?_drop]
    congr 1
    omega
  · rw [show (its.length - k + 1) / 2 = 0 by omega]
    rfl
def tStep2 (K : PySem.W.Frag) (k : Nat) (te : TE) : TE := fun σ H Q => te σ H fun x H1 => ∃ a xs, x = .ref a ∧ SqL K H1 a xs ∧ ∀ p, H1 p = none → Q (.ref p) (upd H1 p (.lst (alt (xs.drop k))))
theorem pe_step2 {X : Cx} {e : Expr} {te : TE} {k : Nat} {ka kb : Nat} {p1 p2 p3 pos : Pos} (he : PE X e te) :
    PE X (.Subscript e (.Slice (some (.Constant (.int (k : Int)) ka p1)) none (some (.Constant (.int 2) kb p2)) p3) pos) (tStep2 X.K k te) := by
  refine ⟨fun pins s σ H Q I h => ?_⟩
  refine Subscript_ (thn (he.run pins s σ H _ I h) fun v s1 ⟨x, H1, I1, r1, q1⟩ => ?_)
  obtain ⟨a, xs, ex, hx, q⟩ := q1
  subst ex
  cases r1
  have hlo : PO X (some (.Constant (.int (k : Int)) ka p1)) (tPart (tC (.int (k : Int)))) := po_some pe_int
  have hst : PO X (some (.Constant (.int 2) kb p2)) (tPart (tC (.int 2))) := po_some pe_int
  refine wpAny_Slice (thn (hlo.run pins s1 σ H1 (fun o H2 => o = some (k : Int) ∧ H2 = H1) I1 ⟨_, rfl, rfl, rfl⟩) fun vl s2 ⟨l, H2, I2, pl, el, e2⟩ => ?_)
  subst el e2
  refine thn (po_none.run pins s2 σ H2 (fun o H3 => o = none ∧ H3 = H2) I2 ⟨rfl, rfl⟩) fun vu s3 ⟨u, H3, I3, pu, eu, e3⟩ => ?_
  subst eu e3
  refine thn (hst.run pins s3 σ H3 (fun o H4 => o = some 2 ∧ H4 = H3) I3 ⟨_, rfl, rfl, rfl⟩) fun vs s4 ⟨o, H4, I4, ps, eo, e4⟩ => ?_
  subst eo e4
  have I5 : Inv X pins σ H4 { s4 with heap := s4.heap.push { cls := .type "slice", data := .fields #[vl, vu, vs] } } := I4.kept (t' := s4.toks) fun b ob q => Heap.get?_push_of_some _ q
  obtain ⟨its, r, ht, hz⟩ := I5.list hx
  have hlen := r.length
  show wpAny (model X.prog X.w) X.A (subscriptTail e (.Slice (some (.Constant (.int (k : Int)) ka p1)) none (some (.Constant (.int 2) kb p2)) p3) (.ref a) (.ref s4.heap.objs.size)) (EP X pins σ Q) X.xe { s4 with heap := s4.heap.push { cls := .type "slice", data := .fields #[vl, vu, vs] } }
  refine tail_any (ops := [.ref a, .ref s4.heap.objs.size]) ht.isList.typeIs (PySem.slot_list_getitem.lookup) ?_ (by with_unfolding_all rfl)
  refine wpAny_getItem_list_slice ht.isList (Heap.IsSliceOf.new _ vl vu vs) pl pu ps (by decide) ?_ (by rw [List.size_toArray]; omega)
  rw [pick2]
  refine ⟨.ref _, _, I5.laid (t' := s4.toks) (o := .lst (alt (xs.drop k))) (fun b ob q => Heap.get?_push_of_some _ q) (Nat.le_refl _) ?_, rfl, q _ (I5.hok.fresh (Nat.le_refl _))⟩
  exact ⟨by rw [alt_len, List.length_drop]; omega, _, 0, alt_vals (r.drop k), Heap.get?_push_size _ rfl⟩
section
variable {K : PySem.W.Frag} {H : Hp} {M : Addr → Prop}
theorem RepL.alt : ∀ {ds : List D} {vs : List V}, RepL K H M ds vs → RepL K H M (alt ds) (alt vs)
  | _, _, .nil => .nil
  | _, _, .cons h .nil => .cons h .nil
  | _, _, .cons h (.cons _ r) => .cons h (RepL.alt r)
theorem RepL.rev : ∀ {ds : List D} {vs : List V}, RepL K H M ds vs → RepL K H M ds.reverse vs.reverse
  | _, _, .nil => .nil
  | _, _, .cons h r => by
    rw [List.reverse_cons, List.reverse_cons]
    exact (RepL.rev r).snoc h
end
section
variable {K : PySem.W.Frag}
def dStep2 (k : Nat) (dd : Ev → (D → Prop) → Prop) : Ev → (D → Prop) → Prop := fun env Q => dd env fun x => match x with
  | .list ds => Q (.list (alt (ds.drop k)))
  | _ => False
theorem re_step2 (k : Nat) {te : TE} {dd : Ev → (D → Prop) → Prop} (h : RfB K te dd) : RfE K (tStep2 K k te) (dStep2 k dd) := ⟨fun {A st ow σ H env Qd Q} R q c => h.run R q fun x v H1 q1 s1 r1 => by
  have R1 := R.step s1
  split at q1
  · rename_i ds
    obtain ⟨a, xs, rfl, hx, rx⟩ := r1.lst
    exact ⟨a, xs, rfl, SqL.of hx, fun p np => c _ _ _ q1 (s1.trans (R1.new np)) (R1.mkL np ((rx.drop k).alt))⟩
  · exact q1.elim⟩
def dRev (dd : Ev → (D → Prop) → Prop) : Ev → (D → Prop) → Prop := fun env Q => dd env fun x => match x with
  | .list ds => Q (.list ds.reverse)
  | _ => False
theorem re_rev {te : TE} {dd : Ev → (D → Prop) → Prop} (h : RfB K te dd) : RfE K (tRevL K te) (dRev dd) := ⟨fun {A st ow σ H env Qd Q} R q c => h.run R q fun x v H1 q1 s1 r1 => by
  have R1 := R.step s1
  split at q1
  · rename_i ds
    obtain ⟨a, xs, rfl, hx, rx⟩ := r1.lst
    exact ⟨a, xs, rfl, SqL.of hx, fun p np => c _ _ _ q1 (s1.trans (R1.new np)) (R1.mkL np rx.rev)⟩
  · exact q1.elim⟩
end
/-! sorted([(a, b), (c, d)]), ints, in order -/
section
variable {K : PySem.W.Frag}
def dSort2o (da db dc dd : Ev → (D → Prop) → Prop) : Ev → (List D → Prop) → Prop := fun env Q => da env fun a => db env fun b => dc env fun c => dd env fun d => ∃ i j k l : Int, a = .int i ∧ b = .int j ∧ c = .int k ∧ d = .int l ∧ Q (if k < i ∨ (k = i ∧ l < j) then [.tuple [.int k, .int l], .tuple [.int i, .int j]] else [.tuple [.int i, .int j], .tuple [.int k, .int l]])
theorem rf_sort2o {ta tb tc td : TE} {da db dc dd : Ev → (D → Prop) → Prop} (ha : RfE K ta da) (hb : RfE K tb db) (hc : RfE K tc dc) (hd : RfE K td dd) :
    RfF K (tCB (rSortedPO K) (tCons (tLst (tCons (tTup (tCons ta (tCons tb tNil))) (tCons (tTup (tCons tc (tCons td tNil))) tNil))) tNil)) (dSort2o da db dc dd) := ⟨fun {A st ow σ H env Qd Q} R q k =>
  ha.run R q fun a v1 H1 q1 s1 r1 => hb.run (R.step s1) q1 fun b v2 H2 q2 s2 r2 => by
    have R2 := (R.step s1).step s2
    refine ⟨Nat.le_of_ble_eq_true rfl, fun p np => ?_⟩
    have sp : Stp st H2 (upd H2 p (.tup [v1, v2])) := R2.new np
    have R3 := R2.step sp
    refine hc.run R3 q2 fun c v3 H3 q3 s3 r3 => hd.run (R3.step s3) q3 fun d v4 H4 q4 s4 r4 => ?_
    obtain ⟨i1, i2, i3, i4, rfl, rfl, rfl, rfl, qq⟩ := q4
    cases r1; cases r2; cases r3; cases r4
    have R4 := (R3.step s3).step s4
    have nex : p ∉ exs st := fun z => R2.newA np (R2.exA p z)
    have hp4 : H4 p = some (.tup [.int i1, .int i2]) := s4.k p _ (s3.k p _ upd_same nex) nex
    refine ⟨Nat.le_of_ble_eq_true rfl, fun p2 np2 => ⟨Nat.le_of_ble_eq_true rfl, fun l nl => ?_⟩⟩
    have sm1 : Same H4 (upd H4 p2 (.tup [.int i3, .int i4])) := same_upd np2
    have sm2 : Same H4 (upd (upd H4 p2 (.tup [.int i3, .int i4])) l (.lst [.ref p, .ref p2])) := fun b o e => same_upd nl b o (sm1 b o e)
    have hl1 : (upd (upd H4 p2 (.tup [.int i3, .int i4])) l (.lst [.ref p, .ref p2])) p = some (.tup [.int i1, .int i2]) := sm2 _ _ hp4
    have hl2 : (upd (upd H4 p2 (.tup [.int i3, .int i4])) l (.lst [.ref p, .ref p2])) p2 = some (.tup [.int i3, .int i4]) := same_upd nl _ _ upd_same
    have hl3 : (upd (upd H4 p2 (.tup [.int i3, .int i4])) l (.lst [.ref p, .ref p2])) l = some (.lst [.ref p, .ref p2]) := upd_same
    generalize upd (upd H4 p2 (.tup [.int i3, .int i4])) l (.lst [.ref p, .ref p2]) = H5 at sm2 hl1 hl2 hl3
    have npp : p2 ≠ p := fun z => by rw [z, hp4] at np2; cases np2
    have npv : V.ref p2 ≠ V.ref p := fun z => npp (by cases z; rfl)
    refine ⟨l, _, (fun x => if x = V.ref p then (i1, i2) else (i3, i4)), rfl, SqL.of hl3, fun x hx => ?_, fun ys q0 so sb nq => ?_⟩
    · simp only [List.mem_cons, List.not_mem_nil, or_false] at hx
      rcases hx with rfl | rfl
      · exact ⟨_, rfl, by dsimp only; rw [if_pos rfl]; exact hl1⟩
      · exact ⟨_, rfl, by dsimp only; rw [if_neg npv]; exact hl2⟩
    have pm := sb.perm
    have sAll : Stp st H H4 := ((s1.trans s2).trans sp).trans (s3.trans s4)
    have s45 : Stp st H4 H5 := .same R4.ls sm2
    have R5 := R4.step s45
    have mp : ¬ Mo A ow p := R2.newM np
    have mp2 : ¬ Mo A ow p2 := R4.newM np2
    have snew : Same H5 (upd H5 q0 (.lst ys)) := same_upd nq
    have e0 : H q0 = none := (sAll.trans s45).none nq
    have neq : ∀ {c : Addr} {o : HO}, H5 c = some o → c ≠ q0 := fun e z => by rw [z, nq] at e; cases e
    have t1 : Rep K (upd H5 q0 (.lst ys)) (fun b => Mo A ow b ∨ b = q0) (.tuple [.int i1, .int i2]) (.ref p) := .tup (.inl ⟨.inl (snew _ _ hl1), fun z => z.elim mp (neq hl1)⟩) (.cons (.int _) (.cons (.int _) .nil))
    have t2 : Rep K (upd H5 q0 (.lst ys)) (fun b => Mo A ow b ∨ b = q0) (.tuple [.int i3, .int i4]) (.ref p2) := .tup (.inl ⟨.inl (snew _ _ hl2), fun z => z.elim mp2 (neq hl2)⟩) (.cons (.int _) (.cons (.int _) .nil))
    have st5 : Stp st H (upd H5 q0 (.lst ys)) := (sAll.trans s45).trans (R5.new nq)
    have two : ys = [.ref p, .ref p2] ∨ ys = [.ref p2, .ref p] := by
      match ys, pm.length_eq with
      | [y1, y2], _ =>
        by_cases e : y1 = .ref p
        · subst e
          have := (List.perm_cons _).mp pm
          rw [List.perm_singleton.mp this]
          exact .inl rfl
        · have h1 : y1 = .ref p2 := by
            have := pm.mem_iff.mp (List.mem_cons_self (a := y1) (l := [y2]))
            simp only [List.mem_cons, List.not_mem_nil, or_false] at this
            exact this.resolve_left e
          subst h1
          have := (List.perm_cons _).mp (pm.trans (List.Perm.swap _ _ _))
          rw [List.perm_singleton.mp this]
          exact .inr rfl
    rcases two with rfl | rfl
    · have h := (List.pairwise_cons.mp so).1 _ (List.mem_singleton.mpr rfl)
      have h2 : ¬ (i3 < i1 ∨ (i3 = i1 ∧ i4 < i2)) := by
        have z := SrtO.lexB_no.mp h
        dsimp only at z
        rw [if_pos rfl, if_neg npv] at z
        exact z
      rw [if_neg h2] at qq
      exact k _ q0 _ _ qq st5 e0 upd_same (.cons t1 (.cons t2 .nil))
    · have h := (List.pairwise_cons.mp so).1 _ (List.mem_singleton.mpr rfl)
      have h2 : ¬ (i1 < i3 ∨ (i1 = i3 ∧ i2 < i4)) := by
        have z := SrtO.lexB_no.mp h
        dsimp only at z
        rw [if_pos rfl, if_neg npv] at z
        exact z
      by_cases c : i3 < i1 ∨ (i3 = i1 ∧ i4 < i2)
      · rw [if_pos c] at qq
        exact k _ q0 _ _ qq st5 e0 upd_same (.cons t2 (.cons t1 .nil))
      · rw [if_neg c] at qq
        obtain rfl : i1 = i3 := by omega
        obtain rfl : i2 = i4 := by omega
        exact k _ q0 _ _ qq st5 e0 upd_same (.cons t2 (.cons t1 .nil))⟩
end
/-! The typed layer: what is read of plain data, by kinds of data. -/
abbrev M (α : Type) := (α → Prop) → Prop
abbrev DEx := Ev → (D → Prop) → Prop
abbrev sv (d : D) : Option En := some (.d d)
abbrev so (ds : List D) : Option En := some (.own ds)
def eD (d : D) : D := d
abbrev eN : Unit → D := fun _ => .none
def eL {α : Type} (e : α → D) (xs : List α) : D := .list (xs.map e)
def eU {α : Type} (e : α → D) (xs : List α) : D := .tuple (xs.map e)
def eO {α : Type} (e : α → D) : Option α → D
  | none => .none
  | some a => e a
def eT0 (_ : Unit) : D := .tuple []
def eT1 {t0 : Type} (e0 : t0 → D) (p : t0) : D := .tuple [e0 p]
def eT2 {t0 t1 : Type} (e0 : t0 → D) (e1 : t1 → D) (p : t0 × t1) : D := .tuple [e0 p.1, e1 p.2]
def eT3 {t0 t1 t2 : Type} (e0 : t0 → D) (e1 : t1 → D) (e2 : t2 → D) (p : t0 × t1 × t2) : D := .tuple [e0 p.1, e1 p.2.1, e2 p.2.2]
def eT4 {t0 t1 t2 t3 : Type} (e0 : t0 → D) (e1 : t1 → D) (e2 : t2 → D) (e3 : t3 → D) (p : t0 × t1 × t2 × t3) : D := .tuple [e0 p.1, e1 p.2.1, e2 p.2.2.1, e3 p.2.2.2]
def eT5 {t0 t1 t2 t3 t4 : Type} (e0 : t0 → D) (e1 : t1 → D) (e2 : t2 → D) (e3 : t3 → D) (e4 : t4 → D) (p : t0 × t1 × t2 × t3 × t4) : D := .tuple [e0 p.1, e1 p.2.1, e2 p.2.2.1, e3 p.2.2.2.1, e4 p.2.2.2.2]
def eT6 {t0 t1 t2 t3 t4 t5 : Type} (e0 : t0 → D) (e1 : t1 → D) (e2 : t2 → D) (e3 : t3 → D) (e4 : t4 → D) (e5 : t5 → D) (p : t0 × t1 × t2 × t3 × t4 × t5) : D := .tuple [e0 p.1, e1 p.2.1, e2 p.2.2.1, e3 p.2.2.2.1, e4 p.2.2.2.2.1, e5 p.2.2.2.2.2]
def eT7 {t0 t1 t2 t3 t4 t5 t6 : Type} (e0 : t0 → D) (e1 : t1 → D) (e2 : t2 → D) (e3 : t3 → D) (e4 : t4 → D) (e5 : t5 → D) (e6 : t6 → D) (p : t0 × t1 × t2 × t3 × t4 × t5 × t6) : D := .tuple [e0 p.1, e1 p.2.1, e2 p.2.2.1, e3 p.2.2.2.1, e4 p.2.2.2.2.1, e5 p.2.2.2.2.2.1, e6 p.2.2.2.2.2.2]
def eT8 {t0 t1 t2 t3 t4 t5 t6 t7 : Type} (e0 : t0 → D) (e1 : t1 → D) (e2 : t2 → D) (e3 : t3 → D) (e4 : t4 → D) (e5 : t5 → D) (e6 : t6 → D) (e7 : t7 → D) (p : t0 × t1 × t2 × t3 × t4 × t5 × t6 × t7) : D := .tuple [e0 p.1, e1 p.2.1, e2 p.2.2.1, e3 p.2.2.2.1, e4 p.2.2.2.2.1, e5 p.2.2.2.2.2.1, e6 p.2.2.2.2.2.2.1, e7 p.2.2.2.2.2.2.2]
def eT9 {t0 t1 t2 t3 t4 t5 t6 t7 t8 : Type} (e0 : t0 → D) (e1 : t1 → D) (e2 : t2 → D) (e3 : t3 → D) (e4 : t4 → D) (e5 : t5 → D) (e6 : t6 → D) (e7 : t7 → D) (e8 : t8 → D) (p : t0 × t1 × t2 × t3 × t4 × t5 × t6 × t7 × t8) : D := .tuple [e0 p.1, e1 p.2.1, e2 p.2.2.1, e3 p.2.2.2.1, e4 p.2.2.2.2.1, e5 p.2.2.2.2.2.1, e6 p.2.2.2.2.2.2.1, e7 p.2.2.2.2.2.2.2.1, e8 p.2.2.2.2.2.2.2.2]
def eT10 {t0 t1 t2 t3 t4 t5 t6 t7 t8 t9 : Type} (e0 : t0 → D) (e1 : t1 → D) (e2 : t2 → D) (e3 : t3 → D) (e4 : t4 → D) (e5 : t5 → D) (e6 : t6 → D) (e7 : t7 → D) (e8 : t8 → D) (e9 : t9 → D) (p : t0 × t1 × t2 × t3 × t4 × t5 × t6 × t7 × t8 × t9) : D := .tuple [e0 p.1, e1 p.2.1, e2 p.2.2.1, e3 p.2.2.2.1, e4 p.2.2.2.2.1, e5 p.2.2.2.2.2.1, e6 p.2.2.2.2.2.2.1, e7 p.2.2.2.2.2.2.2.1, e8 p.2.2.2.2.2.2.2.2.1, e9 p.2.2.2.2.2.2.2.2.2]
def eT11 {t0 t1 t2 t3 t4 t5 t6 t7 t8 t9 t10 : Type} (e0 : t0 → D) (e1 : t1 → D) (e2 : t2 → D) (e3 : t3 → D) (e4 : t4 → D) (e5 : t5 → D) (e6 : t6 → D) (e7 : t7 → D) (e8 : t8 → D) (e9 : t9 → D) (e10 : t10 → D) (p : t0 × t1 × t2 × t3 × t4 × t5 × t6 × t7 × t8 × t9 × t10) : D := .tuple [e0 p.1, e1 p.2.1, e2 p.2.2.1, e3 p.2.2.2.1, e4 p.2.2.2.2.1, e5 p.2.2.2.2.2.1, e6 p.2.2.2.2.2.2.1, e7 p.2.2.2.2.2.2.2.1, e8 p.2.2.2.2.2.2.2.2.1, e9 p.2.2.2.2.2.2.2.2.2.1, e10 p.2.2.2.2.2.2.2.2.2.2]
def eT12 {t0 t1 t2 t3 t4 t5 t6 t7 t8 t9 t10 t11 : Type} (e0 : t0 → D) (e1 : t1 → D) (e2 : t2 → D) (e3 : t3 → D) (e4 : t4 → D) (e5 : t5 → D) (e6 : t6 → D) (e7 : t7 → D) (e8 : t8 → D) (e9 : t9 → D) (e10 : t10 → D) (e11 : t11 → D) (p : t0 × t1 × t2 × t3 × t4 × t5 × t6 × t7 × t8 × t9 × t10 × t11) : D := .tuple [e0 p.1, e1 p.2.1, e2 p.2.2.1, e3 p.2.2.2.1, e4 p.2.2.2.2.1, e5 p.2.2.2.2.2.1, e6 p.2.2.2.2.2.2.1, e7 p.2.2.2.2.2.2.2.1, e8 p.2.2.2.2.2.2.2.2.1, e9 p.2.2.2.2.2.2.2.2.2.1, e10 p.2.2.2.2.2.2.2.2.2.2.1, e11 p.2.2.2.2.2.2.2.2.2.2.2]
/-- de at env gives what F gives, written by e -/
def We {α : Type} (e : α → D) (de : DEx) (env : Ev) (F : M α) : Prop := ∀ (Q : D → Prop) (G : α → Prop), (∀ a, G a → Q (e a)) → F G → de env Q
def Wt (dt : Ev → (Bool → Prop) → Prop) (env : Ev) (F : M Bool) : Prop := ∀ (Q G : Bool → Prop), (∀ a, G a → Q a) → F G → dt env Q
def Wl {α : Type} (e : α → D) (df : Ev → (List D → Prop) → Prop) (env : Ev) (F : M (List α)) : Prop := ∀ (Q : List D → Prop) (G : List α → Prop), (∀ xs, G xs → Q (xs.map e)) → F G → df env Q
def Wo (dt : Ev → (Option Int → Prop) → Prop) (env : Ev) (F : M (Option Int)) : Prop := ∀ (Q G : Option Int → Prop), (∀ a, G a → Q a) → F G → dt env Q
/-! operations -/
abbrev letT {α : Type} (a : α) : M α := fun G => G a
def ixT {α : Type} (xs : List α) (i : Int) : M α := fun G => ∃ a, atI xs i = some a ∧ G a
def castT {α : Type} (e : α → D) (d : D) : M α := fun G => ∃ a, d = e a ∧ G a
def getT {α : Type} (o : Option α) : M α := fun G => ∃ a, o = some a ∧ G a
def iteT {α : Type} (k : Bool) (A B : M α) : M α := fun G => if k = true then A G else B G
def andT (a : Bool) (B : M Bool) : M Bool := fun G => if a = true then B G else G false
def orT (a : Bool) (B : M Bool) : M Bool := fun G => if a = true then G true else B G
def takeT (m : Int) : M Int := fun G => 0 < m ∧ m < 2 ^ 64 ∧ ∀ r, 0 ≤ r → r < m → G r
def take0T (m : Int) : M Int := fun G => m < 2 ^ 64 ∧ ∀ r, 0 ≤ r → (r < m ∨ r < 1) → G r
def pickT {α : Type} (xs : List α) : M α := fun G => xs ≠ [] ∧ xs.length ≤ 100000 ∧ ∀ a ∈ xs, G a
def numT (lo hi : Int) : M Int := fun G => lo ≤ hi ∧ (-(2 ^ 63) ≤ lo ∧ hi < 2 ^ 63) ∧ ∀ r, lo ≤ r → r ≤ hi → G r
def appT {α : Type} (xs : List α) (a : α) : M (List α) := fun G => xs.length ≤ 100000 ∧ G (xs ++ [a])
def setT {α : Type} (xs : List α) (k : Int) (a : α) : M (List α) := fun G => ∃ j, ixN xs.length k = some j ∧ G (xs.set j a)
def eqT (x y : D) : M Bool := fun G => okD x = true ∧ okD y = true ∧ G (PyData.eqv x y)
def reprT (d : D) : M Str := fun G => repOK d ∧ G d.shown
def sameT (n : Nat) (x y : D) : M Bool := fun G => x = y ∧ smD n y = true ∧ G true
def rngT (lo : Int) (n : Nat) : List Int := (List.range n).map fun i => lo + (i : Nat)
def enumT {α : Type} (n : Nat) : List α → List (Int × α)
  | [] => []
  | a :: r => ((n : Int), a) :: enumT (n + 1) r
def lcT {α β : Type} (B : α → M (Option β)) : List α → M (List β)
  | [], G => G []
  | a :: r, G => B a fun o => match o with
    | some b => lcT B r fun ys => G (b :: ys)
    | none => lcT B r G
def compT {α β : Type} (xs : List α) (B : α → M (Option β)) : M (List β) := fun G => xs.length ≤ 100000 ∧ lcT B xs G
theorem atI_map {α β : Type} (f : α → β) (xs : List α) (i : Int) : atI (xs.map f) i = (atI xs i).map f := by
  unfold atI
  rw [List.length_map]
  cases ixN xs.length i with
  | none => rfl
  | some k => exact List.getElem?_map
theorem lcT_map {α β : Type} (f : α → β) : ∀ (xs : List α) (G : List β → Prop), lcT (fun a H => H (some (f a))) xs G ↔ G (xs.map f)
  | [], _ => Iff.rfl
  | a :: r, G => lcT_map f r fun ys => G (f a :: ys)
theorem lcT_filter {α β : Type} (t : α → Bool) (f : α → β) : ∀ (xs : List α) (G : List β → Prop), lcT (fun a H => if t a = true then H (some (f a)) else H none) xs G ↔ G ((xs.filter t).map f)
  | [], _ => Iff.rfl
  | a :: r, G => by
    unfold lcT
    cases h : t a with
    | true => rw [if_pos rfl, List.filter_cons, h, if_pos rfl]; exact lcT_filter t f r fun ys => G (f a :: ys)
    | false => rw [if_neg Bool.false_ne_true, List.filter_cons, h, if_neg Bool.false_ne_true]; exact lcT_filter t f r G
theorem rng_T (lo : Int) (n : Nat) : rng lo n = (rngT lo n).map PyData.int := by
  unfold rng rngT
  rw [List.map_map]
  rfl
theorem enum_T {α : Type} (e : α → D) : ∀ (n : Nat) (xs : List α), enumD n (xs.map e) = (enumT n xs).map (eT2 PyData.int e)
  | _, [] => rfl
  | n, a :: r => congrArg (PyData.tuple [.int (n : Nat), e a] :: ·) (enum_T e (n + 1) r)
theorem zip_T {α β : Type} (e : α → D) (e' : β → D) (xs : List α) (ys : List β) : zipD (xs.map e) (ys.map e') = (xs.zip ys).map (eT2 e e') := zip_map e e' xs ys
section
variable {α β γ : Type} {e e1 e2 : α → D} {e' : β → D} {env : Ev} {de da db dc' : DEx} {F : M α} {F' : M β}
theorem w_mono {F2 : M α} (h : We e de env F) (hF : ∀ G, F2 G → F G) : We e de env F2 := fun Q G hG f => h Q G hG (hF G f)
theorem w_name {i : Nat} {x : α} (h : eget env i = some (.d (e x))) : We e (dN i) env (fun G => G x) := fun Q G hG f => by unfold dN; rw [h]; exact hG x f
theorem w_nameB {i : Nat} {x : α} (h : eget env i = some (.d (e x))) : We e (dNB i) env (fun G => G x) := fun Q G hG f => by unfold dNB; rw [h]; exact hG x f
theorem w_nameO {i : Nat} {x : List α} (h : eget env i = some (.own (x.map e))) : We (eL e) (dNB i) env (fun G => G x) := fun Q G hG f => by unfold dNB; rw [h]; exact hG x f
theorem w_dC {d : D} {x : α} (h : d = e x) : We e (dC d) env (fun G => G x) := fun Q G hG f => by rw [h]; exact hG x f
/-- another kind for the same data -/
theorem w_co (c : α → β) (h : We e de env F) (hc : ∀ a, e' (c a) = e a) : We e' de env (fun G => F fun a => G (c a)) := fun Q G hG f => h _ _ (fun a ha => by rw [← hc]; exact hG _ ha) f
theorem w_cast {F : M D} (h : We eD de env F) : We e de env (fun G => F fun d => castT e d G) := fun Q G hG f => h _ _ (fun d ⟨a, ha, g⟩ => by show Q d; rw [ha]; exact hG a g) f
theorem w_get {F : M (Option α)} (h : We (eO e) de env F) : We e de env (fun G => F fun o => getT o G) := fun Q G hG f => h _ _ (fun o ⟨a, ha, g⟩ => by rw [ha]; exact hG a g) f
theorem w_I0 {g : Int → Int → D} {g' : Int → Int → γ} {e' : γ → D} {F F' : M Int} (ha : We PyData.int da env F) (hb : We PyData.int db env F') (hg : ∀ i j, e' (g' i j) = g i j) :
    We e' (dOp (oI0 g) da db) env (fun G => F fun a => F' fun b => G (g' a b)) := fun Q G hG f => ha _ _ (fun a h1 => hb _ _ (fun b h2 => by show Q (g a b); rw [← hg]; exact hG _ h2) h1) f
theorem w_I {C : Int → Int → Prop} {g : Int → Int → D} {g' : Int → Int → γ} {e' : γ → D} {F F' : M Int} (ha : We PyData.int da env F) (hb : We PyData.int db env F') (hg : ∀ i j, e' (g' i j) = g i j) :
    We e' (dOp (oI C g) da db) env (fun G => F fun a => F' fun b => C a b ∧ G (g' a b)) := fun Q G hG f => ha _ _ (fun a h1 => hb _ _ (fun b h2 => ⟨h2.1, by rw [← hg]; exact hG _ h2.2⟩) h1) f
theorem w_neg {F : M Int} (ha : We PyData.int da env F) : We PyData.int (dUn oNeg da) env (fun G => F fun a => G (-a)) := fun Q G hG f => ha _ _ (fun a h1 => hG _ h1) f
theorem w_eqS {r : α → β → Bool} (ha : We e da env F) (hb : We e' db env F') (hr : ∀ a b, eqS (e a) (e' b) = some (r a b)) : We PyData.bool (dOp (oEqS false) da db) env (fun G => F fun a => F' fun b => G (r a b)) :=
  fun Q G hG f => ha _ _ (fun a h1 => hb _ _ (fun b h2 => by unfold oEqS; rw [hr]; exact hG _ h2) h1) f
theorem w_neS {r : α → β → Bool} (ha : We e da env F) (hb : We e' db env F') (hr : ∀ a b, eqS (e a) (e' b) = some (r a b)) : We PyData.bool (dOp (oEqS true) da db) env (fun G => F fun a => F' fun b => G (!r a b)) :=
  fun Q G hG f => ha _ _ (fun a h1 => hb _ _ (fun b h2 => by unfold oEqS; rw [hr]; exact hG _ h2) h1) f
theorem r_I (a b : Int) : eqS (.int a) (.int b) = some (decide (a = b)) := rfl
theorem r_S (a b : Str) : eqS (.str a) (.str b) = some (decide (a = b)) := rfl
theorem r_B (a b : Bool) : eqS (.bool a) (.bool b) = some (decide (a = b)) := rfl
theorem r_OI (a : Option Int) (b : Int) : eqS (eO PyData.int a) (.int b) = some (decide (a = some b)) := by cases a <;> simp [eO, eqS]
theorem r_OS (a : Option Str) (b : Str) : eqS (eO PyData.str a) (.str b) = some (decide (a = some b)) := by cases a <;> simp [eO, eqS]
theorem r_IO (a : Int) (b : Option Int) : eqS (.int a) (eO PyData.int b) = some (decide (some a = b)) := by cases b <;> simp [eO, eqS]
theorem r_SO (a : Str) (b : Option Str) : eqS (.str a) (eO PyData.str b) = some (decide (some a = b)) := by cases b <;> simp [eO, eqS]
theorem r_OOI (a b : Option Int) : eqS (eO PyData.int a) (eO PyData.int b) = some (decide (a = b)) := by cases a <;> cases b <;> simp [eO, eqS]
theorem r_OOS (a b : Option Str) : eqS (eO PyData.str a) (eO PyData.str b) = some (decide (a = b)) := by cases a <;> cases b <;> simp [eO, eqS]
theorem w_eqD (ha : We e da env F) (hb : We e' db env F') : We PyData.bool (dOp (oEq false) da db) env (fun G => F fun a => F' fun b => eqT (e a) (e' b) G) :=
  fun Q G hG f => ha _ _ (fun a h1 => hb _ _ (fun b h2 => ⟨h2.1, h2.2.1, hG _ h2.2.2⟩) h1) f
theorem w_neD (ha : We e da env F) (hb : We e' db env F') : We PyData.bool (dOp (oEq true) da db) env (fun G => F fun a => F' fun b => eqT (e a) (e' b) fun k => G (!k)) :=
  fun Q G hG f => ha _ _ (fun a h1 => hb _ _ (fun b h2 => ⟨h2.1, h2.2.1, hG _ h2.2.2⟩) h1) f
theorem w_isN {r : α → Bool} (ha : We e da env F) (hr : ∀ a, isNo (e a) = r a) : We PyData.bool (dOp (oIsN false) da (dC .none)) env (fun G => F fun a => G (r a)) :=
  fun Q G hG f => ha _ _ (fun a h1 => by show Q (.bool (isNo (e a))); rw [hr]; exact hG _ h1) f
theorem w_notN {r : α → Bool} (ha : We e da env F) (hr : ∀ a, isNo (e a) = r a) : We PyData.bool (dOp (oIsN true) da (dC .none)) env (fun G => F fun a => G (!r a)) :=
  fun Q G hG f => ha _ _ (fun a h1 => by show Q (.bool (!isNo (e a))); rw [hr]; exact hG _ h1) f
def WNo (e : α → D) : Prop := ∀ a, isNo (e a) = false
theorem n_O (h : ∀ a, isNo (e a) = false) (o : Option α) : isNo (eO e o) = o.isNone := by
  cases o with
  | none => rfl
  | some a => exact h a
theorem w_isB {F F' : M Bool} (g : Bool → Bool → Bool) (ha : We PyData.bool da env F) (hb : We PyData.bool db env F') : We PyData.bool (dOp (oB g) da db) env (fun G => F fun a => F' fun b => G (g a b)) :=
  fun Q G hG f => ha _ _ (fun a h1 => hb _ _ (fun b h2 => hG _ h2) h1) f
theorem w_inG {F' : M (List β)} {es : List β → D} (ha : We e da env F) (hb : We es db env F') (hs : ∀ ys, seqOf (es ys) = some (ys.map e')) : We PyData.bool (dOp (oIn false) da db) env (fun G => F fun a => F' fun b => flatD (e a) = true ∧ (b.map e').all flatD = true ∧ G (inD (e a) (b.map e'))) :=
  fun Q G hG f => ha _ _ (fun a h1 => hb _ _ (fun b h2 => by unfold oIn; rw [hs]; exact ⟨h2.1, h2.2.1, hG _ h2.2.2⟩) h1) f
theorem w_ninG {F' : M (List β)} {es : List β → D} (ha : We e da env F) (hb : We es db env F') (hs : ∀ ys, seqOf (es ys) = some (ys.map e')) : We PyData.bool (dOp (oIn true) da db) env (fun G => F fun a => F' fun b => flatD (e a) = true ∧ (b.map e').all flatD = true ∧ G (!inD (e a) (b.map e'))) :=
  fun Q G hG f => ha _ _ (fun a h1 => hb _ _ (fun b h2 => by unfold oIn; rw [hs]; exact ⟨h2.1, h2.2.1, hG _ h2.2.2⟩) h1) f
/-- flat things in a row: by equality -/
structure FlE (e : α → D) : Prop where
  f : ∀ a, flatD (e a) = true
  e : ∀ a b, PyData.eqv (e a) (e b) = true ↔ a = b
theorem fl_all (h : FlE e) : ∀ xs : List α, (xs.map e).all flatD = true
  | [] => rfl
  | a :: r => by rw [List.map_cons, List.all_cons, h.f, fl_all h r]; rfl
theorem fl_in [DecidableEq α] (h : FlE e) (a : α) : ∀ xs : List α, inD (e a) (xs.map e) = decide (a ∈ xs)
  | [] => by simp [inD]
  | b :: r => by
    have ih := fl_in h a r
    unfold inD at ih ⊢
    rw [List.map_cons, List.any_cons, ih]
    have k := h.e b a
    cases hb : PyData.eqv (e b) (e a) with
    | true => have := k.mp hb; subst this; simp
    | false =>
      have : ¬ (a = b) := fun z => by rw [hb] at k; exact absurd (k.mpr z.symm) (by simp)
      simp [this]
theorem w_in [DecidableEq α] {F' : M (List α)} {es : List α → D} (fl : FlE e) (ha : We e da env F) (hb : We es db env F') (hs : ∀ ys, seqOf (es ys) = some (ys.map e)) : We PyData.bool (dOp (oIn false) da db) env (fun G => F fun a => F' fun b => G (decide (a ∈ b))) :=
  w_mono (w_inG ha hb hs) fun G f => by simpa only [fl.f, fl_all fl, fl_in fl, true_and] using f
theorem w_nin [DecidableEq α] {F' : M (List α)} {es : List α → D} (fl : FlE e) (ha : We e da env F) (hb : We es db env F') (hs : ∀ ys, seqOf (es ys) = some (ys.map e)) : We PyData.bool (dOp (oIn true) da db) env (fun G => F fun a => F' fun b => G (!decide (a ∈ b))) :=
  w_mono (w_ninG ha hb hs) fun G f => by simpa only [fl.f, fl_all fl, fl_in fl, true_and] using f
theorem fl_I : FlE PyData.int := ⟨fun _ => rfl, fun a b => by simp [PyData.eqv]⟩
theorem fl_S : FlE PyData.str := ⟨fun _ => rfl, fun a b => by simp [PyData.eqv]⟩
theorem w_inS {F F' : M Str} (ha : We PyData.str da env F) (hb : We PyData.str db env F') : We PyData.bool (dOp (oInS false) da db) env (fun G => F fun a => F' fun b => ∃ c, a = ⟨#[c]⟩ ∧ G (decide (c ∈ b.cps.toList))) :=
  fun Q G hG f => ha _ _ (fun a h1 => hb _ _ (fun b ⟨c, h2, h3⟩ => ⟨c, h2, hG _ h3⟩) h1) f
theorem w_ninS {F F' : M Str} (ha : We PyData.str da env F) (hb : We PyData.str db env F') : We PyData.bool (dOp (oInS true) da db) env (fun G => F fun a => F' fun b => ∃ c, a = ⟨#[c]⟩ ∧ G (!decide (c ∈ b.cps.toList))) :=
  fun Q G hG f => ha _ _ (fun a h1 => hb _ _ (fun b ⟨c, h2, h3⟩ => ⟨c, h2, hG _ h3⟩) h1) f
theorem w_inDp {F' : M (List β)} (ha : We e da env F) (hb : We (eL e') db env F') : We PyData.bool (dOp (oInDp false) da db) env (fun G => F fun a => F' fun b => okD (e a) = true ∧ okD (eL e' b) = true ∧ G (inD (e a) (b.map e'))) :=
  fun Q G hG f => ha _ _ (fun a h1 => hb _ _ (fun b h2 => ⟨h2.1, h2.2.1, hG _ h2.2.2⟩) h1) f
theorem w_ninDp {F' : M (List β)} (ha : We e da env F) (hb : We (eL e') db env F') : We PyData.bool (dOp (oInDp true) da db) env (fun G => F fun a => F' fun b => okD (e a) = true ∧ okD (eL e' b) = true ∧ G (!inD (e a) (b.map e'))) :=
  fun Q G hG f => ha _ _ (fun a h1 => hb _ _ (fun b h2 => ⟨h2.1, h2.2.1, hG _ h2.2.2⟩) h1) f
theorem w_and {F F' : M Bool} (ha : We PyData.bool da env F) (hb : We PyData.bool db env F') : We PyData.bool (dAndV da db) env (fun G => F fun a => andT a F' G) :=
  fun Q G hG f => ha _ _ (fun a h1 => by
    unfold andT at h1
    show if a = true then _ else _
    by_cases c : a = true
    · rw [if_pos c] at h1 ⊢; exact hb _ _ hG h1
    · rw [if_neg c] at h1 ⊢; exact hG _ h1) f
theorem w_or {F F' : M Bool} (ha : We PyData.bool da env F) (hb : We PyData.bool db env F') : We PyData.bool (dOrV da db) env (fun G => F fun a => orT a F' G) :=
  fun Q G hG f => ha _ _ (fun a h1 => by
    unfold orT at h1
    show if a = true then _ else _
    by_cases c : a = true
    · rw [if_pos c] at h1 ⊢; exact hG _ h1
    · rw [if_neg c] at h1 ⊢; exact hb _ _ hG h1) f
theorem w_andP {F : M Bool} {b : Bool} (ha : We PyData.bool da env F) (hb : We PyData.bool db env (fun G => G b)) : We PyData.bool (dAndV da db) env (fun G => F fun a => G (a && b)) := w_mono (w_and ha hb) fun G f => by
  have : (fun a => andT a (fun G => G b) G) = fun a => G (a && b) := by funext a; unfold andT; cases a <;> simp
  rw [this]; exact f
theorem w_orP {F : M Bool} {b : Bool} (ha : We PyData.bool da env F) (hb : We PyData.bool db env (fun G => G b)) : We PyData.bool (dOrV da db) env (fun G => F fun a => G (a || b)) := w_mono (w_or ha hb) fun G f => by
  have : (fun a => orT a (fun G => G b) G) = fun a => G (a || b) := by funext a; unfold orT; cases a <;> simp
  rw [this]; exact f
theorem w_not {F : M Bool} (ha : We PyData.bool da env F) : We PyData.bool (dNotV da) env (fun G => F fun a => G (!a)) := fun Q G hG f => ha _ _ (fun a h1 => hG _ h1) f
theorem t_val {F : M Bool} (ha : We PyData.bool da env F) : Wt (dTb da) env F := fun Q G hG f => ha _ _ (fun a h1 => hG _ h1) f
/-- the truth of what de gives -/
def Wtr (de : DEx) (env : Ev) (F : M Bool) : Prop := ∀ (Q G : Bool → Prop), (∀ b, G b → Q b) → F G → de env fun x => tru x Q
def TruOf (e : α → D) (r : α → Bool) : Prop := ∀ a (Q : Bool → Prop), Q (r a) → tru (e a) Q
theorem tr_I : TruOf PyData.int fun i => !decide (i = 0) := fun _ _ q => q
theorem tr_B : TruOf PyData.bool fun b => b := fun _ _ q => q
theorem tr_N : TruOf eN fun _ => false := fun _ _ q => q
theorem tr_L : TruOf (eL e) fun xs => !xs.isEmpty := fun xs Q q => by cases xs <;> exact q
theorem tr_U : TruOf (eU e) fun xs => !xs.isEmpty := fun xs Q q => by cases xs <;> exact q
theorem tr_of {r : α → Bool} (hr : TruOf e r) (h : We e de env F) : Wtr de env (fun G => F fun a => G (r a)) := fun Q G hG f => h _ _ (fun a g => hr a Q (hG _ g)) f
theorem tr_S {F : M Str} (h : We PyData.str de env F) : Wtr de env (fun G => F fun z => z.length ≤ sizeLine ∧ G (!decide ((z.length : Int) = 0))) := fun Q G hG f => h _ _ (fun a g => ⟨g.1, hG _ g.2⟩) f
theorem tr_D {F : M D} (h : We eD de env F) : Wtr de env (fun G => F fun z => ∃ b, tru z (fun k => k = b) ∧ G b) := fun Q G hG f => h _ _ (fun a ⟨b, t, g⟩ => by
    have k : ∀ d : D, tru d (fun k => k = b) → tru d Q := by
      intro d t
      have z := hG _ g
      cases d <;> simp only [tru] at t ⊢ <;> first | (rw [t]; exact z) | exact ⟨t.1, by rw [t.2]; exact z⟩
    exact k _ t) f
theorem tr_and {r : α → Bool} {C : M Bool} (hr : TruOf e r) (ha : We e da env F) (hb : Wtr db env C) : Wtr (dAndT da db) env (fun G => F fun a => andT (r a) C G) := fun Q G hG f => ha _ _ (fun a g => hr a _ (by
    unfold andT at g
    by_cases z : r a = true
    · rw [if_pos z] at g ⊢; exact hb _ _ hG g
    · rw [if_neg z] at g ⊢
      have w := hG _ g
      rw [← Bool.eq_false_iff.mpr z] at w
      exact hr a _ w)) f
theorem tr_or {r : α → Bool} {C : M Bool} (hr : TruOf e r) (ha : We e da env F) (hb : Wtr db env C) : Wtr (dOrT da db) env (fun G => F fun a => orT (r a) C G) := fun Q G hG f => ha _ _ (fun a g => hr a _ (by
    unfold orT at g
    by_cases z : r a = true
    · rw [if_pos z] at g ⊢
      have w := hG _ g
      rw [← z] at w
      exact hr a _ w
    · rw [if_neg z] at g ⊢; exact hb _ _ hG g)) f
theorem tr_mono {C C2 : M Bool} (h : Wtr de env C) (hF : ∀ G, C2 G → C G) : Wtr de env C2 := fun Q G hG f => h Q G hG (hF G f)
theorem tr_andP {r : α → Bool} {b : Bool} (hr : TruOf e r) (ha : We e da env F) (hb : Wtr db env (fun G => G b)) : Wtr (dAndT da db) env (fun G => F fun a => G (r a && b)) := tr_mono (tr_and hr ha hb) fun G f => by
  have : (fun a => andT (r a) (fun G => G b) G) = fun a => G (r a && b) := by funext a; unfold andT; cases r a <;> simp
  rw [this]; exact f
theorem tr_orP {r : α → Bool} {b : Bool} (hr : TruOf e r) (ha : We e da env F) (hb : Wtr db env (fun G => G b)) : Wtr (dOrT da db) env (fun G => F fun a => G (r a || b)) := tr_mono (tr_or hr ha hb) fun G f => by
  have : (fun a => orT (r a) (fun G => G b) G) = fun a => G (r a || b) := by funext a; unfold orT; cases r a <;> simp
  rw [this]; exact f
theorem w_notT {C : M Bool} (h : Wtr de env C) : We PyData.bool (dNotT de) env (fun G => C fun k => G (!k)) := fun Q G hG f => h (fun k => Q (.bool (!k))) (fun k => G (!k)) (fun k g => hG _ g) f
theorem t_tru {C : M Bool} (h : Wtr de env C) : Wt (dTru de) env C := fun Q G hG f => h Q G hG f
theorem t_yes : Wt dYes env (fun G => G true) := fun Q G hG f => hG _ f
section
variable {ta tb : Ev → (Bool → Prop) → Prop} {C C' : M Bool}
theorem t_and (ha : Wt ta env C) (hb : Wt tb env C') : Wt (dAnd ta tb) env (fun G => C fun a => andT a C' G) := fun Q G hG f => ha _ _ (fun a h1 => by
    unfold andT at h1
    by_cases c : a = true
    · rw [if_pos c] at h1 ⊢; exact hb _ _ hG h1
    · rw [if_neg c] at h1 ⊢; exact hG _ h1) f
theorem t_or (ha : Wt ta env C) (hb : Wt tb env C') : Wt (dOr ta tb) env (fun G => C fun a => orT a C' G) := fun Q G hG f => ha _ _ (fun a h1 => by
    unfold orT at h1
    by_cases c : a = true
    · rw [if_pos c] at h1 ⊢; exact hG _ h1
    · rw [if_neg c] at h1 ⊢; exact hb _ _ hG h1) f
theorem t_mono {C2 : M Bool} (h : Wt ta env C) (hF : ∀ G, C2 G → C G) : Wt ta env C2 := fun Q G hG f => h Q G hG (hF G f)
theorem t_andP {b : Bool} (ha : Wt ta env C) (hb : Wt tb env (fun G => G b)) : Wt (dAnd ta tb) env (fun G => C fun a => G (a && b)) := t_mono (t_and ha hb) fun G f => by
  have : (fun a => andT a (fun G => G b) G) = fun a => G (a && b) := by funext a; unfold andT; cases a <;> simp
  rw [this]; exact f
theorem t_orP {b : Bool} (ha : Wt ta env C) (hb : Wt tb env (fun G => G b)) : Wt (dOr ta tb) env (fun G => C fun a => G (a || b)) := t_mono (t_or ha hb) fun G f => by
  have : (fun a => orT a (fun G => G b) G) = fun a => G (a || b) := by funext a; unfold orT; cases a <;> simp
  rw [this]; exact f
theorem t_not (ha : Wt ta env C) : Wt (dNot ta) env (fun G => C fun a => G (!a)) := fun Q G hG f => ha _ _ (fun a h1 => hG _ h1) f
theorem w_if {A B : M α} (hc : Wt ta env C) (ha : We e da env A) (hb : We e db env B) : We e (dIfV ta da db) env (fun G => C fun k => iteT k A B G) := fun Q G hG f => hc _ _ (fun k h1 => by
    unfold iteT at h1
    by_cases c : k = true
    · rw [if_pos c] at h1 ⊢; exact ha _ _ hG h1
    · rw [if_neg c] at h1 ⊢; exact hb _ _ hG h1) f
theorem w_ifP {a b : α} (hc : Wt ta env C) (ha : We e da env (fun G => G a)) (hb : We e db env (fun G => G b)) : We e (dIfV ta da db) env (fun G => C fun k => G (if k = true then a else b)) := w_mono (w_if hc ha hb) fun G f => by
  have : (fun k => iteT k (fun G => G a) (fun G => G b) G) = fun k => G (if k = true then a else b) := by funext k; unfold iteT; cases k <;> simp
  rw [this]; exact f
end
theorem w_chain {op op' : D → D → (D → Prop) → Prop} {F3 : M γ} {e3 : γ → D} {r : α → β → Bool} {r' : β → γ → Bool} (ha : We e da env F) (hb : We e' db env F') (hc : We e3 dc' env F3)
    (h1 : ∀ a b Q, Q (.bool (r a b)) → op (e a) (e' b) Q) (h2 : ∀ a b Q, Q (.bool (r' a b)) → op' (e' a) (e3 b) Q) : We PyData.bool (dChain op op' da db dc') env (fun G => F fun a => F' fun b => andT (r a b) (fun G => F3 fun c => G (r' b c)) G) :=
  fun Q G hG f => ha _ _ (fun a f1 => hb _ _ (fun b f2 => h1 _ _ _ (by
    unfold andT at f2
    show if r a b = true then _ else _
    by_cases c : r a b = true
    · rw [if_pos c] at f2 ⊢; exact hc _ _ (fun c' f3 => h2 _ _ _ (hG _ f3)) f2
    · rw [if_neg c] at f2 ⊢; exact hG _ f2)) f1) f
theorem w_chainP {op op' : D → D → (D → Prop) → Prop} {c : γ} {e3 : γ → D} {r : α → β → Bool} {r' : β → γ → Bool} (ha : We e da env F) (hb : We e' db env F') (hc : We e3 dc' env (fun G => G c))
    (h1 : ∀ a b Q, Q (.bool (r a b)) → op (e a) (e' b) Q) (h2 : ∀ a b Q, Q (.bool (r' a b)) → op' (e' a) (e3 b) Q) : We PyData.bool (dChain op op' da db dc') env (fun G => F fun a => F' fun b => G (r a b && r' b c)) :=
  w_mono (w_chain ha hb hc h1 h2) fun G f => by
    have : (fun a => F' fun b => andT (r a b) (fun G => G (r' b c)) G) = fun a => F' fun b => G (r a b && r' b c) := by
      funext a; congr 1; funext b; unfold andT; cases r a b <;> simp
    rw [this]; exact f
theorem w_step2 (k : Nat) {F : M (List α)} (h : We (eL e) da env F) : We (eL e) (dStep2 k da) env (fun G => F fun xs => G (alt (xs.drop k))) := fun Q G hG f => h _ _ (fun xs h1 => by
  show Q (.list (alt ((xs.map e).drop k)))
  rw [← List.map_drop, alt_map]
  exact hG _ h1) f
theorem w_rev {F : M (List α)} (h : We (eL e) da env F) : We (eL e) (dRev da) env (fun G => F fun xs => G xs.reverse) := fun Q G hG f => h _ _ (fun xs h1 => by
  show Q (.list (xs.map e).reverse)
  rw [← List.map_reverse]
  exact hG _ h1) f
theorem w_chain3 {δ : Type} {op op' op'' : D → D → (D → Prop) → Prop} {dd' : DEx} {F3 : M γ} {F4 : M δ} {e3 : γ → D} {e4 : δ → D} {r : α → β → Bool} {r' : β → γ → Bool} {r'' : γ → δ → Bool} (ha : We e da env F) (hb : We e' db env F') (hc : We e3 dc' env F3) (hd : We e4 dd' env F4)
    (h1 : ∀ a b Q, Q (.bool (r a b)) → op (e a) (e' b) Q) (h2 : ∀ a b Q, Q (.bool (r' a b)) → op' (e' a) (e3 b) Q) (h3 : ∀ a b Q, Q (.bool (r'' a b)) → op'' (e3 a) (e4 b) Q) : We PyData.bool (dChain3 op op' op'' da db dc' dd') env (fun G => F fun a => F' fun b => andT (r a b) (fun G => F3 fun c => andT (r' b c) (fun G => F4 fun d => G (r'' c d)) G) G) :=
  fun Q G hG f => ha _ _ (fun a f1 => hb _ _ (fun b f2 => h1 _ _ _ (by
    unfold andT at f2
    show if r a b = true then _ else _
    by_cases c : r a b = true
    · rw [if_pos c] at f2 ⊢
      exact hc _ _ (fun c' f3 => h2 _ _ _ (by
        show if r' b c' = true then _ else _
        by_cases c2 : r' b c' = true
        · rw [if_pos c2] at f3 ⊢; exact hd _ _ (fun d f4 => h3 _ _ _ (hG _ f4)) f3
        · rw [if_neg c2] at f3 ⊢; exact hG _ f3)) f2
    · rw [if_neg c] at f2 ⊢; exact hG _ f2)) f1) f
theorem w_list {df : Ev → (List D → Prop) → Prop} {F : M (List α)} (h : Wl e df env F) : We (eL e) (dL df) env F := fun Q G hG f => h _ _ (fun xs h1 => hG _ h1) f
theorem l_nil : Wl e dNil env (fun G => G []) := fun Q G hG f => hG _ f
theorem l_cons {das : Ev → (List D → Prop) → Prop} {Fs : M (List α)} (h : We e da env F) (hs : Wl e das env Fs) : Wl e (dCons da das) env (fun G => F fun x => Fs fun xs => G (x :: xs)) := fun Q G hG f => h _ _ (fun a h1 => hs _ _ (fun xs h2 => hG (a :: xs) h2) h1) f
theorem l_dCL {xs : List α} {ds : List D} (h : ds = xs.map e) : Wl e (dCL ds) env (fun G => G xs) := fun Q G hG f => by show Q ds; rw [h]; exact hG _ f
theorem l_co {df : Ev → (List D → Prop) → Prop} {F : M (List α)} (c : α → β) (h : Wl e df env F) (hc : ∀ a, e' (c a) = e a) : Wl e' df env (fun G => F fun xs => G (xs.map c)) := fun Q G hG f => h _ _ (fun xs h1 => by
  have z := hG _ h1
  rw [List.map_map, show e' ∘ c = e from funext hc] at z
  exact z) f
theorem co_L (c : α → β) (hc : ∀ a, e' (c a) = e a) (xs : List α) : eL e' (xs.map c) = eL e xs := by unfold eL; rw [List.map_map, show e' ∘ c = e from funext hc]
theorem co_U (c : α → β) (hc : ∀ a, e' (c a) = e a) (xs : List α) : eU e' (xs.map c) = eU e xs := by unfold eU; rw [List.map_map, show e' ∘ c = e from funext hc]
theorem co_O (c : α → β) (hc : ∀ a, e' (c a) = e a) (o : Option α) : eO e' (o.map c) = eO e o := by cases o with | none => rfl | some a => exact hc a
/-- one part of a row that is known -/
theorem w_prj (i : Int) (p : α → β) (h : We e da env F) (hp : ∀ a, ∃ ds, seqOf (e a) = some ds ∧ dix ds i = some (e' (p a))) : We e' (dOp oIx da (dC (.int i))) env (fun G => F fun a => G (p a)) :=
  fun Q G hG f => h _ _ (fun a h1 => by
    obtain ⟨ds, s1, s2⟩ := hp a
    show oIx (e a) (.int i) Q
    unfold oIx
    rw [s1]
    show match dix ds i with | some d => Q d | none => False
    rw [s2]
    exact hG _ h1) f
theorem ix_run {x : D} {ds : List D} {i : Int} {d : D} {Q : D → Prop} (hs : seqOf x = some ds) (hd : dix ds i = some d) (q : Q d) : oIx x (.int i) Q := by
  unfold oIx
  rw [hs]
  show match dix ds i with | some d => Q d | none => False
  rw [hd]
  exact q
theorem w_ix {F : M (List α)} {F' : M Int} {es : List α → D} (h : We es da env F) (hi : We PyData.int db env F') (hs : ∀ xs, seqOf (es xs) = some (xs.map e)) : We e (dOp oIx da db) env (fun G => F fun xs => F' fun i => ixT xs i G) :=
  fun Q G hG f => h _ _ (fun xs h1 => hi _ _ (fun i ⟨a, ha, h2⟩ => ix_run (hs xs) (show dix (xs.map e) i = some (e a) by unfold dix; rw [atI_map, ha]; rfl) (hG _ h2)) h1) f
/-- a part of unknown data -/
def ixD (d : D) (i : Int) : M D := fun G => oIx d (.int i) G
theorem oIx_mono {x y : D} {Q R : D → Prop} (h : ∀ d, Q d → R d) (q : oIx x y Q) : oIx x y R := by
  unfold oIx at q ⊢
  split at q
  · rename_i ds i e
    split at q
    · exact h _ q
    · exact q.elim
  · exact q.elim
theorem w_ixD {F : M D} {F' : M Int} (h : We eD da env F) (hi : We PyData.int db env F') : We eD (dOp oIx da db) env (fun G => F fun x => F' fun i => ixD x i G) :=
  fun Q G hG f => h _ _ (fun x h1 => hi _ _ (fun i h2 => oIx_mono hG h2) h1) f
def ixST (z : Str) (i : Int) : M Str := fun G => z.length ≤ sizeLine ∧ ∃ c, atI z.cps.toList i = some c ∧ G ⟨#[c]⟩
theorem w_ixS {F : M Str} {F' : M Int} (h : We PyData.str da env F) (hi : We PyData.int db env F') : We PyData.str (dOp oIxS da db) env (fun G => F fun xs => F' fun i => ixST xs i G) :=
  fun Q G hG f => h _ _ (fun xs h1 => hi _ _ (fun i ⟨l, c, ha, h2⟩ => ⟨l, c, ha, hG _ h2⟩) h1) f
theorem o_no : Wo dNoP env (fun G => G none) := fun Q G hG f => hG _ f
theorem o_some {F : M Int} (h : We PyData.int da env F) : Wo (dPart da) env (fun G => F fun i => G (some i)) := fun Q G hG f => h _ _ (fun a h1 => hG _ h1) f
theorem cut_map {α β : Type} (f : α → β) (xs : List α) (lo hi : Option Int) : cutD (xs.map f) lo hi = (cutD xs lo hi).map f := by
  unfold cutD
  rw [List.length_map, List.map_take, List.map_drop]
section
variable {dl dh : Ev → (Option Int → Prop) → Prop} {Fl Fh : M (Option Int)}
theorem w_slU {F : M (List α)} (h : We (eU e) da env F) (hl : Wo dl env Fl) (hh : Wo dh env Fh) : We (eU e) (dSlT da dl dh) env (fun G => F fun xs => Fl fun l => Fh fun k => G (cutD xs l k)) :=
  fun Q G hG f => h _ _ (fun xs h1 => hl _ _ (fun l h2 => hh _ _ (fun k h3 => by show Q (.tuple (cutD (xs.map e) l k)); rw [cut_map]; exact hG _ h3) h2) h1) f
theorem w_slL {F : M (List α)} (h : We (eL e) da env F) (hl : Wo dl env Fl) (hh : Wo dh env Fh) : Wl e (dSlL da dl dh) env (fun G => F fun xs => Fl fun l => Fh fun k => G (cutD xs l k)) :=
  fun Q G hG f => h _ _ (fun xs h1 => hl _ _ (fun l h2 => hh _ _ (fun k h3 => by show Q (cutD (xs.map e) l k); rw [cut_map]; exact hG _ h3) h2) h1) f
theorem w_slS {F : M Str} (h : We PyData.str da env F) (hl : Wo dl env Fl) (hh : Wo dh env Fh) : We PyData.str (dSlS da dl dh) env (fun G => F fun xs => Fl fun l => Fh fun k => xs.length ≤ sizeLine ∧ G (cutS xs l k)) :=
  fun Q G hG f => h _ _ (fun xs h1 => hl _ _ (fun l h2 => hh _ _ (fun k h3 => ⟨h3.1, hG _ h3.2⟩) h2) h1) f
end
theorem w_cat {F F' : M (List α)} (h : We (eL e) da env F) (h' : We (eL e) db env F') : We (eL e) (dOp oCat da db) env (fun G => F fun a => F' fun b => a.length + b.length ≤ sizeLine ∧ G (a ++ b)) :=
  fun Q G hG f => h _ _ (fun xs h1 => h' _ _ (fun ys h2 => by
    show (xs.map e).length + (ys.map e).length ≤ sizeLine ∧ Q (.list (xs.map e ++ ys.map e))
    rw [List.length_map, List.length_map, ← List.map_append]
    exact ⟨h2.1, hG _ h2.2⟩) h1) f
theorem w_catU {F F' : M (List α)} (h : We (eU e) da env F) (h' : We (eU e) db env F') : We (eU e) (dOp oCatT da db) env (fun G => F fun a => F' fun b => a.length + b.length ≤ sizeLine ∧ G (a ++ b)) :=
  fun Q G hG f => h _ _ (fun xs h1 => h' _ _ (fun ys h2 => by
    show (xs.map e).length + (ys.map e).length ≤ sizeLine ∧ Q (.tuple (xs.map e ++ ys.map e))
    rw [List.length_map, List.length_map, ← List.map_append]
    exact ⟨h2.1, hG _ h2.2⟩) h1) f
theorem w_catG {e3 : γ → D} (c : α → β → γ) (h : We e da env F) (h' : We e' db env F') (hc : ∀ a b, ∃ xs ys, e a = .tuple xs ∧ e' b = .tuple ys ∧ e3 (c a b) = .tuple (xs ++ ys) ∧ xs.length + ys.length ≤ sizeLine) : We e3 (dOp oCatT da db) env (fun G => F fun a => F' fun b => G (c a b)) :=
  fun Q G hG f => h _ _ (fun a h1 => h' _ _ (fun b h2 => by
    obtain ⟨xs, ys, e1, e2, e3, hl⟩ := hc a b
    show oCatT (e a) (e' b) Q
    rw [e1, e2]
    refine ⟨hl, ?_⟩
    rw [← e3]
    exact hG _ h2) h1) f
theorem w_slG {dl dh : Ev → (Option Int → Prop) → Prop} {l k : Option Int} (c : α → β) (h : We e da env F) (hl : Wo dl env (fun G => G l)) (hh : Wo dh env (fun G => G k)) (hc : ∀ a, ∃ xs, e a = .tuple xs ∧ e' (c a) = .tuple (cutD xs l k)) : We e' (dSlT da dl dh) env (fun G => F fun a => G (c a)) :=
  fun Q G hG f => h _ _ (fun a h1 => hl _ _ (fun l' (h2 : l' = l ∧ G (c a)) => hh _ _ (fun k' (h3 : k' = k) => by
    obtain ⟨xs, e1, e2⟩ := hc a
    rw [e1, h2.1, h3]
    show Q (.tuple (cutD xs l k))
    rw [← e2]
    exact hG _ h1) rfl) ⟨rfl, h1⟩) f
theorem w_catS {F F' : M Str} (h : We PyData.str da env F) (h' : We PyData.str db env F') : We PyData.str (dOp oCatS da db) env (fun G => F fun a => F' fun b => a.length + b.length ≤ sizeLine ∧ G (a ++ b)) :=
  fun Q G hG f => h _ _ (fun xs h1 => h' _ _ (fun ys h2 => ⟨h2.1, hG _ h2.2⟩) h1) f
theorem rep_map {α β : Type} (f : α → β) (k : Nat) (xs : List α) : (List.replicate k (xs.map f)).flatten = ((List.replicate k xs).flatten).map f := by
  rw [List.map_flatten, List.map_replicate]
theorem w_rep {F : M (List α)} {F' : M Int} (h : We (eL e) da env F) (h' : We PyData.int db env F') : We (eL e) (dOp oRep da db) env (fun G => F fun a => F' fun k => (-(2 ^ 63) ≤ k ∧ k < 2 ^ 63) ∧ a.length * k.toNat ≤ 16777216 ∧ G (List.replicate k.toNat a).flatten) :=
  fun Q G hG f => h _ _ (fun xs h1 => h' _ _ (fun k h2 => by
    show _ ∧ (xs.map e).length * _ ≤ _ ∧ Q (.list (List.replicate k.toNat (xs.map e)).flatten)
    rw [List.length_map, rep_map]
    exact ⟨h2.1, h2.2.1, hG _ h2.2.2⟩) h1) f
theorem w_repU {F : M (List α)} {F' : M Int} (h : We (eU e) da env F) (h' : We PyData.int db env F') : We (eU e) (dOp oRepT da db) env (fun G => F fun a => F' fun k => a ≠ [] ∧ (0 ≤ k ∧ k ≤ 10000) ∧ a.length ≤ 100 ∧ G (List.replicate k.toNat a).flatten) :=
  fun Q G hG f => h _ _ (fun xs h1 => h' _ _ (fun k h2 => by
    show xs.map e ≠ [] ∧ _ ∧ (xs.map e).length ≤ _ ∧ Q (.tuple (List.replicate k.toNat (xs.map e)).flatten)
    rw [List.length_map, rep_map]
    exact ⟨fun z => h2.1 (by simpa using z), h2.2.1, h2.2.2.1, hG _ h2.2.2.2⟩) h1) f
theorem w_mulS {F : M Str} {F' : M Int} (h : We PyData.str da env F) (h' : We PyData.int db env F') : We PyData.str (dOp oMulS da db) env (fun G => F fun z => F' fun i => z.length ≤ 16 ∧ (-(2 ^ 63) ≤ i ∧ i ≤ 1048576) ∧ G (Txt.mul z i)) :=
  fun Q G hG f => h _ _ (fun xs h1 => h' _ _ (fun ys h2 => ⟨h2.1, h2.2.1, hG _ h2.2.2⟩) h1) f
theorem lookup_T {e : α → D} {z : Str} {a : α} : ∀ {tab : List (Str × α)}, tab.lookup z = some a → (tab.map fun p => (p.1, e p.2)).lookup z = some (e a)
  | [], h => nomatch h
  | p :: r, h => by
    rw [List.map_cons]
    unfold List.lookup at h ⊢
    split
    · rename_i hz
      rw [hz] at h
      have h' : some p.2 = some a := h
      cases h'
      rfl
    · rename_i hz
      rw [hz] at h
      exact lookup_T (tab := r) h
theorem w_kd {tab : List (Str × α)} {ds : List (Str × D)} {F : M Str} (h : We PyData.str db env F) (ht : ds = tab.map fun p => (p.1, e p.2)) : We e (dKd ds db) env (fun G => F fun z => ∃ a, tab.lookup z = some a ∧ G a) :=
  fun Q G hG f => h _ _ (fun z ⟨a, ha, g⟩ => by
    have hl : ds.lookup z = some (e a) := ht ▸ lookup_T ha
    show match ds.lookup z with | some d => Q d | none => False
    rw [hl]
    exact hG _ g) f
/-! built-ins -/
theorem w_len {F : M (List α)} {es : List α → D} (h : We es da env F) (hs : ∀ xs, seqOf (es xs) = some (xs.map e)) : We PyData.int (dCB oLen (dCons da dNil)) env (fun G => F fun xs => G (xs.length : Int)) :=
  fun Q G hG f => h _ _ (fun xs h1 => by
    show match seqOf (es xs) with | some ds => Q (.int ds.length) | none => False
    rw [hs]
    show Q (.int ((xs.map e).length : Nat))
    rw [List.length_map]
    exact hG _ h1) f
theorem w_lenS {F : M Str} (h : We PyData.str da env F) : We PyData.int (dCB oLenS (dCons da dNil)) env (fun G => F fun z => z.length ≤ sizeLine ∧ G (z.length : Int)) :=
  fun Q G hG f => h _ _ (fun xs h1 => ⟨h1.1, hG _ h1.2⟩) f
theorem w_int {F : M Int} (h : We PyData.int da env F) : We PyData.int (dCB oInt (dCons da dNil)) env F := fun Q G hG f => h _ _ (fun xs h1 => hG _ h1) f
theorem w_intB {F : M Bool} (h : We PyData.bool da env F) : We PyData.int (dCB oInt (dCons da dNil)) env (fun G => F fun k => G (if k = true then 1 else 0)) := fun Q G hG f => h _ _ (fun xs h1 => hG _ h1) f
theorem w_abs {F : M Int} (h : We PyData.int da env F) : We PyData.int (dCB oAbs (dCons da dNil)) env (fun G => F fun i => G (if i < 0 then -i else i)) := fun Q G hG f => h _ _ (fun xs h1 => hG _ h1) f
theorem w_I2 {g : Int → Int → Int} {F F' : M Int} (h : We PyData.int da env F) (h' : We PyData.int db env F') : We PyData.int (dCB (oI2 g) (dCons da (dCons db dNil))) env (fun G => F fun i => F' fun j => G (g i j)) :=
  fun Q G hG f => h _ _ (fun xs h1 => h' _ _ (fun j h2 => hG _ h2) h1) f
theorem ints_T (ns : List Int) : intsOf (ns.map PyData.int) = some ns := by simpa using ints_map (fun i : Int => i) ns
theorem bools_T (ns : List Bool) : boolsOf (ns.map PyData.bool) = some ns := by simpa using bools_map (fun i : Bool => i) ns
theorem w_sum {F : M (List Int)} (h : We (eL PyData.int) da env F) : We PyData.int (dCB oSum (dCons da dNil)) env (fun G => F fun xs => G xs.sum) :=
  fun Q G hG f => h _ _ (fun xs h1 => by
    show match intsOf (xs.map PyData.int) with | some ns => Q (.int ns.sum) | none => False
    rw [ints_T]
    exact hG _ h1) f
theorem w_bs {g : List Bool → Bool} {F : M (List Bool)} (h : We (eL PyData.bool) da env F) : We PyData.bool (dCB (oBs g) (dCons da dNil)) env (fun G => F fun xs => G (g xs)) :=
  fun Q G hG f => h _ _ (fun xs h1 => by
    show match boolsOf (xs.map PyData.bool) with | some ns => Q (.bool (g ns)) | none => False
    rw [bools_T]
    exact hG _ h1) f
theorem w_tupOf {F : M (List α)} {es : List α → D} (h : We es da env F) (hs : ∀ xs, seqOf (es xs) = some (xs.map e)) : We (eU e) (dCB oTupOf (dCons da dNil)) env F :=
  fun Q G hG f => h _ _ (fun xs h1 => by
    show match seqOf (es xs) with | some ds => Q (.tuple ds) | none => False
    rw [hs]
    exact hG _ h1) f
theorem l_of {F : M (List α)} {es : List α → D} (h : We es da env F) (hs : ∀ xs, seqOf (es xs) = some (xs.map e)) : Wl e (dSeqOf da) env F :=
  fun Q G hG f => h _ _ (fun xs h1 => by
    show match seqOf (es xs) with | some ds => Q ds | none => False
    rw [hs]
    exact hG _ h1) f
theorem w_repr (h : We e da env F) : We PyData.str (dCB oRepr (dCons da dNil)) env (fun G => F fun a => reprT (e a) G) := fun Q G hG f => h _ _ (fun xs h1 => ⟨h1.1, hG _ h1.2⟩) f
theorem w_str {F : M Int} (h : We PyData.int da env F) : We PyData.str (dCB oStr (dCons da dNil)) env (fun G => F fun i => i.natAbs.log2 < 1920 ∧ G (toString i)) := fun Q G hG f => h _ _ (fun xs h1 => ⟨h1.1, hG _ h1.2⟩) f
theorem w_ord {F : M Str} (h : We PyData.str da env F) : We PyData.int (dCB oOrd (dCons da dNil)) env (fun G => F fun x => x.length = 1 ∧ G (x.cps.getD 0 0 : Nat)) := fun Q G hG f => h _ _ (fun xs h1 => ⟨h1.1, hG _ h1.2⟩) f
theorem w_intS {F : M Str} (h : We PyData.str da env F) : We PyData.int (dCB oIntS (dCons da dNil)) env (fun G => F fun a => ∃ n, PySem.intText? a = some n ∧ a.length ≤ 640 ∧ G n) := fun Q G hG f => h _ _ (fun xs ⟨n, h1, h2, h3⟩ => ⟨n, h1, h2, hG _ h3⟩) f
theorem w_isi {n : String} (h : We e da env F) : We PyData.bool (dIsi n da) env (fun G => F fun a => G (isTy n (e a))) := fun Q G hG f => h _ _ (fun xs h1 => hG _ h1) f
theorem w_lower {F : M Str} (h : We PyData.str da env F) : We PyData.str (dM0 sLower da) env (fun G => F fun a => a.length ≤ 5592405 ∧ G (Txt.lower a)) := fun Q G hG f => h _ _ (fun xs h1 => ⟨h1.1, hG _ h1.2⟩) f
theorem w_upper {F : M Str} (h : We PyData.str da env F) : We PyData.str (dM0 sUpper da) env (fun G => F fun a => a.length ≤ 5592405 ∧ G (Txt.upper a)) := fun Q G hG f => h _ _ (fun xs h1 => ⟨h1.1, hG _ h1.2⟩) f
theorem w_starts {F F' : M Str} (h : We PyData.str da env F) (h' : We PyData.str db env F') : We PyData.bool (dM1 sStarts da db) env (fun G => F fun a => F' fun b => G (Txt.startswith a b)) := fun Q G hG f => h _ _ (fun xs h1 => h' _ _ (fun y h2 => hG _ h2) h1) f
theorem w_ends {F F' : M Str} (h : We PyData.str da env F) (h' : We PyData.str db env F') : We PyData.bool (dM1 sEnds da db) env (fun G => F fun a => F' fun b => G (Txt.endswith a b)) := fun Q G hG f => h _ _ (fun xs h1 => h' _ _ (fun y h2 => hG _ h2) h1) f
theorem l_split {F F' : M Str} (h : We PyData.str da env F) (h' : We PyData.str db env F') : Wl PyData.str (dSplit da db) env (fun G => F fun a => F' fun b => (b.length == 0) = false ∧ a.length + 2 ≤ 16777216 ∧ G (Txt.split a b)) :=
  fun Q G hG f => h _ _ (fun xs h1 => h' _ _ (fun y h2 => ⟨h2.1, h2.2.1, hG _ h2.2.2⟩) h1) f
theorem w_join {F : M Str} {F' : M (List Str)} {es : List Str → D} (h : We PyData.str da env F) (h' : We es db env F') (hs : ∀ xs, seqOf (es xs) = some (xs.map PyData.str)) : We PyData.str (dJoin da db) env (fun G => F fun a => F' fun ys => (ys.map (·.length)).sum + ys.length * a.length ≤ 16777216 ∧ G (Txt.join a ys)) :=
  fun Q G hG f => h _ _ (fun a h1 => h' _ _ (fun ys h2 => ⟨ys, hs ys, h2.1, hG _ h2.2⟩) h1) f
theorem w_fmtS {F : M Str} (h : We PyData.str da env F) : We PyData.str (dFmt da) env (fun G => F fun y => y.length ≤ 16777216 ∧ G y) := fun Q G hG f => h _ _ (fun xs h1 => ⟨h1.1, hG _ h1.2⟩) f
theorem w_fmtI {F : M Int} (h : We PyData.int da env F) : We PyData.str (dFmt da) env (fun G => F fun y => y.natAbs.log2 < 1920 ∧ G (toString y)) := fun Q G hG f => h _ _ (fun xs h1 => ⟨h1.1, hG _ h1.2⟩) f
def Wj (dj : Str → Ev → (Str → Prop) → Prop) (env : Ev) (F : Str → M Str) : Prop := ∀ (acc : Str) (Q G : Str → Prop), (∀ a, G a → Q a) → F acc G → dj acc env Q
theorem j_nil : Wj dJn env (fun acc G => G acc) := fun acc Q G hG f => hG _ f
theorem j_cons {dj : Str → Ev → (Str → Prop) → Prop} {F : M Str} {Fs : Str → M Str} (h : We PyData.str da env F) (hs : Wj dj env Fs) : Wj (dJc da dj) env (fun acc G => F fun y => (acc ++ y).length ≤ 16777216 ∧ Fs (acc ++ y) G) :=
  fun acc Q G hG f => h _ _ (fun y h1 => ⟨h1.1, hs _ _ _ hG h1.2⟩) f
theorem w_fs {dj : Str → Ev → (Str → Prop) → Prop} {Fs : Str → M Str} (hs : Wj dj env Fs) : We PyData.str (dFs dj) env (Fs Str.empty) := fun Q G hG f => hs _ _ _ hG f
/-! draws -/
theorem w_take {i : Nat} {F : M Int} (hst : eget env i = some .st) (h : We PyData.int da env F) : We PyData.int (dCallS i (F1 sTake) (dCons da dNil)) env (fun G => F fun m => takeT m G) :=
  fun Q G hG f => by unfold dCallS; rw [hst]; exact h _ _ (fun m h1 => ⟨h1.1, h1.2.1, fun r r0 r1 => hG _ (h1.2.2 r r0 r1)⟩) f
theorem w_take0 {i : Nat} {F : M Int} (hst : eget env i = some .st) (h : We PyData.int da env F) : We PyData.int (dCallS i (F1 sTake0) (dCons da dNil)) env (fun G => F fun m => take0T m G) :=
  fun Q G hG f => by unfold dCallS; rw [hst]; exact h _ _ (fun m h1 => ⟨h1.1, fun r r0 r1 => hG _ (h1.2 r r0 r1)⟩) f
theorem w_pick {i : Nat} {F : M (List α)} {es : List α → D} (hst : eget env i = some .st) (h : We es da env F) (hs : ∀ xs, seqOf (es xs) = some (xs.map e)) : We e (dCallS i (F1 sPick) (dCons da dNil)) env (fun G => F fun xs => pickT xs G) :=
  fun Q G hG f => by unfold dCallS; rw [hst]; exact h _ _ (fun xs h1 => by
    show sPick (es xs) Q
    unfold sPick
    rw [hs]
    refine ⟨fun z => h1.1 (by simpa using z), by rw [List.length_map]; exact h1.2.1, fun d hd => ?_⟩
    obtain ⟨a, ha, rfl⟩ := List.mem_map.mp hd
    exact hG _ (h1.2.2 a ha)) f
theorem w_num {i : Nat} {F F' : M Int} (hst : eget env i = some .st) (h : We PyData.int da env F) (h' : We PyData.int db env F') : We PyData.int (dCallS i (F2 sNumber) (dCons da (dCons db dNil))) env (fun G => F fun a => F' fun b => numT a b G) :=
  fun Q G hG f => by unfold dCallS; rw [hst]; exact h _ _ (fun a h1 => h' _ _ (fun b h2 => ⟨h2.1, h2.2.1, fun r r0 r1 => hG _ (h2.2.2 r r0 r1)⟩) h1) f
theorem w_same {n : Nat} (h : We e da env F) (h' : We e' db env F') : We PyData.bool (dCall (F2 (sSame n)) (dCons da (dCons db dNil))) env (fun G => F fun a => F' fun b => sameT n (e a) (e' b) G) :=
  fun Q G hG f => h _ _ (fun a h1 => h' _ _ (fun b h2 => ⟨h2.1, h2.2.1, hG _ h2.2.2⟩) h1) f
/-! what is walked -/
theorem i_list {F : M (List α)} (h : We (eL e) da env F) : Wl e (dItL da) env F := fun Q G hG f => h _ _ (fun xs h1 => hG _ h1) f
theorem i_tup {F : M (List α)} (h : We (eU e) da env F) : Wl e (dItT da) env F := fun Q G hG f => h _ _ (fun xs h1 => hG _ h1) f
def charsT (z : Str) : List Str := z.cps.toList.map fun c => ⟨#[c]⟩
theorem chars_T (z : Str) : chars z = (charsT z).map PyData.str := by unfold chars charsT; rw [List.map_map]; rfl
theorem i_str {F : M Str} (h : We PyData.str da env F) : Wl PyData.str (dItS da) env (fun G => F fun z => G (charsT z)) := fun Q G hG f => h _ _ (fun z h1 => by show Q (chars z); rw [chars_T]; exact hG _ h1) f
theorem i_r1 {F : M Int} (h : We PyData.int da env F) : Wl PyData.int (dR1 (dCons da dNil)) env (fun G => F fun j => (-(2 ^ 62) ≤ j ∧ j < 2 ^ 62) ∧ G (rngT 0 j.toNat)) :=
  fun Q G hG f => h _ _ (fun j h1 => ⟨h1.1.1, h1.1.2, by rw [rng_T]; exact hG _ h1.2⟩) f
theorem i_r2 {F F' : M Int} (h : We PyData.int da env F) (h' : We PyData.int db env F') : Wl PyData.int (dR2 (dCons da (dCons db dNil))) env (fun G => F fun i => F' fun j => (-(2 ^ 62) ≤ i ∧ i < 2 ^ 62 ∧ -(2 ^ 62) ≤ j ∧ j < 2 ^ 62) ∧ G (rngT i (j - i).toNat)) :=
  fun Q G hG f => h _ _ (fun i h1 => h' _ _ (fun j h2 => ⟨h2.1, by rw [rng_T]; exact hG _ h2.2⟩) h1) f
theorem i_zipL {F : M (List α)} {F' : M (List β)} (h : We (eL e) da env F) (h' : We (eL e') db env F') : Wl (eT2 e e') (dZip (dCons da (dCons db dNil))) env (fun G => F fun xs => F' fun ys => G (xs.zip ys)) :=
  fun Q G hG f => h _ _ (fun xs h1 => h' _ _ (fun ys h2 => by show Q (zipD (xs.map e) (ys.map e')); rw [zip_T]; exact hG _ h2) h1) f
theorem i_zipU {F : M (List α)} {F' : M (List β)} (h : We (eU e) da env F) (h' : We (eU e') db env F') : Wl (eT2 e e') (dZip (dCons da (dCons db dNil))) env (fun G => F fun xs => F' fun ys => G (xs.zip ys)) :=
  fun Q G hG f => h _ _ (fun xs h1 => h' _ _ (fun ys h2 => by show Q (zipD (xs.map e) (ys.map e')); rw [zip_T]; exact hG _ h2) h1) f
theorem i_enumL {F : M (List α)} (h : We (eL e) da env F) : Wl (eT2 PyData.int e) (dEnum (dCons da dNil)) env (fun G => F fun xs => G (enumT 0 xs)) :=
  fun Q G hG f => h _ _ (fun xs h1 => by show Q (enumD 0 (xs.map e)); rw [enum_T]; exact hG _ h1) f
theorem i_enumU {F : M (List α)} (h : We (eU e) da env F) : Wl (eT2 PyData.int e) (dEnumT (dCons da dNil)) env (fun G => F fun xs => G (enumT 0 xs)) :=
  fun Q G hG f => h _ _ (fun xs h1 => by show Q (enumD 0 (xs.map e)); rw [enum_T]; exact hG _ h1) f
/-! comprehensions -/
section
variable {vs : List Nat} {di : Ev → (List D → Prop) → Prop} {g : D → Ev → (Ev → Prop) → Prop} {c : Ev → (Bool → Prop) → Prop} {ee : DEx}
theorem lc_T {B : α → M (Option β)} {env1 : Ev} (hb : ∀ a (R : Option D → Prop) (Go : Option β → Prop), (∀ o, Go o → R (o.map e')) → B a Go → g (e a) env1 fun env2 => c env2 fun b => if b = true then ee env2 fun x => R (some x) else R none) :
    ∀ (xs : List α) (Q : List D → Prop) (G : List β → Prop), (∀ ys, G ys → Q (ys.map e')) → lcT B xs G → lcD g c ee (xs.map e) env1 Q
  | [], Q, G, hG, f => hG [] f
  | a :: r, Q, G, hG, f => hb a (fun o => match o with | some x => lcD g c ee (r.map e) env1 fun xs => Q (x :: xs) | none => lcD g c ee (r.map e) env1 Q) _ (fun o h => match o, h with
    | some b, h => lc_T hb r (fun xs => Q (e' b :: xs)) (fun ys => G (b :: ys)) (fun ys hy => hG _ hy) h
    | none, h => lc_T hb r Q G hG h) f
theorem l_lc {B : α → M (Option β)} {F : M (List α)} (hi : Wl e di env F) (hn : noOwn vs env = true) (hb : ∀ a (R : Option D → Prop) (Go : Option β → Prop), (∀ o, Go o → R (o.map e')) → B a Go → g (e a) (wipeE env vs) fun env2 => c env2 fun b => if b = true then ee env2 fun x => R (some x) else R none) :
    Wl e' (dLc vs di g c ee) env (fun G => F fun xs => compT xs B G) := fun Q G hG f => ⟨hn, hi _ _ (fun xs h1 => ⟨by rw [List.length_map]; exact h1.1, lc_T hb xs Q G hG h1.2⟩) f⟩
theorem l_mono {df : Ev → (List D → Prop) → Prop} {F F2 : M (List α)} (h : Wl e df env F) (hF : ∀ G, F2 G → F G) : Wl e df env F2 := fun Q G hG f => h Q G hG (hF G f)
theorem l_map {f : α → β} {F : M (List α)} (hi : Wl e di env F) (hn : noOwn vs env = true) (hb : ∀ a (R : Option D → Prop) (Go : Option β → Prop), (∀ o, Go o → R (o.map e')) → Go (some (f a)) → g (e a) (wipeE env vs) fun env2 => c env2 fun b => if b = true then ee env2 fun x => R (some x) else R none) :
    Wl e' (dLc vs di g c ee) env (fun G => F fun xs => xs.length ≤ 100000 ∧ G (xs.map f)) := l_mono (l_lc (B := fun a Go => Go (some (f a))) hi hn hb) fun G h => by
  have : (fun xs => compT xs (fun a (Go : Option β → Prop) => Go (some (f a))) G) = fun xs : List α => xs.length ≤ 100000 ∧ G (xs.map f) := by funext xs; unfold compT; rw [lcT_map]
  rw [this]; exact h
theorem l_filter {t : α → Bool} {f : α → β} {F : M (List α)} (hi : Wl e di env F) (hn : noOwn vs env = true) (hb : ∀ a (R : Option D → Prop) (Go : Option β → Prop), (∀ o, Go o → R (o.map e')) → (if t a = true then Go (some (f a)) else Go none) → g (e a) (wipeE env vs) fun env2 => c env2 fun b => if b = true then ee env2 fun x => R (some x) else R none) :
    Wl e' (dLc vs di g c ee) env (fun G => F fun xs => xs.length ≤ 100000 ∧ G ((xs.filter t).map f)) := l_mono (l_lc (B := fun a Go => if t a = true then Go (some (f a)) else Go none) hi hn hb) fun G h => by
  have : (fun xs => compT xs (fun a (Go : Option β → Prop) => if t a = true then Go (some (f a)) else Go none) G) = fun xs : List α => xs.length ≤ 100000 ∧ G ((xs.filter t).map f) := by funext xs; unfold compT; rw [lcT_filter]
  rw [this]; exact h
theorem b_all {env1 : Ev} {E : M β} (he : We e' ee env1 E) {R : Option D → Prop} {Go : Option β → Prop} (hR : ∀ o, Go o → R (o.map e')) (f : E fun b => Go (some b)) : dYes env1 fun b => if b = true then ee env1 fun x => R (some x) else R none :=
  he _ _ (fun b h => hR (some b) h) f
theorem b_if {env1 : Ev} {C : M Bool} {E : M β} (hc : Wt c env1 C) (he : We e' ee env1 E) {R : Option D → Prop} {Go : Option β → Prop} (hR : ∀ o, Go o → R (o.map e')) (f : C fun k => if k = true then E fun b => Go (some b) else Go none) : c env1 fun b => if b = true then ee env1 fun x => R (some x) else R none :=
  hc _ _ (fun k h => by
    by_cases z : k = true
    · rw [if_pos z] at h ⊢; exact he _ _ (fun b h => hR (some b) h) h
    · rw [if_neg z] at h ⊢; exact hR none h) f
end
/-! statements -/
section
variable {X : Ev → Prop} {Rt : D → Prop} {Bk Ct : Ev → Prop} {a b : DS}
theorem s_next (h : X env) : dNext ⟨X, Rt, Bk, Ct⟩ env := h
theorem s_break (h : Bk env) : dBreak ⟨X, Rt, Bk, Ct⟩ env := h
theorem s_cont (h : Ct env) : dCont ⟨X, Rt, Bk, Ct⟩ env := h
theorem s_seq0 (h : a ⟨b ⟨X, Rt, Bk, Ct⟩, Rt, Bk, Ct⟩ env) : dSeq a b ⟨X, Rt, Bk, Ct⟩ env := h
theorem s_frz0 {i : Nat} {env' : Ev} (hE : frz env i = env') (h : a ⟨X, Rt, Bk, Ct⟩ env') : dFrz i a ⟨X, Rt, Bk, Ct⟩ env := by unfold dFrz; rw [hE]; exact h
theorem s_ret {G : α → Prop} (he : We e de env F) (hG : ∀ a, G a → Rt (e a)) (q : F G) : dRet de ⟨X, Rt, Bk, Ct⟩ env := he _ _ hG q
theorem s_retN' {er : α → D} {x : α} {G : α → Prop} (hG : ∀ a, G a → Rt (er a)) (hx : er x = .none) (q : G x) : dRetN ⟨X, Rt, Bk, Ct⟩ env := by
  have := hG x q
  rw [hx] at this
  exact this
theorem s_asg {i : Nat} {G : α → Prop} (he : We e de env F) (env' : α → Ev) (hE : ∀ a, eset env i (sv (e a)) = env' a) (hr : ∀ a, G a → X (env' a)) (q : F G) : dAsg de (gN i) ⟨X, Rt, Bk, Ct⟩ env := he _ _ (fun a h => by show X (eset env i (sv (e a))); rw [hE]; exact hr a h) q
theorem s_pat {G : α → Prop} {g : D → Ev → (Ev → Prop) → Prop} (he : We e de env F) (hr : ∀ a, G a → g (e a) env X) (q : F G) : dAsg de g ⟨X, Rt, Bk, Ct⟩ env := he _ _ (fun a h => hr a h) q
theorem s_drop {G : α → Prop} (he : We e de env F) (hr : ∀ a, G a → X env) (q : F G) : dDrop de ⟨X, Rt, Bk, Ct⟩ env := he _ _ (fun a h => hr a h) q
theorem s_own {i : Nat} {df : Ev → (List D → Prop) → Prop} {F : M (List α)} {G : List α → Prop} (he : Wl e df env F) (hi : decide (i < env.length) = true) (env' : List α → Ev) (hE : ∀ xs, eset env i (so (xs.map e)) = env' xs) (hr : ∀ xs, G xs → X (env' xs)) (q : F G) : dOwn i df ⟨X, Rt, Bk, Ct⟩ env :=
  he _ _ (fun a h => ⟨of_decide_eq_true hi, by rw [hE]; exact hr a h⟩) q
theorem s_own0 {i : Nat} {env' : Ev} {P : Prop} (hi : decide (i < env.length) = true) (hE : eset env i (so []) = env') (hr : P → X env') (q : P) : dOwn i (dCL []) ⟨X, Rt, Bk, Ct⟩ env := ⟨of_decide_eq_true hi, by rw [hE]; exact hr q⟩
theorem s_app {i : Nat} {xs : List α} {G : List α → Prop} (hx : eget env i = so (xs.map e)) (he : We e de env F) (env' : List α → Ev) (hE : ∀ ys, eset env i (so (ys.map e)) = env' ys) (hr : ∀ ys, G ys → X (env' ys)) (q : F (fun a => appT xs a G)) : dApp i de ⟨X, Rt, Bk, Ct⟩ env := by
  unfold dApp
  rw [hx]
  exact he _ _ (fun a h => ⟨by rw [List.length_map]; exact h.1, by
    have : xs.map e ++ [e a] = (xs ++ [a]).map e := by rw [List.map_append]; rfl
    rw [this]
    show X (eset env i (so _))
    rw [hE]
    exact hr _ h.2⟩) q
theorem s_setIx {i : Nat} {xs : List α} {F' : M Int} {G : List α → Prop} (hx : eget env i = so (xs.map e)) (he : We e de env F) (hk : We PyData.int da env F') (env' : List α → Ev) (hE : ∀ ys, eset env i (so (ys.map e)) = env' ys) (hr : ∀ ys, G ys → X (env' ys)) (q : F (fun a => F' fun k => setT xs k a G)) : dSetIx i de da ⟨X, Rt, Bk, Ct⟩ env :=
  he _ _ (fun a h => by
    rw [hx]
    exact hk _ _ (fun k ⟨j, h1, h2⟩ => ⟨j, by rw [List.length_map]; exact h1, by
      rw [← List.map_set]
      show X (eset env i (so _))
      rw [hE]
      exact hr _ h2⟩) h) q
theorem s_par {i j : Nat} {G : α → β → Prop} (he : We e da env F) (hb : We e' db env F') (env' : α → β → Ev) (hE : ∀ a b, eset (eset env i (sv (e a))) j (sv (e' b)) = env' a b) (hr : ∀ a b, G a b → X (env' a b)) (q : F (fun a => F' fun b => G a b)) : dPar i j (dCons da (dCons db dNil)) ⟨X, Rt, Bk, Ct⟩ env :=
  he _ _ (fun a h => hb _ _ (fun b h2 => by show X (eset (eset env i (sv (e a))) j (sv (e' b))); rw [hE]; exact hr a b h2) h) q
theorem s_par3 {i j l : Nat} {e3 : γ → D} {F3 : M γ} {G : α → β → γ → Prop} (he : We e da env F) (hb : We e' db env F') (hc : We e3 dc' env F3) (env' : α → β → γ → Ev) (hE : ∀ a b c, eset (eset (eset env i (sv (e a))) j (sv (e' b))) l (sv (e3 c)) = env' a b c) (hr : ∀ a b c, G a b c → X (env' a b c)) (q : F (fun a => F' fun b => F3 fun c => G a b c)) : dPar3 i j l (dCons da (dCons db (dCons dc' dNil))) ⟨X, Rt, Bk, Ct⟩ env :=
  he _ _ (fun a h => hb _ _ (fun b h2 => hc _ _ (fun c h3 => by show X (eset (eset (eset env i (sv (e a))) j (sv (e' b))) l (sv (e3 c))); rw [hE]; exact hr a b c h3) h2) h) q
theorem s_parO1 {i j : Nat} {df : Ev → (List D → Prop) → Prop} {F : M (List α)} {G : List α → β → Prop} (he : Wl e df env F) (hb : We e' db env F') (hi : decide (i < env.length) = true) (hij : decide (i ≠ j) = true) (env' : List α → β → Ev) (hE : ∀ a b, eset (eset env i (so (a.map e))) j (sv (e' b)) = env' a b) (hr : ∀ a b, G a b → X (env' a b)) (q : F (fun a => F' fun b => G a b)) : dParO1 i j df db ⟨X, Rt, Bk, Ct⟩ env :=
  ⟨of_decide_eq_true hi, of_decide_eq_true hij, he _ _ (fun a h => hb _ _ (fun b h2 => by show X (eset (eset env i (so (a.map e))) j (sv (e' b))); rw [hE]; exact hr a b h2) h) q⟩
theorem s_parO2 {i j : Nat} {df : Ev → (List D → Prop) → Prop} {F' : M (List β)} {G : α → List β → Prop} (he : We e da env F) (hb : Wl e' df env F') (hj : decide (j < env.length) = true) (env' : α → List β → Ev) (hE : ∀ a b, eset (eset env i (sv (e a))) j (so (b.map e')) = env' a b) (hr : ∀ a b, G a b → X (env' a b)) (q : F (fun a => F' fun b => G a b)) : dParO2 i j da df ⟨X, Rt, Bk, Ct⟩ env :=
  ⟨of_decide_eq_true hj, he _ _ (fun a h => hb _ _ (fun b h2 => by show X (eset (eset env i (sv (e a))) j (so (b.map e'))); rw [hE]; exact hr a b h2) h) q⟩
theorem s_parOO {i j : Nat} {df df2 : Ev → (List D → Prop) → Prop} {F : M (List α)} {F' : M (List β)} {G : List α → List β → Prop} (he : Wl e df env F) (hb : Wl e' df2 env F') (hi : decide (i < env.length) = true) (hj : decide (j < env.length) = true) (env' : List α → List β → Ev) (hE : ∀ a b, eset (eset env i (so (a.map e))) j (so (b.map e')) = env' a b) (hr : ∀ a b, G a b → X (env' a b)) (q : F (fun a => F' fun b => G a b)) : dParOO i j df df2 ⟨X, Rt, Bk, Ct⟩ env :=
  ⟨of_decide_eq_true hi, of_decide_eq_true hj, he _ _ (fun a h => hb _ _ (fun b h2 => by show X (eset (eset env i (so (a.map e))) j (so (b.map e'))); rw [hE]; exact hr a b h2) h) q⟩
theorem s_aug {i : Nat} {x : Int} {g : Int → Int → Int} {F : M Int} {G : Int → Prop} (hx : eget env i = sv (.int x)) (he : We PyData.int de env F) (env' : Int → Ev) (hE : ∀ y, eset env i (sv (.int y)) = env' y) (hr : ∀ y, G y → X (env' y)) (q : F (fun y => G (g x y))) : dAug i de g ⟨X, Rt, Bk, Ct⟩ env := by
  unfold dAug
  rw [hx]
  exact he _ _ (fun y h => by show X (eset env i (sv (.int (g x y)))); rw [hE]; exact hr _ h) q
theorem erase_map {α β : Type} (f : α → β) : ∀ (xs : List α) (j : Nat), (xs.map f).eraseIdx j = (xs.eraseIdx j).map f
  | [], _ => by simp
  | _ :: _, 0 => by simp
  | a :: r, j + 1 => by rw [List.map_cons, List.eraseIdx_cons_succ, List.eraseIdx_cons_succ, List.map_cons, erase_map f r j]
def popT (xs : List α) (G : α → List α → Prop) : Prop := ∃ a, xs.getLast? = some a ∧ G a xs.dropLast
def popAtT (xs : List α) (k : Int) (G : α → List α → Prop) : Prop := xs.length ≤ 100000 ∧ ∃ j a, ixN xs.length k = some j ∧ xs[j]? = some a ∧ G a (xs.eraseIdx j)
theorem s_pop {i : Nat} {xs : List α} {g : D → Ev → (Ev → Prop) → Prop} {G : α → List α → Prop} (hx : eget env i = so (xs.map e)) (env' : List α → Ev) (hE : ∀ ys, eset env i (so (ys.map e)) = env' ys) (hr : ∀ a ys, G a ys → g (e a) (env' ys) X) (q : popT xs G) : dAsgX (dPop i) g ⟨X, Rt, Bk, Ct⟩ env := by
  obtain ⟨a, ha, q⟩ := q
  show dPop i env _
  unfold dPop
  rw [hx]
  refine ⟨e a, by rw [List.getLast?_map, ha]; rfl, ?_⟩
  rw [← List.map_dropLast]
  show g (e a) (eset env i (so _)) X
  rw [hE]
  exact hr _ _ q
theorem s_popAt {i : Nat} {xs : List α} {g : D → Ev → (Ev → Prop) → Prop} {F' : M Int} {G : α → List α → Prop} (hx : eget env i = so (xs.map e)) (hk : We PyData.int da env F') (env' : List α → Ev) (hE : ∀ ys, eset env i (so (ys.map e)) = env' ys) (hr : ∀ a ys, G a ys → g (e a) (env' ys) X) (q : F' (fun k => popAtT xs k G)) : dAsgX (dPopAt i da) g ⟨X, Rt, Bk, Ct⟩ env := by
  show dPopAt i da env _
  unfold dPopAt
  rw [hx]
  exact hk _ _ (fun k ⟨hl, j, a, h1, h2, h3⟩ => ⟨by rw [List.length_map]; exact hl, j, e a, by rw [List.length_map]; exact h1, by rw [List.getElem?_map, h2]; rfl, by
    rw [erase_map]
    show g (e a) (eset env i (so _)) X
    rw [hE]
    exact hr _ _ h3⟩) q
theorem s_if {dc : Ev → (Bool → Prop) → Prop} {C : M Bool} {PA PB : Prop} (hc : Wt dc env C) (hA : PA → a ⟨X, Rt, Bk, Ct⟩ env) (hB : PB → b ⟨X, Rt, Bk, Ct⟩ env) (q : C (fun k => if k = true then PA else PB)) : dIf dc a b ⟨X, Rt, Bk, Ct⟩ env := hc _ _ (fun k h => by
    by_cases z : k = true
    · rw [if_pos z] at h ⊢; exact hA h
    · rw [if_neg z] at h ⊢; exact hB h) q
/-- what stands behind a statement, cut off -/
theorem s_seq_cut0 {σ υ : Type} (J : σ → Prop) (en : σ → υ → Ev) (hj : ∀ s u, J s → b ⟨X, Rt, Bk, Ct⟩ (en s u)) (ha : ∀ N : Ev → Prop, (∀ s u, J s → N (en s u)) → a ⟨N, Rt, Bk, Ct⟩ env) : dSeq a b ⟨X, Rt, Bk, Ct⟩ env := ha (b ⟨X, Rt, Bk, Ct⟩) hj
theorem s_for2 {σ υ : Type} {di : Ev → (List D → Prop) → Prop} {g : D → Ev → (Ev → Prop) → Prop} {body : DS} {F : M (List α)} (L : List α → σ → Prop) (kn : σ → Prop) (en : σ → υ → Ev) (s0 : σ) (u0 : υ) (he : env = en s0 u0) (hi : Wl e di env F)
    (h0 : ∀ s u, kn s → X (en s u)) (hL : ∀ s, L [] s → kn s)
    (hs : ∀ x r s u (N B : Ev → Prop), (∀ s' u', L r s' → N (en s' u')) → (∀ s' u', kn s' → B (en s' u')) → L (x :: r) s → g (e x) (en s u) fun env1 => body ⟨N, Rt, B, N⟩ env1) (q : F (fun xs => L xs s0)) : dFor di g body ⟨X, Rt, Bk, Ct⟩ env :=
  hi _ _ (fun xs h => by
    have key : ∀ (xs : List α) s u, L xs s → loopD g body ⟨X, Rt, Bk, Ct⟩ (xs.map e) (en s u) := by
      intro xs
      induction xs with
      | nil => exact fun s u l => h0 s u (hL s l)
      | cons x r ih => exact fun s u l => hs x r s u _ X ih h0 l
    have k := key xs s0 u0 h
    rw [← he] at k
    exact k) q
theorem s_whileE {σ υ : Type} {c : Ev → (Bool → Prop) → Prop} {body : DS} (kn : σ → Prop) (en : σ → υ → Ev) (Bd : (Nat → σ → Prop) → Nat → σ → Prop) (s0 : σ) (u0 : υ) (he : env = en s0 u0) (hn : ∀ s u, kn s → X (en s u))
    (hs : ∀ W m s u (N B : Ev → Prop), (∀ m' s' u', m' < m ∧ W m' s' → N (en s' u')) → (∀ s' u', kn s' → B (en s' u')) → Bd W m s → c (en s u) fun b => if b = true then body ⟨N, Rt, B, N⟩ (en s u) else B (en s u))
    (q : ∃ W : Nat → σ → Prop, (∃ m, W m s0) ∧ ∀ m s, W m s → Bd W m s) : dWhile c body ⟨X, Rt, Bk, Ct⟩ env := by
  obtain ⟨W, ⟨m0, h0⟩, hW⟩ := q
  exact ⟨fun m e' => ∃ s u, W m s ∧ e' = en s u, ⟨m0, s0, u0, h0, he⟩, fun m e' ⟨s, u, w, z⟩ => by
    subst z
    exact hs W m s u _ X (fun m' s' u' h => ⟨m', h.1, s', u', h.2, rfl⟩) hn (hW m s w)⟩
theorem s_cond {dc : Ev → (Bool → Prop) → Prop} {C : M Bool} {PA PB Y Z : Prop} (hc : Wt dc env C) (hA : PA → Y) (hB : PB → Z) (q : C (fun k => if k = true then PA else PB)) : dc env fun b => if b = true then Y else Z := hc _ _ (fun k h => by
    by_cases z : k = true
    · rw [if_pos z] at h ⊢; exact hA h
    · rw [if_neg z] at h ⊢; exact hB h) q
theorem gn {i : Nat} {d : D} {env env' : Ev} {Q : Ev → Prop} (hE : eset env i (sv d) = env') (h : Q env') : gN i d env Q := by unfold gN; show Q (eset env i (sv d)); rw [hE]; exact h
theorem gs_nil {env : Ev} {Q : Ev → Prop} (h : Q env) : gNi [] env Q := h
theorem gs_cons {d : D} {r : List D} {g : D → Ev → (Ev → Prop) → Prop} {gs : List D → Ev → (Ev → Prop) → Prop} {env : Ev} {Q : Ev → Prop} (h : g d env (fun env1 => gs r env1 Q)) : gCo g gs (d :: r) env Q := h
theorem g_tup {ds : List D} {n : Nat} {gs : List D → Ev → (Ev → Prop) → Prop} {env : Ev} {Q : Ev → Prop} (h : gs ds env Q) (hl : ds.length = n) : gT n gs (.tuple ds) env Q := ⟨hl, h⟩
end
end
theorem w_tup0   {env : Ev}  : We eT0 (dTup dNil) env (fun G => G ()) := fun Q G hG g0 => hG () g0
theorem w_tup1 {t0 : Type} {e0 : t0 → D} {d0 : DEx} {f0 : M t0} {env : Ev} (h0 : We e0 d0 env f0) : We (eT1 e0) (dTup (dCons d0 dNil)) env (fun G => f0 fun x0 => G (x0)) := fun Q G hG g0 => h0 _ _ (fun x0 g1 => hG (x0) g1) g0
theorem w_tup2 {t0 t1 : Type} {e0 : t0 → D} {e1 : t1 → D} {d0 d1 : DEx} {f0 : M t0} {f1 : M t1} {env : Ev} (h0 : We e0 d0 env f0) (h1 : We e1 d1 env f1) : We (eT2 e0 e1) (dTup (dCons d0 (dCons d1 dNil))) env (fun G => f0 fun x0 => f1 fun x1 => G (x0, x1)) := fun Q G hG g0 => h0 _ _ (fun x0 g1 => h1 _ _ (fun x1 g2 => hG (x0, x1) g2) g1) g0
theorem w_tup3 {t0 t1 t2 : Type} {e0 : t0 → D} {e1 : t1 → D} {e2 : t2 → D} {d0 d1 d2 : DEx} {f0 : M t0} {f1 : M t1} {f2 : M t2} {env : Ev} (h0 : We e0 d0 env f0) (h1 : We e1 d1 env f1) (h2 : We e2 d2 env f2) : We (eT3 e0 e1 e2) (dTup (dCons d0 (dCons d1 (dCons d2 dNil)))) env (fun G => f0 fun x0 => f1 fun x1 => f2 fun x2 => G (x0, x1, x2)) := fun Q G hG g0 => h0 _ _ (fun x0 g1 => h1 _ _ (fun x1 g2 => h2 _ _ (fun x2 g3 => hG (x0, x1, x2) g3) g2) g1) g0
theorem w_tup4 {t0 t1 t2 t3 : Type} {e0 : t0 → D} {e1 : t1 → D} {e2 : t2 → D} {e3 : t3 → D} {d0 d1 d2 d3 : DEx} {f0 : M t0} {f1 : M t1} {f2 : M t2} {f3 : M t3} {env : Ev} (h0 : We e0 d0 env f0) (h1 : We e1 d1 env f1) (h2 : We e2 d2 env f2) (h3 : We e3 d3 env f3) : We (eT4 e0 e1 e2 e3) (dTup (dCons d0 (dCons d1 (dCons d2 (dCons d3 dNil))))) env (fun G => f0 fun x0 => f1 fun x1 => f2 fun x2 => f3 fun x3 => G (x0, x1, x2, x3)) := fun Q G hG g0 => h0 _ _ (fun x0 g1 => h1 _ _ (fun x1 g2 => h2 _ _ (fun x2 g3 => h3 _ _ (fun x3 g4 => hG (x0, x1, x2, x3) g4) g3) g2) g1) g0
theorem w_tup5 {t0 t1 t2 t3 t4 : Type} {e0 : t0 → D} {e1 : t1 → D} {e2 : t2 → D} {e3 : t3 → D} {e4 : t4 → D} {d0 d1 d2 d3 d4 : DEx} {f0 : M t0} {f1 : M t1} {f2 : M t2} {f3 : M t3} {f4 : M t4} {env : Ev} (h0 : We e0 d0 env f0) (h1 : We e1 d1 env f1) (h2 : We e2 d2 env f2) (h3 : We e3 d3 env f3) (h4 : We e4 d4 env f4) : We (eT5 e0 e1 e2 e3 e4) (dTup (dCons d0 (dCons d1 (dCons d2 (dCons d3 (dCons d4 dNil)))))) env (fun G => f0 fun x0 => f1 fun x1 => f2 fun x2 => f3 fun x3 => f4 fun x4 => G (x0, x1, x2, x3, x4)) := fun Q G hG g0 => h0 _ _ (fun x0 g1 => h1 _ _ (fun x1 g2 => h2 _ _ (fun x2 g3 => h3 _ _ (fun x3 g4 => h4 _ _ (fun x4 g5 => hG (x0, x1, x2, x3, x4) g5) g4) g3) g2) g1) g0
theorem w_tup6 {t0 t1 t2 t3 t4 t5 : Type} {e0 : t0 → D} {e1 : t1 → D} {e2 : t2 → D} {e3 : t3 → D} {e4 : t4 → D} {e5 : t5 → D} {d0 d1 d2 d3 d4 d5 : DEx} {f0 : M t0} {f1 : M t1} {f2 : M t2} {f3 : M t3} {f4 : M t4} {f5 : M t5} {env : Ev} (h0 : We e0 d0 env f0) (h1 : We e1 d1 env f1) (h2 : We e2 d2 env f2) (h3 : We e3 d3 env f3) (h4 : We e4 d4 env f4) (h5 : We e5 d5 env f5) : We (eT6 e0 e1 e2 e3 e4 e5) (dTup (dCons d0 (dCons d1 (dCons d2 (dCons d3 (dCons d4 (dCons d5 dNil))))))) env (fun G => f0 fun x0 => f1 fun x1 => f2 fun x2 => f3 fun x3 => f4 fun x4 => f5 fun x5 => G (x0, x1, x2, x3, x4, x5)) := fun Q G hG g0 => h0 _ _ (fun x0 g1 => h1 _ _ (fun x1 g2 => h2 _ _ (fun x2 g3 => h3 _ _ (fun x3 g4 => h4 _ _ (fun x4 g5 => h5 _ _ (fun x5 g6 => hG (x0, x1, x2, x3, x4, x5) g6) g5) g4) g3) g2) g1) g0
theorem w_tup7 {t0 t1 t2 t3 t4 t5 t6 : Type} {e0 : t0 → D} {e1 : t1 → D} {e2 : t2 → D} {e3 : t3 → D} {e4 : t4 → D} {e5 : t5 → D} {e6 : t6 → D} {d0 d1 d2 d3 d4 d5 d6 : DEx} {f0 : M t0} {f1 : M t1} {f2 : M t2} {f3 : M t3} {f4 : M t4} {f5 : M t5} {f6 : M t6} {env : Ev} (h0 : We e0 d0 env f0) (h1 : We e1 d1 env f1) (h2 : We e2 d2 env f2) (h3 : We e3 d3 env f3) (h4 : We e4 d4 env f4) (h5 : We e5 d5 env f5) (h6 : We e6 d6 env f6) : We (eT7 e0 e1 e2 e3 e4 e5 e6) (dTup (dCons d0 (dCons d1 (dCons d2 (dCons d3 (dCons d4 (dCons d5 (dCons d6 dNil)))))))) env (fun G => f0 fun x0 => f1 fun x1 => f2 fun x2 => f3 fun x3 => f4 fun x4 => f5 fun x5 => f6 fun x6 => G (x0, x1, x2, x3, x4, x5, x6)) := fun Q G hG g0 => h0 _ _ (fun x0 g1 => h1 _ _ (fun x1 g2 => h2 _ _ (fun x2 g3 => h3 _ _ (fun x3 g4 => h4 _ _ (fun x4 g5 => h5 _ _ (fun x5 g6 => h6 _ _ (fun x6 g7 => hG (x0, x1, x2, x3, x4, x5, x6) g7) g6) g5) g4) g3) g2) g1) g0
theorem w_tup8 {t0 t1 t2 t3 t4 t5 t6 t7 : Type} {e0 : t0 → D} {e1 : t1 → D} {e2 : t2 → D} {e3 : t3 → D} {e4 : t4 → D} {e5 : t5 → D} {e6 : t6 → D} {e7 : t7 → D} {d0 d1 d2 d3 d4 d5 d6 d7 : DEx} {f0 : M t0} {f1 : M t1} {f2 : M t2} {f3 : M t3} {f4 : M t4} {f5 : M t5} {f6 : M t6} {f7 : M t7} {env : Ev} (h0 : We e0 d0 env f0) (h1 : We e1 d1 env f1) (h2 : We e2 d2 env f2) (h3 : We e3 d3 env f3) (h4 : We e4 d4 env f4) (h5 : We e5 d5 env f5) (h6 : We e6 d6 env f6) (h7 : We e7 d7 env f7) : We (eT8 e0 e1 e2 e3 e4 e5 e6 e7) (dTup (dCons d0 (dCons d1 (dCons d2 (dCons d3 (dCons d4 (dCons d5 (dCons d6 (dCons d7 dNil))))))))) env (fun G => f0 fun x0 => f1 fun x1 => f2 fun x2 => f3 fun x3 => f4 fun x4 => f5 fun x5 => f6 fun x6 => f7 fun x7 => G (x0, x1, x2, x3, x4, x5, x6, x7)) := fun Q G hG g0 => h0 _ _ (fun x0 g1 => h1 _ _ (fun x1 g2 => h2 _ _ (fun x2 g3 => h3 _ _ (fun x3 g4 => h4 _ _ (fun x4 g5 => h5 _ _ (fun x5 g6 => h6 _ _ (fun x6 g7 => h7 _ _ (fun x7 g8 => hG (x0, x1, x2, x3, x4, x5, x6, x7) g8) g7) g6) g5) g4) g3) g2) g1) g0
theorem w_tup9 {t0 t1 t2 t3 t4 t5 t6 t7 t8 : Type} {e0 : t0 → D} {e1 : t1 → D} {e2 : t2 → D} {e3 : t3 → D} {e4 : t4 → D} {e5 : t5 → D} {e6 : t6 → D} {e7 : t7 → D} {e8 : t8 → D} {d0 d1 d2 d3 d4 d5 d6 d7 d8 : DEx} {f0 : M t0} {f1 : M t1} {f2 : M t2} {f3 : M t3} {f4 : M t4} {f5 : M t5} {f6 : M t6} {f7 : M t7} {f8 : M t8} {env : Ev} (h0 : We e0 d0 env f0) (h1 : We e1 d1 env f1) (h2 : We e2 d2 env f2) (h3 : We e3 d3 env f3) (h4 : We e4 d4 env f4) (h5 : We e5 d5 env f5) (h6 : We e6 d6 env f6) (h7 : We e7 d7 env f7) (h8 : We e8 d8 env f8) : We (eT9 e0 e1 e2 e3 e4 e5 e6 e7 e8) (dTup (dCons d0 (dCons d1 (dCons d2 (dCons d3 (dCons d4 (dCons d5 (dCons d6 (dCons d7 (dCons d8 dNil)))))))))) env (fun G => f0 fun x0 => f1 fun x1 => f2 fun x2 => f3 fun x3 => f4 fun x4 => f5 fun x5 => f6 fun x6 => f7 fun x7 => f8 fun x8 => G (x0, x1, x2, x3, x4, x5, x6, x7, x8)) := fun Q G hG g0 => h0 _ _ (fun x0 g1 => h1 _ _ (fun x1 g2 => h2 _ _ (fun x2 g3 => h3 _ _ (fun x3 g4 => h4 _ _ (fun x4 g5 => h5 _ _ (fun x5 g6 => h6 _ _ (fun x6 g7 => h7 _ _ (fun x7 g8 => h8 _ _ (fun x8 g9 => hG (x0, x1, x2, x3, x4, x5, x6, x7, x8) g9) g8) g7) g6) g5) g4) g3) g2) g1) g0
theorem w_tup10 {t0 t1 t2 t3 t4 t5 t6 t7 t8 t9 : Type} {e0 : t0 → D} {e1 : t1 → D} {e2 : t2 → D} {e3 : t3 → D} {e4 : t4 → D} {e5 : t5 → D} {e6 : t6 → D} {e7 : t7 → D} {e8 : t8 → D} {e9 : t9 → D} {d0 d1 d2 d3 d4 d5 d6 d7 d8 d9 : DEx} {f0 : M t0} {f1 : M t1} {f2 : M t2} {f3 : M t3} {f4 : M t4} {f5 : M t5} {f6 : M t6} {f7 : M t7} {f8 : M t8} {f9 : M t9} {env : Ev} (h0 : We e0 d0 env f0) (h1 : We e1 d1 env f1) (h2 : We e2 d2 env f2) (h3 : We e3 d3 env f3) (h4 : We e4 d4 env f4) (h5 : We e5 d5 env f5) (h6 : We e6 d6 env f6) (h7 : We e7 d7 env f7) (h8 : We e8 d8 env f8) (h9 : We e9 d9 env f9) : We (eT10 e0 e1 e2 e3 e4 e5 e6 e7 e8 e9) (dTup (dCons d0 (dCons d1 (dCons d2 (dCons d3 (dCons d4 (dCons d5 (dCons d6 (dCons d7 (dCons d8 (dCons d9 dNil))))))))))) env (fun G => f0 fun x0 => f1 fun x1 => f2 fun x2 => f3 fun x3 => f4 fun x4 => f5 fun x5 => f6 fun x6 => f7 fun x7 => f8 fun x8 => f9 fun x9 => G (x0, x1, x2, x3, x4, x5, x6, x7, x8, x9)) := fun Q G hG g0 => h0 _ _ (fun x0 g1 => h1 _ _ (fun x1 g2 => h2 _ _ (fun x2 g3 => h3 _ _ (fun x3 g4 => h4 _ _ (fun x4 g5 => h5 _ _ (fun x5 g6 => h6 _ _ (fun x6 g7 => h7 _ _ (fun x7 g8 => h8 _ _ (fun x8 g9 => h9 _ _ (fun x9 g10 => hG (x0, x1, x2, x3, x4, x5, x6, x7, x8, x9) g10) g9) g8) g7) g6) g5) g4) g3) g2) g1) g0
theorem w_tup11 {t0 t1 t2 t3 t4 t5 t6 t7 t8 t9 t10 : Type} {e0 : t0 → D} {e1 : t1 → D} {e2 : t2 → D} {e3 : t3 → D} {e4 : t4 → D} {e5 : t5 → D} {e6 : t6 → D} {e7 : t7 → D} {e8 : t8 → D} {e9 : t9 → D} {e10 : t10 → D} {d0 d1 d2 d3 d4 d5 d6 d7 d8 d9 d10 : DEx} {f0 : M t0} {f1 : M t1} {f2 : M t2} {f3 : M t3} {f4 : M t4} {f5 : M t5} {f6 : M t6} {f7 : M t7} {f8 : M t8} {f9 : M t9} {f10 : M t10} {env : Ev} (h0 : We e0 d0 env f0) (h1 : We e1 d1 env f1) (h2 : We e2 d2 env f2) (h3 : We e3 d3 env f3) (h4 : We e4 d4 env f4) (h5 : We e5 d5 env f5) (h6 : We e6 d6 env f6) (h7 : We e7 d7 env f7) (h8 : We e8 d8 env f8) (h9 : We e9 d9 env f9) (h10 : We e10 d10 env f10) : We (eT11 e0 e1 e2 e3 e4 e5 e6 e7 e8 e9 e10) (dTup (dCons d0 (dCons d1 (dCons d2 (dCons d3 (dCons d4 (dCons d5 (dCons d6 (dCons d7 (dCons d8 (dCons d9 (dCons d10 dNil)))))))))))) env (fun G => f0 fun x0 => f1 fun x1 => f2 fun x2 => f3 fun x3 => f4 fun x4 => f5 fun x5 => f6 fun x6 => f7 fun x7 => f8 fun x8 => f9 fun x9 => f10 fun x10 => G (x0, x1, x2, x3, x4, x5, x6, x7, x8, x9, x10)) := fun Q G hG g0 => h0 _ _ (fun x0 g1 => h1 _ _ (fun x1 g2 => h2 _ _ (fun x2 g3 => h3 _ _ (fun x3 g4 => h4 _ _ (fun x4 g5 => h5 _ _ (fun x5 g6 => h6 _ _ (fun x6 g7 => h7 _ _ (fun x7 g8 => h8 _ _ (fun x8 g9 => h9 _ _ (fun x9 g10 => h10 _ _ (fun x10 g11 => hG (x0, x1, x2, x3, x4, x5, x6, x7, x8, x9, x10) g11) g10) g9) g8) g7) g6) g5) g4) g3) g2) g1) g0
theorem w_tup12 {t0 t1 t2 t3 t4 t5 t6 t7 t8 t9 t10 t11 : Type} {e0 : t0 → D} {e1 : t1 → D} {e2 : t2 → D} {e3 : t3 → D} {e4 : t4 → D} {e5 : t5 → D} {e6 : t6 → D} {e7 : t7 → D} {e8 : t8 → D} {e9 : t9 → D} {e10 : t10 → D} {e11 : t11 → D} {d0 d1 d2 d3 d4 d5 d6 d7 d8 d9 d10 d11 : DEx} {f0 : M t0} {f1 : M t1} {f2 : M t2} {f3 : M t3} {f4 : M t4} {f5 : M t5} {f6 : M t6} {f7 : M t7} {f8 : M t8} {f9 : M t9} {f10 : M t10} {f11 : M t11} {env : Ev} (h0 : We e0 d0 env f0) (h1 : We e1 d1 env f1) (h2 : We e2 d2 env f2) (h3 : We e3 d3 env f3) (h4 : We e4 d4 env f4) (h5 : We e5 d5 env f5) (h6 : We e6 d6 env f6) (h7 : We e7 d7 env f7) (h8 : We e8 d8 env f8) (h9 : We e9 d9 env f9) (h10 : We e10 d10 env f10) (h11 : We e11 d11 env f11) : We (eT12 e0 e1 e2 e3 e4 e5 e6 e7 e8 e9 e10 e11) (dTup (dCons d0 (dCons d1 (dCons d2 (dCons d3 (dCons d4 (dCons d5 (dCons d6 (dCons d7 (dCons d8 (dCons d9 (dCons d10 (dCons d11 dNil))))))))))))) env (fun G => f0 fun x0 => f1 fun x1 => f2 fun x2 => f3 fun x3 => f4 fun x4 => f5 fun x5 => f6 fun x6 => f7 fun x7 => f8 fun x8 => f9 fun x9 => f10 fun x10 => f11 fun x11 => G (x0, x1, x2, x3, x4, x5, x6, x7, x8, x9, x10, x11)) := fun Q G hG g0 => h0 _ _ (fun x0 g1 => h1 _ _ (fun x1 g2 => h2 _ _ (fun x2 g3 => h3 _ _ (fun x3 g4 => h4 _ _ (fun x4 g5 => h5 _ _ (fun x5 g6 => h6 _ _ (fun x6 g7 => h7 _ _ (fun x7 g8 => h8 _ _ (fun x8 g9 => h9 _ _ (fun x9 g10 => h10 _ _ (fun x10 g11 => h11 _ _ (fun x11 g12 => hG (x0, x1, x2, x3, x4, x5, x6, x7, x8, x9, x10, x11) g12) g11) g10) g9) g8) g7) g6) g5) g4) g3) g2) g1) g0
def pr0 { ρ : Type}  (er : ρ → D) (f : M ρ) : (D → Prop) → Prop := fun  Q => ∃ G, f  G ∧ ∀ r, G r → Q (er r)
def pr1 {t0 ρ : Type} (e0 : t0 → D) (er : ρ → D) (f : t0 → M ρ) : D → (D → Prop) → Prop := fun a0 Q => ∃ x0 G, a0 = e0 x0 ∧ f x0 G ∧ ∀ r, G r → Q (er r)
def pr2 {t0 t1 ρ : Type} (e0 : t0 → D) (e1 : t1 → D) (er : ρ → D) (f : t0 → t1 → M ρ) : D → D → (D → Prop) → Prop := fun a0 a1 Q => ∃ x0 x1 G, a0 = e0 x0 ∧ a1 = e1 x1 ∧ f x0 x1 G ∧ ∀ r, G r → Q (er r)
def pr3 {t0 t1 t2 ρ : Type} (e0 : t0 → D) (e1 : t1 → D) (e2 : t2 → D) (er : ρ → D) (f : t0 → t1 → t2 → M ρ) : D → D → D → (D → Prop) → Prop := fun a0 a1 a2 Q => ∃ x0 x1 x2 G, a0 = e0 x0 ∧ a1 = e1 x1 ∧ a2 = e2 x2 ∧ f x0 x1 x2 G ∧ ∀ r, G r → Q (er r)
def pr4 {t0 t1 t2 t3 ρ : Type} (e0 : t0 → D) (e1 : t1 → D) (e2 : t2 → D) (e3 : t3 → D) (er : ρ → D) (f : t0 → t1 → t2 → t3 → M ρ) : D → D → D → D → (D → Prop) → Prop := fun a0 a1 a2 a3 Q => ∃ x0 x1 x2 x3 G, a0 = e0 x0 ∧ a1 = e1 x1 ∧ a2 = e2 x2 ∧ a3 = e3 x3 ∧ f x0 x1 x2 x3 G ∧ ∀ r, G r → Q (er r)
def pr5 {t0 t1 t2 t3 t4 ρ : Type} (e0 : t0 → D) (e1 : t1 → D) (e2 : t2 → D) (e3 : t3 → D) (e4 : t4 → D) (er : ρ → D) (f : t0 → t1 → t2 → t3 → t4 → M ρ) : D → D → D → D → D → (D → Prop) → Prop := fun a0 a1 a2 a3 a4 Q => ∃ x0 x1 x2 x3 x4 G, a0 = e0 x0 ∧ a1 = e1 x1 ∧ a2 = e2 x2 ∧ a3 = e3 x3 ∧ a4 = e4 x4 ∧ f x0 x1 x2 x3 x4 G ∧ ∀ r, G r → Q (er r)
def pr6 {t0 t1 t2 t3 t4 t5 ρ : Type} (e0 : t0 → D) (e1 : t1 → D) (e2 : t2 → D) (e3 : t3 → D) (e4 : t4 → D) (e5 : t5 → D) (er : ρ → D) (f : t0 → t1 → t2 → t3 → t4 → t5 → M ρ) : D → D → D → D → D → D → (D → Prop) → Prop := fun a0 a1 a2 a3 a4 a5 Q => ∃ x0 x1 x2 x3 x4 x5 G, a0 = e0 x0 ∧ a1 = e1 x1 ∧ a2 = e2 x2 ∧ a3 = e3 x3 ∧ a4 = e4 x4 ∧ a5 = e5 x5 ∧ f x0 x1 x2 x3 x4 x5 G ∧ ∀ r, G r → Q (er r)
theorem w_call0 { ρ : Type}  {er : ρ → D} {f : M ρ}  {env : Ev}  : We er (dCall (F0 (pr0  er f)) dNil) env (fun G => f  G) := fun Q G hG g0 => ⟨G, g0, hG⟩
theorem w_callS0 { ρ : Type}  {er : ρ → D} {f : M ρ}  {env : Ev} {i : Nat} (hst : eget env i = some .st)  : We er (dCallS i (F0 (pr0  er f)) dNil) env (fun G => f  G) := fun Q G hG g0 => by unfold dCallS; rw [hst]; exact ⟨G, g0, hG⟩
theorem w_call1 {t0 ρ : Type} {e0 : t0 → D} {er : ρ → D} {f : t0 → M ρ} {d0 : DEx} {f0 : M t0} {env : Ev} (h0 : We e0 d0 env f0) : We er (dCall (F1 (pr1 e0 er f)) (dCons d0 dNil)) env (fun G => f0 fun x0 => f x0 G) := fun Q G hG g0 => h0 _ _ (fun x0 g1 => ⟨x0, G, rfl, g1, hG⟩) g0
theorem w_callS1 {t0 ρ : Type} {e0 : t0 → D} {er : ρ → D} {f : t0 → M ρ} {d0 : DEx} {f0 : M t0} {env : Ev} {i : Nat} (hst : eget env i = some .st) (h0 : We e0 d0 env f0) : We er (dCallS i (F1 (pr1 e0 er f)) (dCons d0 dNil)) env (fun G => f0 fun x0 => f x0 G) := fun Q G hG g0 => by unfold dCallS; rw [hst]; exact h0 _ _ (fun x0 g1 => ⟨x0, G, rfl, g1, hG⟩) g0
theorem w_call2 {t0 t1 ρ : Type} {e0 : t0 → D} {e1 : t1 → D} {er : ρ → D} {f : t0 → t1 → M ρ} {d0 d1 : DEx} {f0 : M t0} {f1 : M t1} {env : Ev} (h0 : We e0 d0 env f0) (h1 : We e1 d1 env f1) : We er (dCall (F2 (pr2 e0 e1 er f)) (dCons d0 (dCons d1 dNil))) env (fun G => f0 fun x0 => f1 fun x1 => f x0 x1 G) := fun Q G hG g0 => h0 _ _ (fun x0 g1 => h1 _ _ (fun x1 g2 => ⟨x0, x1, G, rfl, rfl, g2, hG⟩) g1) g0
theorem w_callS2 {t0 t1 ρ : Type} {e0 : t0 → D} {e1 : t1 → D} {er : ρ → D} {f : t0 → t1 → M ρ} {d0 d1 : DEx} {f0 : M t0} {f1 : M t1} {env : Ev} {i : Nat} (hst : eget env i = some .st) (h0 : We e0 d0 env f0) (h1 : We e1 d1 env f1) : We er (dCallS i (F2 (pr2 e0 e1 er f)) (dCons d0 (dCons d1 dNil))) env (fun G => f0 fun x0 => f1 fun x1 => f x0 x1 G) := fun Q G hG g0 => by unfold dCallS; rw [hst]; exact h0 _ _ (fun x0 g1 => h1 _ _ (fun x1 g2 => ⟨x0, x1, G, rfl, rfl, g2, hG⟩) g1) g0
theorem w_call3 {t0 t1 t2 ρ : Type} {e0 : t0 → D} {e1 : t1 → D} {e2 : t2 → D} {er : ρ → D} {f : t0 → t1 → t2 → M ρ} {d0 d1 d2 : DEx} {f0 : M t0} {f1 : M t1} {f2 : M t2} {env : Ev} (h0 : We e0 d0 env f0) (h1 : We e1 d1 env f1) (h2 : We e2 d2 env f2) : We er (dCall (F3 (pr3 e0 e1 e2 er f)) (dCons d0 (dCons d1 (dCons d2 dNil)))) env (fun G => f0 fun x0 => f1 fun x1 => f2 fun x2 => f x0 x1 x2 G) := fun Q G hG g0 => h0 _ _ (fun x0 g1 => h1 _ _ (fun x1 g2 => h2 _ _ (fun x2 g3 => ⟨x0, x1, x2, G, rfl, rfl, rfl, g3, hG⟩) g2) g1) g0
theorem w_callS3 {t0 t1 t2 ρ : Type} {e0 : t0 → D} {e1 : t1 → D} {e2 : t2 → D} {er : ρ → D} {f : t0 → t1 → t2 → M ρ} {d0 d1 d2 : DEx} {f0 : M t0} {f1 : M t1} {f2 : M t2} {env : Ev} {i : Nat} (hst : eget env i = some .st) (h0 : We e0 d0 env f0) (h1 : We e1 d1 env f1) (h2 : We e2 d2 env f2) : We er (dCallS i (F3 (pr3 e0 e1 e2 er f)) (dCons d0 (dCons d1 (dCons d2 dNil)))) env (fun G => f0 fun x0 => f1 fun x1 => f2 fun x2 => f x0 x1 x2 G) := fun Q G hG g0 => by unfold dCallS; rw [hst]; exact h0 _ _ (fun x0 g1 => h1 _ _ (fun x1 g2 => h2 _ _ (fun x2 g3 => ⟨x0, x1, x2, G, rfl, rfl, rfl, g3, hG⟩) g2) g1) g0
theorem w_call4 {t0 t1 t2 t3 ρ : Type} {e0 : t0 → D} {e1 : t1 → D} {e2 : t2 → D} {e3 : t3 → D} {er : ρ → D} {f : t0 → t1 → t2 → t3 → M ρ} {d0 d1 d2 d3 : DEx} {f0 : M t0} {f1 : M t1} {f2 : M t2} {f3 : M t3} {env : Ev} (h0 : We e0 d0 env f0) (h1 : We e1 d1 env f1) (h2 : We e2 d2 env f2) (h3 : We e3 d3 env f3) : We er (dCall (F4 (pr4 e0 e1 e2 e3 er f)) (dCons d0 (dCons d1 (dCons d2 (dCons d3 dNil))))) env (fun G => f0 fun x0 => f1 fun x1 => f2 fun x2 => f3 fun x3 => f x0 x1 x2 x3 G) := fun Q G hG g0 => h0 _ _ (fun x0 g1 => h1 _ _ (fun x1 g2 => h2 _ _ (fun x2 g3 => h3 _ _ (fun x3 g4 => ⟨x0, x1, x2, x3, G, rfl, rfl, rfl, rfl, g4, hG⟩) g3) g2) g1) g0
theorem w_callS4 {t0 t1 t2 t3 ρ : Type} {e0 : t0 → D} {e1 : t1 → D} {e2 : t2 → D} {e3 : t3 → D} {er : ρ → D} {f : t0 → t1 → t2 → t3 → M ρ} {d0 d1 d2 d3 : DEx} {f0 : M t0} {f1 : M t1} {f2 : M t2} {f3 : M t3} {env : Ev} {i : Nat} (hst : eget env i = some .st) (h0 : We e0 d0 env f0) (h1 : We e1 d1 env f1) (h2 : We e2 d2 env f2) (h3 : We e3 d3 env f3) : We er (dCallS i (F4 (pr4 e0 e1 e2 e3 er f)) (dCons d0 (dCons d1 (dCons d2 (dCons d3 dNil))))) env (fun G => f0 fun x0 => f1 fun x1 => f2 fun x2 => f3 fun x3 => f x0 x1 x2 x3 G) := fun Q G hG g0 => by unfold dCallS; rw [hst]; exact h0 _ _ (fun x0 g1 => h1 _ _ (fun x1 g2 => h2 _ _ (fun x2 g3 => h3 _ _ (fun x3 g4 => ⟨x0, x1, x2, x3, G, rfl, rfl, rfl, rfl, g4, hG⟩) g3) g2) g1) g0
theorem w_call5 {t0 t1 t2 t3 t4 ρ : Type} {e0 : t0 → D} {e1 : t1 → D} {e2 : t2 → D} {e3 : t3 → D} {e4 : t4 → D} {er : ρ → D} {f : t0 → t1 → t2 → t3 → t4 → M ρ} {d0 d1 d2 d3 d4 : DEx} {f0 : M t0} {f1 : M t1} {f2 : M t2} {f3 : M t3} {f4 : M t4} {env : Ev} (h0 : We e0 d0 env f0) (h1 : We e1 d1 env f1) (h2 : We e2 d2 env f2) (h3 : We e3 d3 env f3) (h4 : We e4 d4 env f4) : We er (dCall (F5 (pr5 e0 e1 e2 e3 e4 er f)) (dCons d0 (dCons d1 (dCons d2 (dCons d3 (dCons d4 dNil)))))) env (fun G => f0 fun x0 => f1 fun x1 => f2 fun x2 => f3 fun x3 => f4 fun x4 => f x0 x1 x2 x3 x4 G) := fun Q G hG g0 => h0 _ _ (fun x0 g1 => h1 _ _ (fun x1 g2 => h2 _ _ (fun x2 g3 => h3 _ _ (fun x3 g4 => h4 _ _ (fun x4 g5 => ⟨x0, x1, x2, x3, x4, G, rfl, rfl, rfl, rfl, rfl, g5, hG⟩) g4) g3) g2) g1) g0
theorem w_callS5 {t0 t1 t2 t3 t4 ρ : Type} {e0 : t0 → D} {e1 : t1 → D} {e2 : t2 → D} {e3 : t3 → D} {e4 : t4 → D} {er : ρ → D} {f : t0 → t1 → t2 → t3 → t4 → M ρ} {d0 d1 d2 d3 d4 : DEx} {f0 : M t0} {f1 : M t1} {f2 : M t2} {f3 : M t3} {f4 : M t4} {env : Ev} {i : Nat} (hst : eget env i = some .st) (h0 : We e0 d0 env f0) (h1 : We e1 d1 env f1) (h2 : We e2 d2 env f2) (h3 : We e3 d3 env f3) (h4 : We e4 d4 env f4) : We er (dCallS i (F5 (pr5 e0 e1 e2 e3 e4 er f)) (dCons d0 (dCons d1 (dCons d2 (dCons d3 (dCons d4 dNil)))))) env (fun G => f0 fun x0 => f1 fun x1 => f2 fun x2 => f3 fun x3 => f4 fun x4 => f x0 x1 x2 x3 x4 G) := fun Q G hG g0 => by unfold dCallS; rw [hst]; exact h0 _ _ (fun x0 g1 => h1 _ _ (fun x1 g2 => h2 _ _ (fun x2 g3 => h3 _ _ (fun x3 g4 => h4 _ _ (fun x4 g5 => ⟨x0, x1, x2, x3, x4, G, rfl, rfl, rfl, rfl, rfl, g5, hG⟩) g4) g3) g2) g1) g0
theorem w_call6 {t0 t1 t2 t3 t4 t5 ρ : Type} {e0 : t0 → D} {e1 : t1 → D} {e2 : t2 → D} {e3 : t3 → D} {e4 : t4 → D} {e5 : t5 → D} {er : ρ → D} {f : t0 → t1 → t2 → t3 → t4 → t5 → M ρ} {d0 d1 d2 d3 d4 d5 : DEx} {f0 : M t0} {f1 : M t1} {f2 : M t2} {f3 : M t3} {f4 : M t4} {f5 : M t5} {env : Ev} (h0 : We e0 d0 env f0) (h1 : We e1 d1 env f1) (h2 : We e2 d2 env f2) (h3 : We e3 d3 env f3) (h4 : We e4 d4 env f4) (h5 : We e5 d5 env f5) : We er (dCall (F6 (pr6 e0 e1 e2 e3 e4 e5 er f)) (dCons d0 (dCons d1 (dCons d2 (dCons d3 (dCons d4 (dCons d5 dNil))))))) env (fun G => f0 fun x0 => f1 fun x1 => f2 fun x2 => f3 fun x3 => f4 fun x4 => f5 fun x5 => f x0 x1 x2 x3 x4 x5 G) := fun Q G hG g0 => h0 _ _ (fun x0 g1 => h1 _ _ (fun x1 g2 => h2 _ _ (fun x2 g3 => h3 _ _ (fun x3 g4 => h4 _ _ (fun x4 g5 => h5 _ _ (fun x5 g6 => ⟨x0, x1, x2, x3, x4, x5, G, rfl, rfl, rfl, rfl, rfl, rfl, g6, hG⟩) g5) g4) g3) g2) g1) g0
theorem w_callS6 {t0 t1 t2 t3 t4 t5 ρ : Type} {e0 : t0 → D} {e1 : t1 → D} {e2 : t2 → D} {e3 : t3 → D} {e4 : t4 → D} {e5 : t5 → D} {er : ρ → D} {f : t0 → t1 → t2 → t3 → t4 → t5 → M ρ} {d0 d1 d2 d3 d4 d5 : DEx} {f0 : M t0} {f1 : M t1} {f2 : M t2} {f3 : M t3} {f4 : M t4} {f5 : M t5} {env : Ev} {i : Nat} (hst : eget env i = some .st) (h0 : We e0 d0 env f0) (h1 : We e1 d1 env f1) (h2 : We e2 d2 env f2) (h3 : We e3 d3 env f3) (h4 : We e4 d4 env f4) (h5 : We e5 d5 env f5) : We er (dCallS i (F6 (pr6 e0 e1 e2 e3 e4 e5 er f)) (dCons d0 (dCons d1 (dCons d2 (dCons d3 (dCons d4 (dCons d5 dNil))))))) env (fun G => f0 fun x0 => f1 fun x1 => f2 fun x2 => f3 fun x3 => f4 fun x4 => f5 fun x5 => f x0 x1 x2 x3 x4 x5 G) := fun Q G hG g0 => by unfold dCallS; rw [hst]; exact h0 _ _ (fun x0 g1 => h1 _ _ (fun x1 g2 => h2 _ _ (fun x2 g3 => h3 _ _ (fun x3 g4 => h4 _ _ (fun x4 g5 => h5 _ _ (fun x5 g6 => ⟨x0, x1, x2, x3, x4, x5, G, rfl, rfl, rfl, rfl, rfl, rfl, g6, hG⟩) g5) g4) g3) g2) g1) g0
/-! a written dict -/
section
variable {α : Type} {env : Ev}
def Wp (dp : Ev → (List (D × D) → Prop) → Prop) (env : Ev) (F : M (List (D × D))) : Prop := ∀ (Q G : List (D × D) → Prop), (∀ a, G a → Q a) → F G → dp env Q
theorem wp_nil : Wp dpN env (fun G => G []) := fun _ _ h f => h _ f
theorem wp_str {e : α → D} {k : Str} {dv : DEx} {dp : Ev → (List (D × D) → Prop) → Prop} {F : M α} {F2 : M (List (D × D))} (h : We e dv env F) (h2 : Wp dp env F2) : Wp (dpS k dv dp) env (fun G => F fun x => F2 fun r => G ((.str k, e x) :: r)) := fun _ _ hG f => h _ _ (fun _ g => h2 _ _ (fun _ g2 => hG _ g2) g) f
theorem wp_int {e : α → D} {k : Int} {dv : DEx} {dp : Ev → (List (D × D) → Prop) → Prop} {F : M α} {F2 : M (List (D × D))} (h : We e dv env F) (h2 : Wp dp env F2) : Wp (dpI k dv dp) env (fun G => F fun x => F2 fun r => G ((.int k, e x) :: r)) := fun _ _ hG f => h _ _ (fun _ g => h2 _ _ (fun _ g2 => hG _ g2) g) f
theorem w_disp {dp : Ev → (List (D × D) → Prop) → Prop} {F : M (List (D × D))} (h : Wp dp env F) : We eD (dK dp) env (fun G => F fun r => G (.dict r)) := fun _ _ hG f => h _ _ (fun _ g => hG _ g) f
end
/-! sorted, typed -/
section
variable {env : Ev}
def sort2P (a b c d : Int) : List (Int × Int) := if c < a ∨ (c = a ∧ d < b) then [(c, d), (a, b)] else [(a, b), (c, d)]
theorem l_sort2 {da db dc dd : DEx} {F0 F1 F2 F3 : M Int} (h0 : We PyData.int da env F0) (h1 : We PyData.int db env F1) (h2 : We PyData.int dc env F2) (h3 : We PyData.int dd env F3) : Wl (eT2 PyData.int PyData.int) (dSort2o da db dc dd) env (fun G => F0 fun a => F1 fun b => F2 fun c => F3 fun d => G (sort2P a b c d)) :=
  fun Q G hG f => h0 _ _ (fun a f => h1 _ _ (fun b f => h2 _ _ (fun c f => h3 _ _ (fun d f => ⟨a, b, c, d, rfl, rfl, rfl, rfl, by
    have z := hG _ f
    unfold sort2P at z
    by_cases e : c < a ∨ (c = a ∧ d < b)
    · rw [if_pos e] at z ⊢; exact z
    · rw [if_neg e] at z ⊢; exact z⟩) f) f) f) f
def sortSetT (ns : List Int) : M (List Int) := fun G => ns.length < 64 ∧ ∀ ms : List Int, ms.Pairwise (· < ·) → (∀ k : Int, k ∈ ms ↔ k ∈ ns) → ms.length ≤ ns.length → G ms
theorem l_sortSet {de : DEx} {F : M (List Int)} (h : We (eL PyData.int) de env F) : Wl PyData.int (dSortSet de) env (fun G => F fun ns => sortSetT ns G) := fun Q G hG f => h _ _ (fun ns f => ⟨ns, rfl, f.1, fun ms h1 h2 h3 => hG _ (f.2 ms h1 h2 h3)⟩) f
end
/-! a < b of ints, or of tuples of ints -/
def rLtG (K : PySem.W.Frag) : R2 := fun x y H Q => rI0 (fun i j => .bl (decide (i < j))) x y H Q ∨ rLtT K x y H Q
theorem op_ltG {X : Cx} (hu : X.A.units < cLine) : OpR X (compareOp .Lt) (rLtG X.K) := fun pins s σ H x y v u Q I rx ry h => h.elim (op_lt pins s σ H x y v u Q I rx ry) (op_ltT hu pins s σ H x y v u Q I rx ry)
def ltD : D → D → Option Bool
  | .int i, .int j => some (decide (i < j))
  | .tuple as, .tuple bs => (match intsOf as, intsOf bs with | some ns, some ms => some (HT.lexLt ns ms) | _, _ => none)
  | _, _ => none
theorem Room.u0 {k : Nat} {A : Around} (r : Room k A) : A.units < cLine := by have := r.un; omega
section
variable {K : PySem.W.Frag}
def oLtG : D → D → (D → Prop) → Prop := fun x y Q => match ltD x y with
  | some b => Q (.bool b)
  | none => False
theorem rv_ltG : RfV2 K (rLtG K) oLtG := ⟨fun R h1 h2 q k => by
  unfold oLtG at q
  split at q
  · rename_i b e
    unfold ltD at e
    split at e
    · cases e
      cases h1 with | r h1 =>
      cases h2 with | r h2 =>
      cases h1; cases h2
      exact .inl ⟨_, _, rfl, rfl, k _ _ _ q (stp_refl R) (.bl _)⟩
    · split at e
      · rename_i ns ms e1 e2
        cases e
        obtain ⟨a, xs, rfl, ta, ra⟩ := h1.tup
        obtain ⟨b, ys, rfl, tb, rb⟩ := h2.tup
        have z1 := ints_V ra e1
        have z2 := ints_V rb e2
        subst z1; subst z2
        exact .inr ⟨a, b, ns, ms, rfl, rfl, ta.sq, tb.sq, k _ _ _ q (stp_refl R) (.bl _)⟩
      · cases e
    · cases e
  · exact q.elim⟩
end
def ltT (x y : D) : M Bool := fun G => ∃ b, ltD x y = some b ∧ G b
section
variable {α β : Type} {e : α → D} {e' : β → D} {env : Ev} {da db : DEx} {F : M α} {F' : M β}
theorem w_ltG (ha : We e da env F) (hb : We e' db env F') : We PyData.bool (dOp oLtG da db) env (fun G => F fun a => F' fun b => ltT (e a) (e' b) G) :=
  fun Q G hG f => ha _ _ (fun a h1 => hb _ _ (fun b ⟨c, h2, h3⟩ => by unfold oLtG; rw [h2]; exact hG _ h3) h1) f
end
/-! C.get(k, x) of a written dict of the top, asked by a text -/
def KGet (K : PySem.W.Frag) (w : World) (a : Addr) (x : Str) (r : Option V) : Prop :=
  ∃ es n u, K.lookup a = some ⟨.type "dict", none, .dict es n, #[]⟩ ∧ PySem.W.KeysLit w.params es.toList ∧ (a == sysModules) = false ∧ PySem.W.nsIn K a x = some u ∧ (match r with | none => u = none | some v => ∃ z, u = some z ∧ RelV v z)
def tKGet2 (K : PySem.W.Frag) (w : World) (a : Addr) (ty tx : TE) : TE := fun σ H Q => ty σ H fun y H2 => tx σ H2 fun z H3 => ∃ s r, y = .str s ∧ KGet K w a s r ∧ Q (r.getD z) H3
theorem pe_kget2 {X : Cx} {x : Str} {a : Addr} {npos apos cpos : Pos} {e f : Expr} {ty tx : TE} {es : Array DictEntry} {n : Nat} (hg : Gl X x) (hm : X.mg x = some (.ref a)) (hl : X.K.lookup a = some ⟨.type "dict", none, .dict es n, #[]⟩) (hk : PySem.W.KeysLit X.w.params es.toList)
    (he : PE X e ty) (hf : PE X f tx) (m : M2 X (.Name x npos) "get" apos e f cpos) (hd : (x == ("__debug__" : Str)) = false := by decide) :
    PE X (.Call (.Attribute (.Name x npos) "get" apos) [e, f] [] cpos) (tKGet2 X.K X.w a ty tx) := by
  refine ⟨fun pins s σ H Q I h => ?_⟩
  refine wpAny_Call_method m.base m.few m.line PySem.F.plainAttrs_dict PySem.F.slot_dict_get PySem.F.type_dict_get (ld_glob I hg hm ?_ hd)
  have hm0 := PySem.W.mapOf_K (prog := X.prog) (w := X.w) I.kIn hl hk
  refine ⟨hm0.typeIs, fun b q => by cases q; exact ⟨_, I.kIn _ _ hl, rfl⟩, ?_⟩
  rw [m.trees]
  refine Calls.callWith_builtin rfl (Calls.evalArgs_plain (Calls.spliced_cons (thn (he.run pins s σ H _ I h) fun iv s2 ⟨y, H2, I2, ry, q2⟩ =>
    Calls.spliced_cons (thn (hf.run pins s2 σ H2 _ I2 q2) fun fv s3 ⟨z, H3, I3, rz, st, r, ey, g, q3⟩ => Calls.spliced_nil ?_))))
  subst ey
  obtain ⟨t, rfl⟩ := (show ∃ t, iv = Value.str st t from ry)
  obtain ⟨es', n', u, hl', hk', hs, hn, hr⟩ := g
  have hm1 := PySem.W.mapOf_K (prog := X.prog) (w := X.w) I3.kIn hl' hk'
  refine call_meetsIn PySem.F.slot_dict_get hm1.typeIs PySem.F.entry_dict_get (PySem.F.args_dict_get_3 _ _ _) (meets_dict_get_default (strKind X.prog X.w) a (strKind_is X.prog X.w st t) hs fv) ⟨_, hm1, ⟨_, H3, I3.tok _, ?_, q3⟩⟩
  rw [PySem.W.find_K hl' hn]
  cases r with
  | none => rw [hr]; exact rz
  | some v => obtain ⟨z', e1, e2⟩ := hr; rw [e1]; exact e2
section
variable {K : PySem.W.Frag}
def dKg (tab : List (Str × D)) (miss : List Str) (dk dx : Ev → (D → Prop) → Prop) : Ev → (D → Prop) → Prop := fun env Q => dk env fun y => dx env fun z => match y with
  | .str s => (match tab.lookup s with | some d => Q d | none => s ∈ miss ∧ Q z)
  | _ => False
theorem re_kget2 {w : World} {a : Addr} {ty tx : TE} {dk dx : Ev → (D → Prop) → Prop} (tab : List (Str × D)) (miss : List Str) (ht : ∀ p ∈ tab, ∃ v, KGet K w a p.1 (some v) ∧ Sc p.2 v) (hm : ∀ s ∈ miss, KGet K w a s none) (h2 : RfE K ty dk) (h3 : RfE K tx dx) :
    RfE K (tKGet2 K w a ty tx) (dKg tab miss dk dx) := ⟨fun R q k => h2.run R q fun y u H2 q2 s2 r2 => h3.run (R.step s2) q2 fun z u3 H3 q3 s3 r3 => by
  split at q3
  · rename_i s
    cases r2
    split at q3
    · rename_i d e
      obtain ⟨v, g, sc⟩ := ht _ (look_mem e)
      exact ⟨_, _, rfl, g, k _ _ _ q3 (s2.trans s3) sc.rep⟩
    · exact ⟨_, _, rfl, hm _ q3.1, k _ _ _ q3.2 (s2.trans s3) r3⟩
  · exact q3.elim⟩
/-- a walk over a list that a name owns (in a comprehension) -/
theorem itlB_ok {a : Addr} {xs : List V} {ds : List D} {A M : Addr → Prop} {H : Hp} (h : H a = some (.lst xs)) (n : ¬ M a) (r : RepL K H M ds xs) : ItOk K (Itl K a) ds M H := itl_ok h n r
/-- x.index(y): flat ones, it is there -/
def dIdx (da db : Ev → (D → Prop) → Prop) : Ev → (D → Prop) → Prop := fun env Q => da env fun x => match x with
  | .list ds => db env fun y => flatD y = true ∧ ds.all flatD = true ∧ ∃ (j : Nat) (z : D), ds[j]? = some z ∧ PyData.eqv z y = true ∧ (∀ (m : Nat) (z' : D), m < j → ds[m]? = some z' → PyData.eqv z' y = false) ∧ Q (.int (j : Nat))
  | _ => False
theorem RepL.back {H : Hp} {M : Addr → Prop} : ∀ {ds : List D} {vs : List V}, RepL K H M ds vs → ∀ {m : Nat} {v : V}, vs[m]? = some v → ∃ d, ds[m]? = some d ∧ Rep K H M d v
  | _, _, .nil, _, _, e => by simp at e
  | _, _, .cons h _, 0, _, e => by simp at e; subst e; exact ⟨_, rfl, h⟩
  | _, _, .cons _ r, m + 1, _, e => by simpa using r.back (m := m) (by simpa using e)
end
/-! comprehensions over a list that a name owns -/
section
variable {K : PySem.W.Frag}
def ItOkC (K : PySem.W.Frag) (J : It) (ds : List D) (M0 : Addr → Prop) (ex : List Addr) (H0 : Hp) : Prop := ∀ (M : Addr → Prop) (H : Hp), To H0 H M0 M → Keep ex H0 H → (∀ a, M a → H a ≠ none) → ∀ i,
  (i = ds.length → J.stop i H) ∧ ∀ d, ds[i]? = some d → J.go i H ∧ ∀ x H', J.yld i H x H' → Same H H' ∧ Rep K H' M d x
structure RfIC (K : PySem.W.Frag) (t : TI) (di : Ev → (List D → Prop) → Prop) : Prop where
  run : ∀ {A : Addr → Prop} {st : Option (Addr × Addr)} {ow : Nat → Option Addr} {σ : L2.St} {H : Hp} {env : Ev} {Qd : List D → Prop} {R : It → Hp → Prop},
  RE K A st ow σ H env → di env Qd → (∀ ds J H', Qd ds → Stp st H H' → ItOkC K J ds (Mo A ow) (exs st) H' → R J H') → t σ H R
theorem ri_c {t : TI} {di : Ev → (List D → Prop) → Prop} (h : RfI K t di) : RfIC K t di := ⟨fun R q k => h.run R q fun ds J H' q' s J1 => k ds J H' q' s fun M H t _ => J1 M H t⟩
theorem itl_okC {a : Addr} {xs : List V} {ds : List D} {M : Addr → Prop} {ex : List Addr} {H : Hp} (h : H a = some (.lst xs)) (n : a ∉ ex) (r : RepL K H M ds xs) : ItOkC K (Itl K a) ds M ex H := fun M' H' t kp _ i => by
  have h' := kp _ _ h n
  refine ⟨fun l => ⟨xs, SqL.of h', by rw [← r.len]; omega⟩, fun d e => ?_⟩
  obtain ⟨v, ev, rv⟩ := r.get e
  exact ⟨⟨xs, v, SqL.of h', ev⟩, fun x H2 ⟨e2, y⟩ => by
    subst e2
    have := y xs (SqL.of h')
    rw [ev] at this
    cases this
    exact ⟨Same.refl' _, Rep.to t rv⟩⟩
theorem ri_listB {t : TE} {de : Ev → (D → Prop) → Prop} (h : RfB K t de) : RfIC K (iList K t) (dItL de) := ⟨fun R q k => h.run R q fun d v H1 q1 s1 r1 => by
  split at q1
  · have R1 := R.step s1
    cases r1 with
    | r r1 => cases r1 with | lst h0 n r => exact ⟨_, rfl, ⟨_, SqL.of h0⟩, k _ _ _ q1 s1 (itl_okC h0 (fun z => n (.inl (R1.exA _ z))) r)⟩
    | o h0 n r => exact ⟨_, rfl, ⟨_, SqL.of h0⟩, k _ _ _ q1 s1 (itl_okC h0 (fun z => n (R1.exA _ z)) r)⟩
  · exact q1.elim⟩
theorem rf_lcC {vs is : List Nat} {wi : TI} {tg : TG} {tt : TT} {te : TE} {di : Ev → (List D → Prop) → Prop} {g : D → Ev → (Ev → Prop) → Prop} {c : Ev → (Bool → Prop) → Prop} {e : Ev → (D → Prop) → Prop}
    (hi : RfIC K wi di) (hg : RfG K is tg g) (hc : RfT K tt c) (he : RfE K te e) (his : ∀ i ∈ is, i ∈ vs := by decide) : RfF K (tLc wi tg tt te vs) (dLc vs di g c e) := ⟨fun {A st ow σ H env Qd Q} R q0 k =>
  hi.run R q0.2 fun ds J H1 ⟨hl, q1⟩ s1 J1 L hL => by
    have hno := R.noOwn q0.1
    have R1 := R.step s1
    have nM := R1.newM hL
    let A' : Addr → Prop := fun a => A a ∨ a = L
    have toA : ∀ {H' : Hp}, To H1 (upd H1 L (.lst [])) (Mo A ow) (Mo A' ow) := new_to hL fun a z => by
      rcases z with (z | z) | z
      · exact .inl (.inl z)
      · exact .inr z
      · exact .inl (.inr z)
    have bk : ∀ a, Mo A' ow a → Mo A ow a ∨ a = L := fun a z => by
      rcases z with (z | z) | z
      · exact .inl (.inl z)
      · exact .inr z
      · exact .inl (.inr z)
    have fw : ∀ a, Mo A ow a → Mo A' ow a := fun a z => z.elim (fun z => .inl (.inl z)) .inr
    have fwL : Mo A' ow L := .inl (.inr rfl)
    -- the turns
    refine ⟨fun i m H' => m = ds.length - i ∧ i ≤ ds.length ∧ ∃ acc xs, H' L = some (.lst xs) ∧ xs.length ≤ i ∧ RepL K H' (Mo A' ow) acc xs ∧ RE K A' st ow (wipe σ vs) H' (wipeE env vs) ∧ Keep (exs st) H1 H' ∧ To H1 H' (Mo A ow) (Mo A' ow) ∧ LSo st H' ∧
      lcD g c e (ds.drop i) (wipeE env vs) (fun r => Qd (acc ++ r)), ⟨_, rfl, Nat.zero_le _, [], [], upd_same, Nat.zero_le _, .nil, ?_, ?_, toA (H' := H1), ?_, ?_⟩, ?_⟩
    · have RR := (R1.wipes vs hno)
      have S1 : Stp st H1 (upd H1 L (.lst [])) := R1.new hL
      have RS := RR.step S1
      refine ⟨RS.ls, fun a z => ?_, fun z e => ⟨.inl (RS.sta z e).1, .inl (RS.sta z e).2⟩, RS.al, fun j a e z => ?_, RS.inj, RS.tie, RS.len, fun j e' he' => ?_⟩
      · rcases z with z | rfl
        · exact RS.dom a z
        · rw [upd_same]; intro z; cases z
      · rcases z with z | rfl
        · exact RS.na j a e z
        · exact R1.al j _ e hL
      · obtain ⟨v, hv, r⟩ := RR.sl j e' he'
        refine ⟨v, hv, ?_⟩
        have t : To H1 (upd H1 L (.lst [])) (Mo A ow) (Mo A' ow) := toA (H' := H1)
        cases e' with
        | d x => exact Rep.to t r
        | own ds =>
          obtain ⟨a, vs, h1, h2, h3, h4⟩ := r
          exact ⟨a, vs, h1, h2, same_upd hL _ _ h3, RepL.to t h4⟩
        | odk ds =>
          obtain ⟨a, vs, h1, h2, h3, h4⟩ := r
          exact ⟨a, vs, h1, h2, same_upd hL _ _ h3, RepK.to t h4⟩
        | st => exact r
    · exact fun b o z n => same_upd hL b o z
    · exact s1.l.same (same_upd hL)
    · exact q1
    · rintro i m H' ⟨rfl, hi, acc, xs, hx, hxl, rx, RR, kk, tt', ll, qq⟩
      have al : ∀ a, Mo A' ow a → H' a ≠ none := fun a z => RR.alM z
      by_cases hlt : i < ds.length
      · have eD : ds[i]? = some ds[i] := List.getElem?_eq_getElem hlt
        rw [drop_get eD] at qq
        obtain ⟨go, yl⟩ := (J1 (Mo A' ow) H' tt' kk al i).2 _ eD
        refine .inr ⟨go, fun H2 => ∃ acc xs, H2 L = some (.lst xs) ∧ xs.length ≤ i + 1 ∧ RepL K H2 (Mo A' ow) acc xs ∧ RE K A' st ow (wipe σ vs) H2 (wipeE env vs) ∧ Keep (exs st) H1 H2 ∧ To H1 H2 (Mo A ow) (Mo A' ow) ∧ LSo st H2 ∧
          lcD g c e (ds.drop (i + 1)) (wipeE env vs) (fun r => Qd (acc ++ r)), fun H2 z => ⟨_, by omega, rfl, hlt, z⟩, fun x H2 y => ?_⟩
        obtain ⟨sm, rx1⟩ := yl x H2 y
        have S2 : Stp st H' H2 := .same ll sm
        have RR2 := RR.step S2
        refine hg.run RR2 rx1 qq fun env3 ow3 σ3 q3 R3 sub3 w3 => ⟨(w3 vs his).1.trans wipe_idem, ?_⟩
        have eo : ow = ow3 := funext fun j => by
          by_cases hj : j ∈ vs
          · cases e : ow3 j with
            | none => exact hno j hj
            | some a => exact sub3 j a e
          · exact ((w3 vs his).2 j hj).symm
        subst eo
        refine hc.run R3 q3 fun b H4 q4 s4 => ?_
        have R4 := R3.step s4
        have L4 : H4 L = some (.lst xs) := s4.k L _ (sm L _ hx) fun z => by
          obtain ⟨z1, e1, z2⟩ := exs_mem z
          have w := RR.sta z1 e1
          obtain ⟨kk', ns, l1, l2, l3⟩ := R1.ls z1 e1
          rcases z2 with z2 | z2
          · rw [z2, l1] at hL; cases hL
          · rw [z2, l2] at hL; cases hL
        have exL : ∀ a ∈ exs st, a ≠ L := fun a z e' => by
          subst e'
          exact R1.ls.ne _ z hL
        have S4 : Stp st H' H4 := ⟨S2.k.trans s4.k, s4.l⟩
        have RR4 := RR.step S4
        have t4 : To H' H4 (Mo A' ow) (Mo A' ow) := RR.toS S4
        have kH4 : Keep (exs st) H1 H4 := kk.trans S4.k
        have tH4 : To H1 H4 (Mo A ow) (Mo A' ow) := tt'.trans t4
        cases b with
        | false =>
          rw [if_neg Bool.false_ne_true] at q4 ⊢
          exact ⟨acc, xs, L4, Nat.le_succ_of_le hxl, RepL.to t4 rx, RR4, kH4, tH4, s4.l, q4⟩
        | true =>
          rw [if_pos rfl] at q4 ⊢
          refine he.run R4 q4 fun d v H5 q5 s5 r5 => ?_
          have L5 : H5 L = some (.lst xs) := s5.k L _ L4 fun z => exL L z rfl
          have S5 : Stp st H' H5 := ⟨S4.k.trans s5.k, s5.l⟩
          have RR5 := RR.step S5
          have t5 : To H' H5 (Mo A' ow) (Mo A' ow) := RR.toS S5
          have len5 : xs.length < sizeLine := Nat.lt_of_le_of_lt hxl (Nat.lt_of_lt_of_le hlt (Nat.le_trans hl (by decide)))
          have nL5 : ∀ {b : Addr} {o : HO}, H5 b = some o → ¬ Mo A' ow b → b ≠ L := fun _ n z => n (z ▸ fwL)
          have t6 : To H5 (upd H5 L (.lst (xs ++ [v]))) (Mo A' ow) (Mo A' ow) := ⟨fun b o e' n => ⟨by rw [upd_ne (nL5 e' n)]; exact e', n⟩⟩
          have l6 : LSo st (upd H5 L (.lst (xs ++ [v]))) := fun z e' => by
            obtain ⟨kk', ns, l1, l2, l3⟩ := s5.l z e'
            have m1 : z.1 ≠ L := exL _ (by subst e'; simp [exs])
            have m2 : z.2 ≠ L := exL _ (by subst e'; simp [exs])
            exact ⟨kk', ns, by rw [upd_ne m1]; exact l1, by rw [upd_ne m2]; exact l2, l3⟩
          have k6 : Keep [L] H5 (upd H5 L (.lst (xs ++ [v]))) := fun b o e' n => by
            rw [upd_ne (fun z => n (by rw [z]; simp))]
            exact e'
          refine ⟨xs, L5, len5, acc ++ [d], xs ++ [v], upd_same, by rw [List.length_append]; exact Nat.succ_le_succ hxl, RepL.to t6 ((RepL.to t5 rx).snoc r5), ?_, fun b o e' n => ?_, (tt'.trans t5).trans t6, l6, ?_⟩
          · refine RR5.keep (ex := [L]) (fun a ha => .inr (by simpa using ha)) k6 l6 fun a ha => ?_
            have : a = L := by simpa using ha
            subst this
            rw [upd_same]; intro z; cases z
          · rw [upd_ne (fun z => by rw [z, hL] at e'; cases e')]
            exact S5.k b o (kk b o e' n) n
          · have : (fun r => Qd (acc ++ [d] ++ r)) = fun r => Qd (acc ++ (d :: r)) := funext fun r => by rw [List.append_assoc]; rfl
            rw [this]
            exact q5
      · have e' : i = ds.length := by omega
        subst e'
        rw [List.drop_length] at qq
        refine .inl ⟨(J1 (Mo A' ow) H' tt' kk al _).1 rfl, ?_⟩
        have q9 : Qd (acc ++ []) := qq
        rw [List.append_nil] at q9
        exact k acc L xs H' q9 ⟨s1.k.trans kk, ll⟩ (s1.none hL) hx (RepL.to (to_less fun a z => z.elim (fw a) fun y => y ▸ fwL) rx)⟩
end
section
variable {K : PySem.W.Frag}
theorem flat_at' {ds : List D} {m : Nat} {d : D} (h : ds.all flatD = true) (e : ds[m]? = some d) : flatD d = true := List.all_eq_true.mp h d (List.mem_of_getElem? e)
theorem re_idx {to te : TE} {da db : Ev → (D → Prop) → Prop} (h : RfB K to da) (h2 : RfE K te db) : RfE K (tBM K "list" (rIndex K) to (tCons te tNil)) (dIdx da db) := ⟨fun R q k => h.run R q fun x v H1 q1 s1 r1 => by
  split at q1
  · rename_i ds
    obtain ⟨a, xs, rfl, ha, ra⟩ := _root_.id r1.lst
    refine ⟨.inl ⟨rfl, _, SqL.of ha⟩, h2.run (R.step s1) q1 fun y u H2 q2 s2 r2 => ?_⟩
    obtain ⟨fy, fd, j, z, ej, ez, no, q3⟩ := q2
    have R2 := (R.step s1).step s2
    obtain ⟨a', xs', e', ha', ra'⟩ := ((R.step s1).stepB s2 r1).lst
    cases e'
    obtain ⟨vz, ev, rz⟩ := ra'.get ej
    refine ⟨_, _, _, j, vz, rfl, rfl, SqL.of ha', by rw [flat_V r2]; exact fy, by rw [flat_all ra']; exact fd, ev, ?_, fun m z' hm hz => ?_, k _ _ _ q3 (s1.trans s2) (.int _)⟩
    · rw [eqV_D rz r2 (flat_at' fd ej) fy]; exact ez
    · obtain ⟨d, ed, rd⟩ := ra'.back hz
      rw [eqV_D rd r2 (flat_at' fd ed) fy]
      exact no m d hm ed
  · exact q1.elim⟩
end
/-- the first place of a in xs -/
def idxT {α : Type} [DecidableEq α] (xs : List α) (a : α) : M Int := fun G => a ∈ xs ∧ G ((xs.idxOf a : Nat) : Int)
section
variable {α β : Type} [DecidableEq α] {e : α → D} {env : Ev} {da db : DEx} {F : M (List α)} {F' : M α}
theorem idx_first : ∀ (xs : List α) {a : α}, a ∈ xs → xs[xs.idxOf a]? = some a ∧ ∀ m b, m < xs.idxOf a → xs[m]? = some b → b ≠ a
  | x :: r, a, h => by
    by_cases hx : x = a
    · subst hx
      rw [List.idxOf_cons_self]
      exact ⟨rfl, fun m b hm => by omega⟩
    · have hr : a ∈ r := (List.mem_cons.mp h).resolve_left (Ne.symm hx)
      obtain ⟨h1, h2⟩ := idx_first r hr
      have e0 : (x :: r).idxOf a = r.idxOf a + 1 := by
        have h9 : (x == a) = false := by simpa using hx
        rw [List.idxOf_cons, h9]
        rfl
      rw [e0]
      refine ⟨by simpa using h1, fun m b hm hb => ?_⟩
      cases m with
      | zero => simp at hb; subst hb; exact hx
      | succ m => exact h2 m b (by omega) (by simpa using hb)
theorem w_idx (fl : FlE e) (ha : We (eL e) da env F) (hb : We e db env F') : We PyData.int (dIdx da db) env (fun G => F fun xs => F' fun a => idxT xs a G) := fun Q G hG f => ha _ _ (fun xs h1 => hb _ _ (fun a h2 => by
  obtain ⟨hm, g⟩ := h2
  obtain ⟨i1, i2⟩ := idx_first xs hm
  refine ⟨fl.f a, fl_all fl xs, xs.idxOf a, e a, by rw [List.getElem?_map, i1]; rfl, (fl.e a a).mpr rfl, fun m z' hlt hz => ?_, hG _ g⟩
  rw [List.getElem?_map] at hz
  cases hb' : xs[m]? with
  | none => rw [hb'] at hz; cases hz
  | some b =>
    rw [hb'] at hz
    cases hz
    exact Bool.eq_false_iff.mpr fun z => i2 m b hlt hb' ((fl.e b a).mp z)) h1) f
end
theorem fl_B : FlE PyData.bool := ⟨fun _ => rfl, fun a b => by simp [PyData.eqv]⟩
section
variable {α : Type} {e : α → D} {env : Ev} {dk dx : DEx} {F : M Str} {F' : M α}
/-- what a written dict gives, or x -/
def kgT (tab : List (Str × α)) (miss : List Str) (s : Str) (x : α) : M α := fun G => match tab.lookup s with | some a => G a | none => s ∈ miss ∧ G x
theorem lookup_map {β : Type} (f : α → β) (s : Str) : ∀ tab : List (Str × α), (tab.map fun p => (p.1, f p.2)).lookup s = (tab.lookup s).map f
  | [] => rfl
  | (k, a) :: r => by
    rw [List.map_cons, List.lookup_cons, List.lookup_cons]
    cases s == k with
    | true => rfl
    | false => exact lookup_map f s r
theorem w_kget2 {tab : List (Str × α)} {tabD : List (Str × D)} {miss : List Str} (ht : tabD = tab.map fun p => (p.1, e p.2)) (hk : We PyData.str dk env F) (hx : We e dx env F') : We e (dKg tabD miss dk dx) env (fun G => F fun s => F' fun x => kgT tab miss s x G) := fun Q G hG f => hk _ _ (fun s h1 => hx _ _ (fun x h2 => by
  unfold kgT at h2
  show match tabD.lookup s with | some d => Q d | none => s ∈ miss ∧ Q (e x)
  rw [ht, lookup_map]
  cases hl : tab.lookup s with
  | none => rw [hl] at h2; exact ⟨h2.1, hG _ h2.2⟩
  | some a => rw [hl] at h2; exact hG _ h2) h1) f
end
theorem u1 {n : Nat} (h : n + 64 < cLine) : n + 1 < cLine := by omega
/-! Functions into Option that are followed by the typed functions: z_f args = some r, Q r, then y_f args Q. -/
def Zp {ρ : Type} (Q : ρ → Prop) (o : Option ρ) (p : Prop) : Prop := ∀ r, o = some r → Q r → p
def Zs {α : Type} (o : Option α) (F : M α) : Prop := ∀ G : α → Prop, Zp G o (F G)
theorem zq {ρ : Type} {Q : ρ → Prop} {a : ρ} : Zp Q (some a) (Q a) := fun r e q => by cases e; exact q
theorem zb {ρ α : Type} {Q : ρ → Prop} {o : Option α} {F : M α} {f : α → Option ρ} {g : α → Prop} (h : Zs o F) (k : ∀ a, Zp Q (f a) (g a)) : Zp Q (o.bind f) (F g) := fun r e q => by
  cases ho : o with
  | none => rw [ho] at e; cases e
  | some a => rw [ho] at e; exact h g a ho (k a r e q)
theorem zs_let {α : Type} {a : α} : Zs (some a) (letT a) := fun G r z g => by cases z; exact g
theorem zg {ρ : Type} {Q : ρ → Prop} {c : Prop} [Decidable c] {o : Option ρ} {p : Prop} (k : Zp Q o p) : Zp Q (if c then o else none) (c ∧ p) := fun r e q => by
  by_cases h : c
  · rw [if_pos h] at e; exact ⟨h, k r e q⟩
  · rw [if_neg h] at e; cases e
theorem zi {ρ : Type} {Q : ρ → Prop} {c : Prop} [Decidable c] {a b : Option ρ} {p p' : Prop} (h : Zp Q a p) (h' : Zp Q b p') : Zp Q (if c then a else b) (if c then p else p') := fun r e q => by
  by_cases hc : c
  · rw [if_pos hc] at e ⊢; exact h r e q
  · rw [if_neg hc] at e ⊢; exact h' r e q
theorem zes {ρ α : Type} {Q : ρ → Prop} {o : Option α} {f : α → Option ρ} {g : α → Prop} (k : ∀ a, Zp Q (f a) (g a)) : Zp Q (o.bind f) (∃ v, o = some v ∧ g v) := fun r e q => by
  cases ho : o with
  | none => rw [ho] at e; cases e
  | some a => rw [ho] at e; exact ⟨a, rfl, k a r e q⟩
def oneC (s : Str) : Option Nat := match s.cps.toList with
  | [c] => some c
  | _ => none
theorem oneC_ok : ∀ {s : Str} {c : Nat}, oneC s = some c → s = ⟨#[c]⟩
  | ⟨⟨[c']⟩⟩, c, h => by cases h; rfl
  | ⟨⟨[]⟩⟩, c, h => by cases h
  | ⟨⟨_ :: _ :: _⟩⟩, c, h => by cases h
theorem zec {ρ : Type} {Q : ρ → Prop} {s : Str} {f : Nat → Option ρ} {g : Nat → Prop} (k : ∀ a, Zp Q (f a) (g a)) : Zp Q ((oneC s).bind f) (∃ c, s = ⟨#[c]⟩ ∧ g c) := fun r e q => by
  cases ho : oneC s with
  | none => rw [ho] at e; cases e
  | some a => rw [ho] at e; exact ⟨a, oneC_ok ho, k a r e q⟩
/-! readers of plain data by kinds -/
def Dc {α : Type} (e : α → D) (r : D → Option α) : Prop := ∀ d a, r d = some a → d = e a
def rI : D → Option Int | .int i => some i | _ => none
def rB : D → Option Bool | .bool i => some i | _ => none
def rS : D → Option Str | .str i => some i | _ => none
def rN : D → Option Unit | .none => some () | _ => none
def rAll {α : Type} (r : D → Option α) : List D → Option (List α)
  | [] => some []
  | d :: ds => (r d).bind fun a => (rAll r ds).bind fun as => some (a :: as)
def rL {α : Type} (r : D → Option α) : D → Option (List α) | .list ds => rAll r ds | _ => none
def rU {α : Type} (r : D → Option α) : D → Option (List α) | .tuple ds => rAll r ds | _ => none
def rO {α : Type} (r : D → Option α) : D → Option (Option α) | .none => some none | d => (r d).map some
theorem rc_D : Dc eD some := fun d a h => by cases h; rfl
theorem rc_I : Dc PyData.int rI := fun d a h => by cases d <;> simp_all [rI]
theorem rc_B : Dc PyData.bool rB := fun d a h => by cases d <;> simp_all [rB]
theorem rc_S : Dc PyData.str rS := fun d a h => by cases d <;> simp_all [rS]
theorem rc_N : Dc eN rN := fun d a h => by cases d <;> simp_all [rN]
theorem rc_all {α : Type} {e : α → D} {r : D → Option α} (h : Dc e r) : ∀ ds as, rAll r ds = some as → ds = as.map e
  | [], as, z => by cases z; rfl
  | d :: ds, as, z => by
    unfold rAll at z
    cases h1 : r d with
    | none => rw [h1] at z; cases z
    | some a =>
      cases h2 : rAll r ds with
      | none => rw [h1, h2] at z; cases z
      | some bs =>
        rw [h1, h2] at z
        cases z
        rw [List.map_cons, ← h d a h1, ← rc_all h ds bs h2]
theorem rc_L {α : Type} {e : α → D} {r : D → Option α} (h : Dc e r) : Dc (eL e) (rL r) := fun d as z => by
  unfold rL at z
  split at z
  · exact congrArg PyData.list (rc_all h _ _ z)
  · cases z
theorem rc_U {α : Type} {e : α → D} {r : D → Option α} (h : Dc e r) : Dc (eU e) (rU r) := fun d as z => by
  unfold rU at z
  split at z
  · exact congrArg PyData.tuple (rc_all h _ _ z)
  · cases z
theorem rc_O {α : Type} {e : α → D} {r : D → Option α} (h : Dc e r) : Dc (eO e) (rO r) := fun d o z => by
  unfold rO at z
  split at z
  · cases z; rfl
  · cases h1 : r d with
    | none => rw [h1] at z; cases z
    | some a => rw [h1] at z; cases z; exact h d a h1
def rT0 : D → Option Unit | .tuple [] => some () | _ => none
theorem rc_T0 : Dc eT0 rT0 := fun d a h => by
  unfold rT0 at h
  split at h
  · rfl
  · cases h
def rT1 {t0 : Type} (r0 : D → Option t0) : D → Option (t0)
  | .tuple [d0] => (r0 d0).bind fun a0 => some a0
  | _ => none
theorem rc_T1 {t0 : Type} {e0 : t0 → D} {r0 : D → Option t0} (h0 : Dc e0 r0) : Dc (eT1 e0) (rT1 r0) := fun d p z => by
  unfold rT1 at z
  split at z
  · rename_i d0
    simp only [Option.bind_eq_some_iff, Option.some.injEq] at z
    obtain ⟨a0, k0, rfl⟩ := z
    unfold eT1
    rw [h0 _ _ k0]
  · cases z
def rT2 {t0 t1 : Type} (r0 : D → Option t0) (r1 : D → Option t1) : D → Option (t0 × t1)
  | .tuple [d0, d1] => (r0 d0).bind fun a0 => (r1 d1).bind fun a1 => some (a0, a1)
  | _ => none
theorem rc_T2 {t0 t1 : Type} {e0 : t0 → D} {e1 : t1 → D} {r0 : D → Option t0} {r1 : D → Option t1} (h0 : Dc e0 r0) (h1 : Dc e1 r1) : Dc (eT2 e0 e1) (rT2 r0 r1) := fun d p z => by
  unfold rT2 at z
  split at z
  · rename_i d0 d1
    simp only [Option.bind_eq_some_iff, Option.some.injEq] at z
    obtain ⟨a0, k0, a1, k1, rfl⟩ := z
    unfold eT2
    rw [h0 _ _ k0, h1 _ _ k1]
  · cases z
def rT3 {t0 t1 t2 : Type} (r0 : D → Option t0) (r1 : D → Option t1) (r2 : D → Option t2) : D → Option (t0 × t1 × t2)
  | .tuple [d0, d1, d2] => (r0 d0).bind fun a0 => (r1 d1).bind fun a1 => (r2 d2).bind fun a2 => some (a0, a1, a2)
  | _ => none
theorem rc_T3 {t0 t1 t2 : Type} {e0 : t0 → D} {e1 : t1 → D} {e2 : t2 → D} {r0 : D → Option t0} {r1 : D → Option t1} {r2 : D → Option t2} (h0 : Dc e0 r0) (h1 : Dc e1 r1) (h2 : Dc e2 r2) : Dc (eT3 e0 e1 e2) (rT3 r0 r1 r2) := fun d p z => by
  unfold rT3 at z
  split at z
  · rename_i d0 d1 d2
    simp only [Option.bind_eq_some_iff, Option.some.injEq] at z
    obtain ⟨a0, k0, a1, k1, a2, k2, rfl⟩ := z
    unfold eT3
    rw [h0 _ _ k0, h1 _ _ k1, h2 _ _ k2]
  · cases z
def rT4 {t0 t1 t2 t3 : Type} (r0 : D → Option t0) (r1 : D → Option t1) (r2 : D → Option t2) (r3 : D → Option t3) : D → Option (t0 × t1 × t2 × t3)
  | .tuple [d0, d1, d2, d3] => (r0 d0).bind fun a0 => (r1 d1).bind fun a1 => (r2 d2).bind fun a2 => (r3 d3).bind fun a3 => some (a0, a1, a2, a3)
  | _ => none
theorem rc_T4 {t0 t1 t2 t3 : Type} {e0 : t0 → D} {e1 : t1 → D} {e2 : t2 → D} {e3 : t3 → D} {r0 : D → Option t0} {r1 : D → Option t1} {r2 : D → Option t2} {r3 : D → Option t3} (h0 : Dc e0 r0) (h1 : Dc e1 r1) (h2 : Dc e2 r2) (h3 : Dc e3 r3) : Dc (eT4 e0 e1 e2 e3) (rT4 r0 r1 r2 r3) := fun d p z => by
  unfold rT4 at z
  split at z
  · rename_i d0 d1 d2 d3
    simp only [Option.bind_eq_some_iff, Option.some.injEq] at z
    obtain ⟨a0, k0, a1, k1, a2, k2, a3, k3, rfl⟩ := z
    unfold eT4
    rw [h0 _ _ k0, h1 _ _ k1, h2 _ _ k2, h3 _ _ k3]
  · cases z
def rT5 {t0 t1 t2 t3 t4 : Type} (r0 : D → Option t0) (r1 : D → Option t1) (r2 : D → Option t2) (r3 : D → Option t3) (r4 : D → Option t4) : D → Option (t0 × t1 × t2 × t3 × t4)
  | .tuple [d0, d1, d2, d3, d4] => (r0 d0).bind fun a0 => (r1 d1).bind fun a1 => (r2 d2).bind fun a2 => (r3 d3).bind fun a3 => (r4 d4).bind fun a4 => some (a0, a1, a2, a3, a4)
  | _ => none
theorem rc_T5 {t0 t1 t2 t3 t4 : Type} {e0 : t0 → D} {e1 : t1 → D} {e2 : t2 → D} {e3 : t3 → D} {e4 : t4 → D} {r0 : D → Option t0} {r1 : D → Option t1} {r2 : D → Option t2} {r3 : D → Option t3} {r4 : D → Option t4} (h0 : Dc e0 r0) (h1 : Dc e1 r1) (h2 : Dc e2 r2) (h3 : Dc e3 r3) (h4 : Dc e4 r4) : Dc (eT5 e0 e1 e2 e3 e4) (rT5 r0 r1 r2 r3 r4) := fun d p z => by
  unfold rT5 at z
  split at z
  · rename_i d0 d1 d2 d3 d4
    simp only [Option.bind_eq_some_iff, Option.some.injEq] at z
    obtain ⟨a0, k0, a1, k1, a2, k2, a3, k3, a4, k4, rfl⟩ := z
    unfold eT5
    rw [h0 _ _ k0, h1 _ _ k1, h2 _ _ k2, h3 _ _ k3, h4 _ _ k4]
  · cases z
def rT6 {t0 t1 t2 t3 t4 t5 : Type} (r0 : D → Option t0) (r1 : D → Option t1) (r2 : D → Option t2) (r3 : D → Option t3) (r4 : D → Option t4) (r5 : D → Option t5) : D → Option (t0 × t1 × t2 × t3 × t4 × t5)
  | .tuple [d0, d1, d2, d3, d4, d5] => (r0 d0).bind fun a0 => (r1 d1).bind fun a1 => (r2 d2).bind fun a2 => (r3 d3).bind fun a3 => (r4 d4).bind fun a4 => (r5 d5).bind fun a5 => some (a0, a1, a2, a3, a4, a5)
  | _ => none
theorem rc_T6 {t0 t1 t2 t3 t4 t5 : Type} {e0 : t0 → D} {e1 : t1 → D} {e2 : t2 → D} {e3 : t3 → D} {e4 : t4 → D} {e5 : t5 → D} {r0 : D → Option t0} {r1 : D → Option t1} {r2 : D → Option t2} {r3 : D → Option t3} {r4 : D → Option t4} {r5 : D → Option t5} (h0 : Dc e0 r0) (h1 : Dc e1 r1) (h2 : Dc e2 r2) (h3 : Dc e3 r3) (h4 : Dc e4 r4) (h5 : Dc e5 r5) : Dc (eT6 e0 e1 e2 e3 e4 e5) (rT6 r0 r1 r2 r3 r4 r5) := fun d p z => by
  unfold rT6 at z
  split at z
  · rename_i d0 d1 d2 d3 d4 d5
    simp only [Option.bind_eq_some_iff, Option.some.injEq] at z
    obtain ⟨a0, k0, a1, k1, a2, k2, a3, k3, a4, k4, a5, k5, rfl⟩ := z
    unfold eT6
    rw [h0 _ _ k0, h1 _ _ k1, h2 _ _ k2, h3 _ _ k3, h4 _ _ k4, h5 _ _ k5]
  · cases z
def rT7 {t0 t1 t2 t3 t4 t5 t6 : Type} (r0 : D → Option t0) (r1 : D → Option t1) (r2 : D → Option t2) (r3 : D → Option t3) (r4 : D → Option t4) (r5 : D → Option t5) (r6 : D → Option t6) : D → Option (t0 × t1 × t2 × t3 × t4 × t5 × t6)
  | .tuple [d0, d1, d2, d3, d4, d5, d6] => (r0 d0).bind fun a0 => (r1 d1).bind fun a1 => (r2 d2).bind fun a2 => (r3 d3).bind fun a3 => (r4 d4).bind fun a4 => (r5 d5).bind fun a5 => (r6 d6).bind fun a6 => some (a0, a1, a2, a3, a4, a5, a6)
  | _ => none
theorem rc_T7 {t0 t1 t2 t3 t4 t5 t6 : Type} {e0 : t0 → D} {e1 : t1 → D} {e2 : t2 → D} {e3 : t3 → D} {e4 : t4 → D} {e5 : t5 → D} {e6 : t6 → D} {r0 : D → Option t0} {r1 : D → Option t1} {r2 : D → Option t2} {r3 : D → Option t3} {r4 : D → Option t4} {r5 : D → Option t5} {r6 : D → Option t6} (h0 : Dc e0 r0) (h1 : Dc e1 r1) (h2 : Dc e2 r2) (h3 : Dc e3 r3) (h4 : Dc e4 r4) (h5 : Dc e5 r5) (h6 : Dc e6 r6) : Dc (eT7 e0 e1 e2 e3 e4 e5 e6) (rT7 r0 r1 r2 r3 r4 r5 r6) := fun d p z => by
  unfold rT7 at z
  split at z
  · rename_i d0 d1 d2 d3 d4 d5 d6
    simp only [Option.bind_eq_some_iff, Option.some.injEq] at z
    obtain ⟨a0, k0, a1, k1, a2, k2, a3, k3, a4, k4, a5, k5, a6, k6, rfl⟩ := z
    unfold eT7
    rw [h0 _ _ k0, h1 _ _ k1, h2 _ _ k2, h3 _ _ k3, h4 _ _ k4, h5 _ _ k5, h6 _ _ k6]
  · cases z
def rT8 {t0 t1 t2 t3 t4 t5 t6 t7 : Type} (r0 : D → Option t0) (r1 : D → Option t1) (r2 : D → Option t2) (r3 : D → Option t3) (r4 : D → Option t4) (r5 : D → Option t5) (r6 : D → Option t6) (r7 : D → Option t7) : D → Option (t0 × t1 × t2 × t3 × t4 × t5 × t6 × t7)
  | .tuple [d0, d1, d2, d3, d4, d5, d6, d7] => (r0 d0).bind fun a0 => (r1 d1).bind fun a1 => (r2 d2).bind fun a2 => (r3 d3).bind fun a3 => (r4 d4).bind fun a4 => (r5 d5).bind fun a5 => (r6 d6).bind fun a6 => (r7 d7).bind fun a7 => some (a0, a1, a2, a3, a4, a5, a6, a7)
  | _ => none
theorem rc_T8 {t0 t1 t2 t3 t4 t5 t6 t7 : Type} {e0 : t0 → D} {e1 : t1 → D} {e2 : t2 → D} {e3 : t3 → D} {e4 : t4 → D} {e5 : t5 → D} {e6 : t6 → D} {e7 : t7 → D} {r0 : D → Option t0} {r1 : D → Option t1} {r2 : D → Option t2} {r3 : D → Option t3} {r4 : D → Option t4} {r5 : D → Option t5} {r6 : D → Option t6} {r7 : D → Option t7} (h0 : Dc e0 r0) (h1 : Dc e1 r1) (h2 : Dc e2 r2) (h3 : Dc e3 r3) (h4 : Dc e4 r4) (h5 : Dc e5 r5) (h6 : Dc e6 r6) (h7 : Dc e7 r7) : Dc (eT8 e0 e1 e2 e3 e4 e5 e6 e7) (rT8 r0 r1 r2 r3 r4 r5 r6 r7) := fun d p z => by
  unfold rT8 at z
  split at z
  · rename_i d0 d1 d2 d3 d4 d5 d6 d7
    simp only [Option.bind_eq_some_iff, Option.some.injEq] at z
    obtain ⟨a0, k0, a1, k1, a2, k2, a3, k3, a4, k4, a5, k5, a6, k6, a7, k7, rfl⟩ := z
    unfold eT8
    rw [h0 _ _ k0, h1 _ _ k1, h2 _ _ k2, h3 _ _ k3, h4 _ _ k4, h5 _ _ k5, h6 _ _ k6, h7 _ _ k7]
  · cases z
def rT9 {t0 t1 t2 t3 t4 t5 t6 t7 t8 : Type} (r0 : D → Option t0) (r1 : D → Option t1) (r2 : D → Option t2) (r3 : D → Option t3) (r4 : D → Option t4) (r5 : D → Option t5) (r6 : D → Option t6) (r7 : D → Option t7) (r8 : D → Option t8) : D → Option (t0 × t1 × t2 × t3 × t4 × t5 × t6 × t7 × t8)
  | .tuple [d0, d1, d2, d3, d4, d5, d6, d7, d8] => (r0 d0).bind fun a0 => (r1 d1).bind fun a1 => (r2 d2).bind fun a2 => (r3 d3).bind fun a3 => (r4 d4).bind fun a4 => (r5 d5).bind fun a5 => (r6 d6).bind fun a6 => (r7 d7).bind fun a7 => (r8 d8).bind fun a8 => some (a0, a1, a2, a3, a4, a5, a6, a7, a8)
  | _ => none
theorem rc_T9 {t0 t1 t2 t3 t4 t5 t6 t7 t8 : Type} {e0 : t0 → D} {e1 : t1 → D} {e2 : t2 → D} {e3 : t3 → D} {e4 : t4 → D} {e5 : t5 → D} {e6 : t6 → D} {e7 : t7 → D} {e8 : t8 → D} {r0 : D → Option t0} {r1 : D → Option t1} {r2 : D → Option t2} {r3 : D → Option t3} {r4 : D → Option t4} {r5 : D → Option t5} {r6 : D → Option t6} {r7 : D → Option t7} {r8 : D → Option t8} (h0 : Dc e0 r0) (h1 : Dc e1 r1) (h2 : Dc e2 r2) (h3 : Dc e3 r3) (h4 : Dc e4 r4) (h5 : Dc e5 r5) (h6 : Dc e6 r6) (h7 : Dc e7 r7) (h8 : Dc e8 r8) : Dc (eT9 e0 e1 e2 e3 e4 e5 e6 e7 e8) (rT9 r0 r1 r2 r3 r4 r5 r6 r7 r8) := fun d p z => by
  unfold rT9 at z
  split at z
  · rename_i d0 d1 d2 d3 d4 d5 d6 d7 d8
    simp only [Option.bind_eq_some_iff, Option.some.injEq] at z
    obtain ⟨a0, k0, a1, k1, a2, k2, a3, k3, a4, k4, a5, k5, a6, k6, a7, k7, a8, k8, rfl⟩ := z
    unfold eT9
    rw [h0 _ _ k0, h1 _ _ k1, h2 _ _ k2, h3 _ _ k3, h4 _ _ k4, h5 _ _ k5, h6 _ _ k6, h7 _ _ k7, h8 _ _ k8]
  · cases z
def rT10 {t0 t1 t2 t3 t4 t5 t6 t7 t8 t9 : Type} (r0 : D → Option t0) (r1 : D → Option t1) (r2 : D → Option t2) (r3 : D → Option t3) (r4 : D → Option t4) (r5 : D → Option t5) (r6 : D → Option t6) (r7 : D → Option t7) (r8 : D → Option t8) (r9 : D → Option t9) : D → Option (t0 × t1 × t2 × t3 × t4 × t5 × t6 × t7 × t8 × t9)
  | .tuple [d0, d1, d2, d3, d4, d5, d6, d7, d8, d9] => (r0 d0).bind fun a0 => (r1 d1).bind fun a1 => (r2 d2).bind fun a2 => (r3 d3).bind fun a3 => (r4 d4).bind fun a4 => (r5 d5).bind fun a5 => (r6 d6).bind fun a6 => (r7 d7).bind fun a7 => (r8 d8).bind fun a8 => (r9 d9).bind fun a9 => some (a0, a1, a2, a3, a4, a5, a6, a7, a8, a9)
  | _ => none
theorem rc_T10 {t0 t1 t2 t3 t4 t5 t6 t7 t8 t9 : Type} {e0 : t0 → D} {e1 : t1 → D} {e2 : t2 → D} {e3 : t3 → D} {e4 : t4 → D} {e5 : t5 → D} {e6 : t6 → D} {e7 : t7 → D} {e8 : t8 → D} {e9 : t9 → D} {r0 : D → Option t0} {r1 : D → Option t1} {r2 : D → Option t2} {r3 : D → Option t3} {r4 : D → Option t4} {r5 : D → Option t5} {r6 : D → Option t6} {r7 : D → Option t7} {r8 : D → Option t8} {r9 : D → Option t9} (h0 : Dc e0 r0) (h1 : Dc e1 r1) (h2 : Dc e2 r2) (h3 : Dc e3 r3) (h4 : Dc e4 r4) (h5 : Dc e5 r5) (h6 : Dc e6 r6) (h7 : Dc e7 r7) (h8 : Dc e8 r8) (h9 : Dc e9 r9) : Dc (eT10 e0 e1 e2 e3 e4 e5 e6 e7 e8 e9) (rT10 r0 r1 r2 r3 r4 r5 r6 r7 r8 r9) := fun d p z => by
  unfold rT10 at z
  split at z
  · rename_i d0 d1 d2 d3 d4 d5 d6 d7 d8 d9
    simp only [Option.bind_eq_some_iff, Option.some.injEq] at z
    obtain ⟨a0, k0, a1, k1, a2, k2, a3, k3, a4, k4, a5, k5, a6, k6, a7, k7, a8, k8, a9, k9, rfl⟩ := z
    unfold eT10
    rw [h0 _ _ k0, h1 _ _ k1, h2 _ _ k2, h3 _ _ k3, h4 _ _ k4, h5 _ _ k5, h6 _ _ k6, h7 _ _ k7, h8 _ _ k8, h9 _ _ k9]
  · cases z
def rT11 {t0 t1 t2 t3 t4 t5 t6 t7 t8 t9 t10 : Type} (r0 : D → Option t0) (r1 : D → Option t1) (r2 : D → Option t2) (r3 : D → Option t3) (r4 : D → Option t4) (r5 : D → Option t5) (r6 : D → Option t6) (r7 : D → Option t7) (r8 : D → Option t8) (r9 : D → Option t9) (r10 : D → Option t10) : D → Option (t0 × t1 × t2 × t3 × t4 × t5 × t6 × t7 × t8 × t9 × t10)
  | .tuple [d0, d1, d2, d3, d4, d5, d6, d7, d8, d9, d10] => (r0 d0).bind fun a0 => (r1 d1).bind fun a1 => (r2 d2).bind fun a2 => (r3 d3).bind fun a3 => (r4 d4).bind fun a4 => (r5 d5).bind fun a5 => (r6 d6).bind fun a6 => (r7 d7).bind fun a7 => (r8 d8).bind fun a8 => (r9 d9).bind fun a9 => (r10 d10).bind fun a10 => some (a0, a1, a2, a3, a4, a5, a6, a7, a8, a9, a10)
  | _ => none
theorem rc_T11 {t0 t1 t2 t3 t4 t5 t6 t7 t8 t9 t10 : Type} {e0 : t0 → D} {e1 : t1 → D} {e2 : t2 → D} {e3 : t3 → D} {e4 : t4 → D} {e5 : t5 → D} {e6 : t6 → D} {e7 : t7 → D} {e8 : t8 → D} {e9 : t9 → D} {e10 : t10 → D} {r0 : D → Option t0} {r1 : D → Option t1} {r2 : D → Option t2} {r3 : D → Option t3} {r4 : D → Option t4} {r5 : D → Option t5} {r6 : D → Option t6} {r7 : D → Option t7} {r8 : D → Option t8} {r9 : D → Option t9} {r10 : D → Option t10} (h0 : Dc e0 r0) (h1 : Dc e1 r1) (h2 : Dc e2 r2) (h3 : Dc e3 r3) (h4 : Dc e4 r4) (h5 : Dc e5 r5) (h6 : Dc e6 r6) (h7 : Dc e7 r7) (h8 : Dc e8 r8) (h9 : Dc e9 r9) (h10 : Dc e10 r10) : Dc (eT11 e0 e1 e2 e3 e4 e5 e6 e7 e8 e9 e10) (rT11 r0 r1 r2 r3 r4 r5 r6 r7 r8 r9 r10) := fun d p z => by
  unfold rT11 at z
  split at z
  · rename_i d0 d1 d2 d3 d4 d5 d6 d7 d8 d9 d10
    simp only [Option.bind_eq_some_iff, Option.some.injEq] at z
    obtain ⟨a0, k0, a1, k1, a2, k2, a3, k3, a4, k4, a5, k5, a6, k6, a7, k7, a8, k8, a9, k9, a10, k10, rfl⟩ := z
    unfold eT11
    rw [h0 _ _ k0, h1 _ _ k1, h2 _ _ k2, h3 _ _ k3, h4 _ _ k4, h5 _ _ k5, h6 _ _ k6, h7 _ _ k7, h8 _ _ k8, h9 _ _ k9, h10 _ _ k10]
  · cases z
def rT12 {t0 t1 t2 t3 t4 t5 t6 t7 t8 t9 t10 t11 : Type} (r0 : D → Option t0) (r1 : D → Option t1) (r2 : D → Option t2) (r3 : D → Option t3) (r4 : D → Option t4) (r5 : D → Option t5) (r6 : D → Option t6) (r7 : D → Option t7) (r8 : D → Option t8) (r9 : D → Option t9) (r10 : D → Option t10) (r11 : D → Option t11) : D → Option (t0 × t1 × t2 × t3 × t4 × t5 × t6 × t7 × t8 × t9 × t10 × t11)
  | .tuple [d0, d1, d2, d3, d4, d5, d6, d7, d8, d9, d10, d11] => (r0 d0).bind fun a0 => (r1 d1).bind fun a1 => (r2 d2).bind fun a2 => (r3 d3).bind fun a3 => (r4 d4).bind fun a4 => (r5 d5).bind fun a5 => (r6 d6).bind fun a6 => (r7 d7).bind fun a7 => (r8 d8).bind fun a8 => (r9 d9).bind fun a9 => (r10 d10).bind fun a10 => (r11 d11).bind fun a11 => some (a0, a1, a2, a3, a4, a5, a6, a7, a8, a9, a10, a11)
  | _ => none
theorem rc_T12 {t0 t1 t2 t3 t4 t5 t6 t7 t8 t9 t10 t11 : Type} {e0 : t0 → D} {e1 : t1 → D} {e2 : t2 → D} {e3 : t3 → D} {e4 : t4 → D} {e5 : t5 → D} {e6 : t6 → D} {e7 : t7 → D} {e8 : t8 → D} {e9 : t9 → D} {e10 : t10 → D} {e11 : t11 → D} {r0 : D → Option t0} {r1 : D → Option t1} {r2 : D → Option t2} {r3 : D → Option t3} {r4 : D → Option t4} {r5 : D → Option t5} {r6 : D → Option t6} {r7 : D → Option t7} {r8 : D → Option t8} {r9 : D → Option t9} {r10 : D → Option t10} {r11 : D → Option t11} (h0 : Dc e0 r0) (h1 : Dc e1 r1) (h2 : Dc e2 r2) (h3 : Dc e3 r3) (h4 : Dc e4 r4) (h5 : Dc e5 r5) (h6 : Dc e6 r6) (h7 : Dc e7 r7) (h8 : Dc e8 r8) (h9 : Dc e9 r9) (h10 : Dc e10 r10) (h11 : Dc e11 r11) : Dc (eT12 e0 e1 e2 e3 e4 e5 e6 e7 e8 e9 e10 e11) (rT12 r0 r1 r2 r3 r4 r5 r6 r7 r8 r9 r10 r11) := fun d p z => by
  unfold rT12 at z
  split at z
  · rename_i d0 d1 d2 d3 d4 d5 d6 d7 d8 d9 d10 d11
    simp only [Option.bind_eq_some_iff, Option.some.injEq] at z
    obtain ⟨a0, k0, a1, k1, a2, k2, a3, k3, a4, k4, a5, k5, a6, k6, a7, k7, a8, k8, a9, k9, a10, k10, a11, k11, rfl⟩ := z
    unfold eT12
    rw [h0 _ _ k0, h1 _ _ k1, h2 _ _ k2, h3 _ _ k3, h4 _ _ k4, h5 _ _ k5, h6 _ _ k6, h7 _ _ k7, h8 _ _ k8, h9 _ _ k9, h10 _ _ k10, h11 _ _ k11]
  · cases z
/-! operations -/
theorem zs_cast {α : Type} {e : α → D} {r : D → Option α} {d : D} (h : Dc e r) : Zs (r d) (castT e d) := fun G a z g => ⟨a, h d a z, g⟩
theorem zs_get {α : Type} {o : Option α} : Zs o (getT o) := fun G a z g => ⟨a, z, g⟩
theorem zs_ix {α : Type} {xs : List α} {i : Int} : Zs (atI xs i) (ixT xs i) := fun G a z g => ⟨a, z, g⟩
def ixZ (d : D) (i : Int) : Option D := match seqOf d with
  | some ds => dix ds i
  | none => none
theorem zs_ixD {d : D} {i : Int} : Zs (ixZ d i) (ixD d i) := fun G a z g => by
  unfold ixZ at z
  show match seqOf d, PyData.int i with | some ds, .int i => (match dix ds i with | some d => G d | none => False) | _, _ => False
  split at z
  · rename_i ds e
    rw [e]
    show match dix ds i with | some d => G d | none => False
    rw [z]
    exact g
  · cases z
def ixSZ (s : Str) (i : Int) : Option Str := if s.length ≤ sizeLine then (atI s.cps.toList i).map fun c => ⟨#[c]⟩ else none
theorem zs_ixS {s : Str} {i : Int} : Zs (ixSZ s i) (ixST s i) := fun G a z g => by
  unfold ixSZ at z
  by_cases h : s.length ≤ sizeLine
  · rw [if_pos h] at z
    cases h2 : atI s.cps.toList i with
    | none => rw [h2] at z; cases z
    | some c => rw [h2] at z; cases z; exact ⟨h, c, h2, g⟩
  · rw [if_neg h] at z; cases z
def eqZ (x y : D) : Option Bool := if okD x = true ∧ okD y = true then some (PyData.eqv x y) else none
theorem zs_eq {x y : D} : Zs (eqZ x y) (eqT x y) := fun G a z g => by
  unfold eqZ at z
  by_cases h : okD x = true ∧ okD y = true
  · rw [if_pos h] at z; cases z; exact ⟨h.1, h.2, g⟩
  · rw [if_neg h] at z; cases z
theorem zs_lt {x y : D} : Zs (ltD x y) (ltT x y) := fun G a z g => ⟨a, z, g⟩
def idxZ {α : Type} [DecidableEq α] (xs : List α) (a : α) : Option Int := if a ∈ xs then some ((xs.idxOf a : Nat) : Int) else none
theorem zs_idx {α : Type} [DecidableEq α] {xs : List α} {a : α} : Zs (idxZ xs a) (idxT xs a) := fun G b z g => by
  unfold idxZ at z
  by_cases h : a ∈ xs
  · rw [if_pos h] at z; cases z; exact ⟨h, g⟩
  · rw [if_neg h] at z; cases z
def kgZ {α : Type} (tab : List (Str × α)) (miss : List Str) (s : Str) (x : α) : Option α := match tab.lookup s with
  | some a => some a
  | none => if s ∈ miss then some x else none
theorem zs_kg {α : Type} {tab : List (Str × α)} {miss : List Str} {s : Str} {x : α} : Zs (kgZ tab miss s x) (kgT tab miss s x) := fun G b z g => by
  unfold kgZ at z
  unfold kgT
  cases h : tab.lookup s with
  | some a => rw [h] at z; cases z; exact g
  | none =>
    rw [h] at z
    dsimp only at z
    by_cases hm : s ∈ miss
    · rw [if_pos hm] at z; cases z; exact ⟨hm, g⟩
    · rw [if_neg hm] at z; cases z
def appZ {α : Type} (xs : List α) (a : α) : Option (List α) := if xs.length ≤ 100000 then some (xs ++ [a]) else none
theorem zs_app {α : Type} {xs : List α} {a : α} : Zs (appZ xs a) (appT xs a) := fun G b z g => by
  unfold appZ at z
  by_cases h : xs.length ≤ 100000
  · rw [if_pos h] at z; cases z; exact ⟨h, g⟩
  · rw [if_neg h] at z; cases z
def setZ {α : Type} (xs : List α) (k : Int) (a : α) : Option (List α) := (ixN xs.length k).map fun j => xs.set j a
theorem zs_set {α : Type} {xs : List α} {k : Int} {a : α} : Zs (setZ xs k a) (setT xs k a) := fun G b z g => by
  unfold setZ at z
  cases h : ixN xs.length k with
  | none => rw [h] at z; cases z
  | some j => rw [h] at z; cases z; exact ⟨j, h, g⟩
theorem zs_and {a : Bool} {o : Option Bool} {B : M Bool} (h : Zs o B) : Zs (if a = true then o else some false) (andT a B) := fun G r z g => by
  unfold andT
  by_cases c : a = true
  · rw [if_pos c] at z ⊢; exact h G r z g
  · rw [if_neg c] at z ⊢; cases z; exact g
theorem zs_or {a : Bool} {o : Option Bool} {B : M Bool} (h : Zs o B) : Zs (if a = true then some true else o) (orT a B) := fun G r z g => by
  unfold orT
  by_cases c : a = true
  · rw [if_pos c] at z ⊢; cases z; exact g
  · rw [if_neg c] at z ⊢; exact h G r z g
theorem zs_ite {α : Type} {k : Bool} {o o' : Option α} {A B : M α} (h : Zs o A) (h' : Zs o' B) : Zs (if k = true then o else o') (iteT k A B) := fun G r z g => by
  unfold iteT
  by_cases c : k = true
  · rw [if_pos c] at z ⊢; exact h G r z g
  · rw [if_neg c] at z ⊢; exact h' G r z g
def lcZ {α β : Type} (f : α → Option (Option β)) : List α → Option (List β)
  | [] => some []
  | a :: r => (f a).bind fun o => (lcZ f r).bind fun ys => some (match o with | some b => b :: ys | none => ys)
def compZ {α β : Type} (xs : List α) (f : α → Option (Option β)) : Option (List β) := if xs.length ≤ 100000 then lcZ f xs else none
theorem zs_comp {α β : Type} {xs : List α} {f : α → Option (Option β)} {B : α → M (Option β)} (h : ∀ a G, Zp G (f a) (B a G)) : Zs (compZ xs f) (compT xs B) := fun G r z g => by
  unfold compZ at z
  by_cases hl : xs.length ≤ 100000
  · rw [if_pos hl] at z
    refine ⟨hl, ?_⟩
    have : ∀ (xs : List α) (r : List β) (G : List β → Prop), lcZ f xs = some r → G r → lcT B xs G := by
      intro xs
      induction xs with
      | nil => intro r G z g; cases z; exact g
      | cons a t ih =>
        intro r G z g
        unfold lcZ at z
        cases h1 : f a with
        | none => rw [h1] at z; cases z
        | some o =>
          rw [h1] at z
          cases h2 : lcZ f t with
          | none => rw [h2] at z; cases z
          | some ys =>
            rw [h2] at z
            refine h a _ o h1 ?_
            cases o with
            | none => cases z; exact ih _ _ h2 g
            | some b => cases z; exact ih _ _ h2 g
    exact this xs r G z g
  · rw [if_neg hl] at z; cases z
theorem lcZ_map {α β : Type} {f : α → Option (Option β)} {g : α → β} : ∀ {xs : List α}, (∀ a ∈ xs, f a = some (some (g a))) → lcZ f xs = some (xs.map g)
  | [], _ => rfl
  | a :: r, h => by
    unfold lcZ
    rw [h a List.mem_cons_self, lcZ_map fun b hb => h b (List.mem_cons_of_mem _ hb)]
    rfl
theorem lcZ_filter {α β : Type} {f : α → Option (Option β)} {t : α → Bool} {g : α → β} : ∀ {xs : List α}, (∀ a ∈ xs, f a = some (if t a = true then some (g a) else none)) → lcZ f xs = some ((xs.filter t).map g)
  | [], _ => rfl
  | a :: r, h => by
    unfold lcZ
    rw [h a List.mem_cons_self, lcZ_filter fun b hb => h b (List.mem_cons_of_mem _ hb)]
    cases ha : t a <;> simp [ha]
/-! a dict of plain data, asked -/
def dgT (d k : D) : M D := fun G => match d with
  | .dict kvs => ∃ q, keyOf k = some q ∧ ∃ x, lookD kvs q = some x ∧ G x
  | _ => False
def dgZ (d k : D) : Option D := match d with
  | .dict kvs => (keyOf k).bind fun q => lookD kvs q
  | _ => none
theorem zs_dg {d k : D} : Zs (dgZ d k) (dgT d k) := fun G a z g => by
  unfold dgZ at z
  unfold dgT
  split at z
  · cases h : keyOf k with
    | none => rw [h] at z; cases z
    | some q => rw [h] at z; exact ⟨q, rfl, a, z, g⟩
  · cases z
theorem w_dg {α : Type} {e : α → D} {env : Ev} {dd dk : DEx} {F : M D} {F' : M α} (h : We eD dd env F) (h2 : We e dk env F') : We eD (dDg dd dk) env (fun G => F fun d => F' fun k => dgT d (e k) G) := fun Q G hG f => h _ _ (fun d h1 => h2 _ _ (fun k h3 => by
  cases d with
  | dict kvs =>
    obtain ⟨q, h4, x, h5, g⟩ := h3
    exact ⟨q, h4, x, h5, hG _ g⟩
  | _ => exact h3.elim) h1) f
/-! zip of two or three, each a list or a tuple -/
def SqX (k : Bool) (K : PySem.W.Frag) (H : Hp) (a : Addr) (xs : List V) : Prop := if k = true then SqT K H a xs else SqL K H a xs
def ItX (k : Bool) (h : Heap) (i a : Addr) (n : Nat) : Prop := if k = true then h.IsTupleIter i a n else h.IsListIter i a n
def HpX (k : Bool) (h : Heap) (a : Addr) (its : Array Value) : Prop := if k = true then h.IsTuple a its else h.IsList a its
def oX (k : Bool) (l : Addr) : Obj := if k = true then { cls := .type "tuple_iterator", data := .fields #[.ref l, .int 0 0] } else { cls := .type "list_iterator", data := .fields #[.ref l, .int 0 0] }
theorem drX (k : Bool) {prog : Program} {w : World} {A : Around} (hh : A.handled = none) (it l : Addr) (hne : l ≠ it) (items : Array Value) : Draws prog w A it [it, l] items.size (fun i v => items[i]? = some v) (fun i h => ItX k h it l i ∧ HpX k h l items) := by
  cases k
  · exact Draws.list hh it l hne items
  · exact Draws.tuple hh it l hne items
theorem begX (k : Bool) (l : Addr) (items : Array Value) : Begins (.ref l) (oX k l) (fun h => HpX k h l items) := by
  cases k
  · exact begins_list l items
  · exact begins_tuple l items
theorem ItX.of {k : Bool} {h : Heap} {i l : Addr} (e : h.get? i = some (oX k l)) : ItX k h i l 0 := by
  cases k
  · exact ⟨_, e, rfl, rfl⟩
  · exact ⟨_, e, rfl, rfl⟩
theorem ItX.at {k : Bool} {h h' : Heap} {i l : Addr} {n : Nat} (x : ItX k h i l n) (e : ∀ o, h.get? i = some o → h'.get? i = some o) : ItX k h' i l n := by
  cases k
  · exact Heap.IsListIter.at x e
  · exact Heap.IsTupleIter.at x e
theorem ItX.obj {k : Bool} {h : Heap} {i l : Addr} {n : Nat} (x : ItX k h i l n) : ∃ o, h.get? i = some o ∧ ∀ v, o.data ≠ .cell v := by
  cases k
  · obtain ⟨o, e, _, d⟩ := x
    exact ⟨o, e, fun v q => by rw [d] at q; cases q⟩
  · obtain ⟨o, e, _, d⟩ := x
    exact ⟨o, e, fun v q => by rw [d] at q; cases q⟩
theorem SqX.vals {k : Bool} {X : Cx} {pins : List (Addr × Obj)} {σ : L2.St} {H : Hp} {s : Shared} {a : Addr} {xs : List V} (I : Inv X pins σ H s) (h : SqX k X.K H a xs) : ∃ its : List Value, Vals xs its ∧ HpX k s.heap a its.toArray := by
  cases k
  · obtain ⟨its, r, p, _⟩ := I.list h
    exact ⟨its, r, p.isList⟩
  · obtain ⟨its, r, p, _⟩ := I.tuple h
    exact ⟨its, r, p⟩
theorem SqX.inj {k : Bool} {X : Cx} {pins : List (Addr × Obj)} {σ : L2.St} {H : Hp} {s : Shared} {a : Addr} {xs ys : List V} (I : Inv X pins σ H s) (h : SqX k X.K H a xs) (h' : SqX k X.K H a ys) : xs = ys := by
  cases k
  · exact I.list_inj h h'
  · exact I.tuple_inj h h'
theorem HpX.lt {k : Bool} {h : Heap} {a : Addr} {its : Array Value} (x : HpX k h a its) : a < h.objs.size := by
  cases k
  · obtain ⟨o, e, _⟩ := x
    exact Heap.lt_size e
  · obtain ⟨o, e, _⟩ := x
    exact Heap.lt_size e
def Itz2X (K : PySem.W.Frag) (ka : Bool) (a : Addr) (kb : Bool) (b : Addr) : It :=
  ⟨fun i H => ∃ xs ys : List V, SqX ka K H a xs ∧ SqX kb K H b ys ∧ i < xs.length ∧ i < ys.length,
    fun i H v H' => ∃ T x y, v = .ref T ∧ H T = none ∧ H' = upd H T (.tup [x, y]) ∧ (∀ xs, SqX ka K H a xs → xs[i]? = some x) ∧ ∀ ys, SqX kb K H b ys → ys[i]? = some y,
    fun i H => ∃ xs ys : List V, SqX ka K H a xs ∧ SqX kb K H b ys ∧ i = min xs.length ys.length⟩
def Itz3X (K : PySem.W.Frag) (ka : Bool) (a : Addr) (kb : Bool) (b : Addr) (kc : Bool) (c : Addr) : It :=
  ⟨fun i H => ∃ xs ys zs : List V, SqX ka K H a xs ∧ SqX kb K H b ys ∧ SqX kc K H c zs ∧ i < xs.length ∧ i < ys.length ∧ i < zs.length,
    fun i H v H' => ∃ T x y z, v = .ref T ∧ H T = none ∧ H' = upd H T (.tup [x, y, z]) ∧ (∀ xs, SqX ka K H a xs → xs[i]? = some x) ∧ (∀ ys, SqX kb K H b ys → ys[i]? = some y) ∧ ∀ zs, SqX kc K H c zs → zs[i]? = some z,
    fun i H => ∃ xs ys zs : List V, SqX ka K H a xs ∧ SqX kb K H b ys ∧ SqX kc K H c zs ∧ i = min (min xs.length ys.length) zs.length⟩
theorem vget {xs : List V} {its : List Value} {i : Nat} {u : Value} (r : Vals xs its) (h : i < xs.length) (e : its.toArray[i]? = some u) : ∃ x, xs[i]? = some x ∧ RelV x u := by
  obtain ⟨u', e', r'⟩ := r.get (List.getElem?_eq_getElem h)
  have : u' = u := Option.some.inj (e'.symm.trans (by simpa using e))
  subst this
  exact ⟨_, List.getElem?_eq_getElem h, r'⟩
theorem turn_z2 {P : Program} {w : World} {K : PySem.W.Frag} {elts : List Expr} {kk : Nat} {tpos : Pos} {ka kb : Bool} {a b N : Addr} (ha : a < N) (hb : b < N) :
    Turn P w K (.Tuple elts kk tpos) (Itz2X K ka a kb b) [N + 4, N + 2, N + 3, N, N + 1] (N + 4) (fun i h => IsZip h (N + 4) (N + 2) (N + 3) .none ∧ IsTupOf2 h (N + 2) (.ref N) (.ref (N + 1)) ∧ (∃ x y, IsTupOf2 h (N + 3) x y) ∧ ItX ka h N a i ∧ ItX kb h (N + 1) b i) where
  mem := by simp
  obj := fun i h st c hc => by
    obtain ⟨hz, hTI, ⟨x, y, hTO⟩, h1, h2⟩ := st
    simp only [List.mem_cons, List.not_mem_nil, or_false] at hc
    rcases hc with q | q | q | q | q
    · rw [q]; exact ⟨_, hz, fun v q => nomatch q⟩
    · rw [q]; exact ⟨_, hTI, fun v q => nomatch q⟩
    · rw [q]; exact ⟨_, hTO, fun v q => nomatch q⟩
    · rw [q]; exact h1.obj
    · rw [q]; exact h2.obj
  keep := fun i h h' st k => by
    obtain ⟨hz, hTI, ⟨x, y, hTO⟩, h1, h2⟩ := st
    exact ⟨k _ (by simp) _ hz, k _ (by simp) _ hTI, ⟨x, y, k _ (by simp) _ hTO⟩, h1.at fun o q => k _ (by simp) o q, h2.at fun o q => k _ (by simp) o q⟩
  item := by
    intro X hP hw hK hc i pins s σ H E I hf st hg
    subst hP hw hK
    obtain ⟨hz, hTI, hTO, h1, h2⟩ := st
    obtain ⟨xs, ys, qx, qy, lx, ly⟩ := hg
    obtain ⟨its, rv, p1⟩ := qx.vals I
    obtain ⟨its2, rv2, p2⟩ := qy.vals I
    have l1 := rv.length
    have l2 := rv2.length
    have G := GoesN.zip2 (elts := elts) (x1 := kk) (pos := tpos) (zip_sep2 (N := N) (fp1 := [a]) (fp2 := [b]) (fun c hc => by rw [List.mem_singleton.mp hc]; exact ha) (fun c hc => by rw [List.mem_singleton.mp hc]; exact hb))
      (drX (prog := X.prog) (w := X.w) (A := X.A.in1) ka (I.ok.hd hc) N a (Nat.ne_of_lt ha) its.toArray) (drX (prog := X.prog) (w := X.w) (A := X.A.in1) kb (I.ok.hd hc) (N + 1) b (Nat.ne_of_lt (Nat.lt_succ_of_lt hb)) its2.toArray)
    have hi : i < min its.toArray.size its2.toArray.size := by simp only [List.size_toArray]; omega
    refine G.goes i s (fun u s2 => ∃ x H', Inv X pins σ H' s2 ∧ RelV x u ∧ (Itz2X X.K ka a kb b).yld i H x H' ∧ _ ∧ ∀ b ∈ _, H' b = none) E hi ⟨hz, hTI, hTO, ⟨h1, p1⟩, ⟨h2, p2⟩⟩ fun v h' tk ⟨T, x, y, ev, hT, hx, hy, tup⟩ st' hk htk => ?_
    subst ev
    obtain ⟨hz', hTI', hTO', ⟨h1', _⟩, ⟨h2', _⟩⟩ := st'
    obtain ⟨x0, ex, rx⟩ := vget rv lx hx
    obtain ⟨y0, ey, ry⟩ := vget rv2 ly hy
    have new : ObjOk X.prog X.w (upd H T (.tup [x0, y0])) h' T (.tup [x0, y0]) := ⟨by show 2 ≤ sizeLine; decide, [x, y], .cons rx (.cons ry .nil), tup⟩
    have I1 : Inv X pins σ (upd H T (.tup [x0, y0])) { s with heap := h', toks := tk } :=
      I.turnedNew (ch := [N + 4, N + 2, N + 3, N, N + 1]) (fun c o hb q => hk c o (fun z => hb (by simp only [List.mem_cons, List.not_mem_nil, or_false] at z ⊢; rcases z with z | z | z | z <;> simp [z])) q) hf hT new
    refine ⟨.ref T, _, I1, rfl, ⟨T, x0, y0, rfl, I.hok.fresh hT, rfl, fun l hl => by rw [hl.inj I qx]; exact ex, fun l hl => by rw [hl.inj I qy]; exact ey⟩, ⟨hz', hTI', hTO', h1', h2'⟩, fun c hcm => ?_⟩
    have hlt : c < s.heap.objs.size := by
      obtain ⟨o, e, _⟩ : ∃ o, s.heap.get? c = some o ∧ True := by
        simp only [List.mem_cons, List.not_mem_nil, or_false] at hcm
        obtain ⟨_, _, hTO⟩ := hTO
        rcases hcm with q | q | q | q | q
        · rw [q]; exact ⟨_, hz, trivial⟩
        · rw [q]; exact ⟨_, hTI, trivial⟩
        · rw [q]; exact ⟨_, hTO, trivial⟩
        · rw [q]; obtain ⟨o, e, _⟩ := h1.obj; exact ⟨o, e, trivial⟩
        · rw [q]; obtain ⟨o, e, _⟩ := h2.obj; exact ⟨o, e, trivial⟩
      exact Heap.lt_size e
    rw [upd_ne (Nat.ne_of_lt (Nat.lt_of_lt_of_le hlt hT))]
    exact (hf c hcm).1
  done := by
    intro X hP hw hK hc i pins s σ H E I hf st hg
    subst hP hw hK
    obtain ⟨hz, hTI, hTO, h1, h2⟩ := st
    obtain ⟨xs, ys, qx, qy, hend⟩ := hg
    obtain ⟨its, rv, p1⟩ := qx.vals I
    obtain ⟨its2, rv2, p2⟩ := qy.vals I
    have l1 := rv.length
    have l2 := rv2.length
    have G := GoesN.zip2 (elts := elts) (x1 := kk) (pos := tpos) (zip_sep2 (N := N) (fp1 := [a]) (fp2 := [b]) (fun c hc => by rw [List.mem_singleton.mp hc]; exact ha) (fun c hc => by rw [List.mem_singleton.mp hc]; exact hb))
      (drX (prog := X.prog) (w := X.w) (A := X.A.in1) ka (I.ok.hd hc) N a (Nat.ne_of_lt ha) its.toArray) (drX (prog := X.prog) (w := X.w) (A := X.A.in1) kb (I.ok.hd hc) (N + 1) b (Nat.ne_of_lt (Nat.lt_succ_of_lt hb)) its2.toArray)
    have hi : i = min its.toArray.size its2.toArray.size := by simp only [List.size_toArray]; omega
    refine G.stops s (fun s1 => Inv X pins σ H s1) E (hi ▸ ⟨hz, hTI, hTO, ⟨h1, p1⟩, ⟨h2, p2⟩⟩) fun h' tk hk htk => ?_
    exact I.turnedL (ch := [N + 4, N + 2, N + 3, N, N + 1]) (fun c o hb q => hk c o (fun z => hb (by simp only [List.mem_cons, List.not_mem_nil, or_false] at z ⊢; rcases z with z | z | z | z <;> simp [z])) q) hf
  self := fun A i s Q E st h => wpAny_pyIter_zip st.1 h
theorem turn_z3 {P : Program} {w : World} {K : PySem.W.Frag} {elts : List Expr} {kk : Nat} {tpos : Pos} {ka kb kc : Bool} {a b c N : Addr} (ha : a < N) (hb : b < N) (hc3 : c < N) :
    Turn P w K (.Tuple elts kk tpos) (Itz3X K ka a kb b kc c) [N + 5, N + 3, N + 4, N, N + 1, N + 2] (N + 5) (fun i h => IsZip h (N + 5) (N + 3) (N + 4) .none ∧ IsTupOf3 h (N + 3) (.ref N) (.ref (N + 1)) (.ref (N + 2)) ∧ (∃ x y z, IsTupOf3 h (N + 4) x y z) ∧ ItX ka h N a i ∧ ItX kb h (N + 1) b i ∧ ItX kc h (N + 2) c i) where
  mem := by simp
  obj := fun i h st c hc => by
    obtain ⟨hz, hTI, ⟨x, y, z, hTO⟩, h1, h2, h3⟩ := st
    simp only [List.mem_cons, List.not_mem_nil, or_false] at hc
    rcases hc with q | q | q | q | q | q
    · rw [q]; exact ⟨_, hz, fun v q => nomatch q⟩
    · rw [q]; exact ⟨_, hTI, fun v q => nomatch q⟩
    · rw [q]; exact ⟨_, hTO, fun v q => nomatch q⟩
    · rw [q]; exact h1.obj
    · rw [q]; exact h2.obj
    · rw [q]; exact h3.obj
  keep := fun i h h' st k => by
    obtain ⟨hz, hTI, ⟨x, y, z, hTO⟩, h1, h2, h3⟩ := st
    exact ⟨k _ (by simp) _ hz, k _ (by simp) _ hTI, ⟨x, y, z, k _ (by simp) _ hTO⟩, h1.at fun o q => k _ (by simp) o q, h2.at fun o q => k _ (by simp) o q, h3.at fun o q => k _ (by simp) o q⟩
  item := by
    intro X hP hw hK hc i pins s σ H E I hf st hg
    subst hP hw hK
    obtain ⟨hz, hTI, hTO, h1, h2, h3⟩ := st
    obtain ⟨xs, ys, zs, qx, qy, qz, lx, ly, lz⟩ := hg
    obtain ⟨its, rv, p1⟩ := qx.vals I
    obtain ⟨its2, rv2, p2⟩ := qy.vals I
    obtain ⟨its3, rv3, p3⟩ := qz.vals I
    have l1 := rv.length
    have l2 := rv2.length
    have l3 := rv3.length
    have G := GoesN.zip3 (elts := elts) (x1 := kk) (pos := tpos) (zip_sep3 (N := N) (fp1 := [a]) (fp2 := [b]) (fp3 := [c]) (fun d hd => by rw [List.mem_singleton.mp hd]; exact ha) (fun d hd => by rw [List.mem_singleton.mp hd]; exact hb) (fun d hd => by rw [List.mem_singleton.mp hd]; exact hc3))
      (drX (prog := X.prog) (w := X.w) (A := X.A.in1) ka (I.ok.hd hc) N a (Nat.ne_of_lt ha) its.toArray) (drX (prog := X.prog) (w := X.w) (A := X.A.in1) kb (I.ok.hd hc) (N + 1) b (Nat.ne_of_lt (Nat.lt_succ_of_lt hb)) its2.toArray) (drX (prog := X.prog) (w := X.w) (A := X.A.in1) kc (I.ok.hd hc) (N + 2) c (Nat.ne_of_lt (Nat.lt_succ_of_lt (Nat.lt_succ_of_lt hc3))) its3.toArray)
    have hi : i < min (min its.toArray.size its2.toArray.size) its3.toArray.size := by simp only [List.size_toArray]; omega
    refine G.goes i s (fun u s2 => ∃ x H', Inv X pins σ H' s2 ∧ RelV x u ∧ (Itz3X X.K ka a kb b kc c).yld i H x H' ∧ _ ∧ ∀ b ∈ _, H' b = none) E hi ⟨hz, hTI, hTO, ⟨h1, p1⟩, ⟨h2, p2⟩, ⟨h3, p3⟩⟩ fun v h' tk ⟨T, x, y, z, ev, hT, hx, hy, hz3, tup⟩ st' hk htk => ?_
    subst ev
    obtain ⟨hz', hTI', hTO', ⟨h1', _⟩, ⟨h2', _⟩, ⟨h3', _⟩⟩ := st'
    obtain ⟨x0, ex, rx⟩ := vget rv lx hx
    obtain ⟨y0, ey, ry⟩ := vget rv2 ly hy
    obtain ⟨z0, ez, rz⟩ := vget rv3 lz hz3
    have new : ObjOk X.prog X.w (upd H T (.tup [x0, y0, z0])) h' T (.tup [x0, y0, z0]) := ⟨by show 3 ≤ sizeLine; decide, [x, y, z], .cons rx (.cons ry (.cons rz .nil)), tup⟩
    have I1 : Inv X pins σ (upd H T (.tup [x0, y0, z0])) { s with heap := h', toks := tk } :=
      I.turnedNew (ch := [N + 5, N + 3, N + 4, N, N + 1, N + 2]) (fun d o hb q => hk d o (fun z => hb (by simp only [List.mem_cons, List.not_mem_nil, or_false] at z ⊢; rcases z with z | z | z | z | z <;> simp [z])) q) hf hT new
    refine ⟨.ref T, _, I1, rfl, ⟨T, x0, y0, z0, rfl, I.hok.fresh hT, rfl, fun l hl => by rw [hl.inj I qx]; exact ex, fun l hl => by rw [hl.inj I qy]; exact ey, fun l hl => by rw [hl.inj I qz]; exact ez⟩, ⟨hz', hTI', hTO', h1', h2', h3'⟩, fun d hcm => ?_⟩
    have hlt : d < s.heap.objs.size := by
      obtain ⟨o, e, _⟩ : ∃ o, s.heap.get? d = some o ∧ True := by
        simp only [List.mem_cons, List.not_mem_nil, or_false] at hcm
        obtain ⟨_, _, _, hTO⟩ := hTO
        rcases hcm with q | q | q | q | q | q
        · rw [q]; exact ⟨_, hz, trivial⟩
        · rw [q]; exact ⟨_, hTI, trivial⟩
        · rw [q]; exact ⟨_, hTO, trivial⟩
        · rw [q]; obtain ⟨o, e, _⟩ := h1.obj; exact ⟨o, e, trivial⟩
        · rw [q]; obtain ⟨o, e, _⟩ := h2.obj; exact ⟨o, e, trivial⟩
        · rw [q]; obtain ⟨o, e, _⟩ := h3.obj; exact ⟨o, e, trivial⟩
      exact Heap.lt_size e
    rw [upd_ne (Nat.ne_of_lt (Nat.lt_of_lt_of_le hlt hT))]
    exact (hf d hcm).1
  done := by
    intro X hP hw hK hc i pins s σ H E I hf st hg
    subst hP hw hK
    obtain ⟨hz, hTI, hTO, h1, h2, h3⟩ := st
    obtain ⟨xs, ys, zs, qx, qy, qz, hend⟩ := hg
    obtain ⟨its, rv, p1⟩ := qx.vals I
    obtain ⟨its2, rv2, p2⟩ := qy.vals I
    obtain ⟨its3, rv3, p3⟩ := qz.vals I
    have l1 := rv.length
    have l2 := rv2.length
    have l3 := rv3.length
    have G := GoesN.zip3 (elts := elts) (x1 := kk) (pos := tpos) (zip_sep3 (N := N) (fp1 := [a]) (fp2 := [b]) (fp3 := [c]) (fun d hd => by rw [List.mem_singleton.mp hd]; exact ha) (fun d hd => by rw [List.mem_singleton.mp hd]; exact hb) (fun d hd => by rw [List.mem_singleton.mp hd]; exact hc3))
      (drX (prog := X.prog) (w := X.w) (A := X.A.in1) ka (I.ok.hd hc) N a (Nat.ne_of_lt ha) its.toArray) (drX (prog := X.prog) (w := X.w) (A := X.A.in1) kb (I.ok.hd hc) (N + 1) b (Nat.ne_of_lt (Nat.lt_succ_of_lt hb)) its2.toArray) (drX (prog := X.prog) (w := X.w) (A := X.A.in1) kc (I.ok.hd hc) (N + 2) c (Nat.ne_of_lt (Nat.lt_succ_of_lt (Nat.lt_succ_of_lt hc3))) its3.toArray)
    have hi : i = min (min its.toArray.size its2.toArray.size) its3.toArray.size := by simp only [List.size_toArray]; omega
    refine G.stops s (fun s1 => Inv X pins σ H s1) E (hi ▸ ⟨hz, hTI, hTO, ⟨h1, p1⟩, ⟨h2, p2⟩, ⟨h3, p3⟩⟩) fun h' tk hk htk => ?_
    exact I.turnedL (ch := [N + 5, N + 3, N + 4, N, N + 1, N + 2]) (fun d o hb q => hk d o (fun z => hb (by simp only [List.mem_cons, List.not_mem_nil, or_false] at z ⊢; rcases z with z | z | z | z | z <;> simp [z])) q) hf
  self := fun A i s Q E st h => wpAny_pyIter_zip st.1 h
def iZip2X (K : PySem.W.Frag) (ta : TA) : TI := fun σ H R => ta σ H fun vs H1 => ∃ ka a kb b xs ys, vs = [.ref a, .ref b] ∧ SqX ka K H1 a xs ∧ SqX kb K H1 b ys ∧ R (Itz2X K ka a kb b) H1
def iZip3X (K : PySem.W.Frag) (ta : TA) : TI := fun σ H R => ta σ H fun vs H1 => ∃ ka a kb b kc c xs ys zs, vs = [.ref a, .ref b, .ref c] ∧ SqX ka K H1 a xs ∧ SqX kb K H1 b ys ∧ SqX kc K H1 c zs ∧ R (Itz3X K ka a kb b kc c) H1
theorem pi_zip2X {X : Cx} {e e2 : Expr} {ta : TA} {p pos tpos : Pos} {elts : List Expr} {kk : Nat} (hg : Gl X "zip") (hm : X.mg "zip" = none) (ha : PA X [e, e2] ta)
    (hs : starEach [e, e2] X.env = (false, eval e X.env) :: starEach [e2] X.env := by rfl) (hpl : (backTo pos (starEach [e2] X.env)).any (·.1) = false := by rfl) :
    PI X (.Tuple elts kk tpos) (.Call (.Name "zip" p) [e, e2] [] pos) (iZip2X X.K ta) := by
  refine ⟨fun pins s σ H R I h => ?_⟩
  refine Call_ (ld_blt I hg hm PyProof.Rows.boot_zip (PyProof.Rows.callWith_type1 (thn (ha.run pos pins s σ H _ I h) fun us s1 ⟨vs, H1, I1, r1, q1⟩ => ?_) hs hpl))
  obtain ⟨ka, a, kb, b, xs, ys, ex, qx, qy, q⟩ := q1
  subst ex
  cases r1 with
  | cons r rr =>
    cases rr with
    | cons r' rr =>
      cases rr
      cases r
      cases r'
      obtain ⟨its, rv, p1⟩ := qx.vals I1
      obtain ⟨its2, rv2, p2⟩ := qy.vals I1
      have la := p1.lt
      have lb := p2.lt
      refine zip_begins2 (begX ka a its.toArray) (begX kb b its2.toArray) p1 p2 fun h' hz hTI hTO e1 e2 hsz hk => wpAny_pyIter_zip hz ?_
      have I2 : Inv X pins σ H1 { s1 with heap := h' } := I1.kept (t' := s1.toks) hk
      refine ⟨s1.heap.objs.size + 4, [s1.heap.objs.size + 4, s1.heap.objs.size + 2, s1.heap.objs.size + 3, s1.heap.objs.size, s1.heap.objs.size + 1], _, _, H1, rfl, I2, turn_z2 (ka := ka) (kb := kb) (N := s1.heap.objs.size) la lb, ⟨hz, hTI, ⟨_, _, hTO⟩, .of e1, .of e2⟩, fun c hcm => ?_, q⟩
      have hle : s1.heap.objs.size ≤ c := by
        simp only [List.mem_cons, List.not_mem_nil, or_false] at hcm
        rcases hcm with z | z | z | z | z
        · rw [z]; exact Nat.le_add_right _ _
        · rw [z]; exact Nat.le_add_right _ _
        · rw [z]; exact Nat.le_add_right _ _
        · rw [z]; exact Nat.le_refl _
        · rw [z]; exact Nat.le_add_right _ _
      exact I1.fpOk hle (I1.hok.fresh hle)
theorem pi_zip3X {X : Cx} {e e2 e3 : Expr} {ta : TA} {p pos tpos : Pos} {elts : List Expr} {kk : Nat} (hg : Gl X "zip") (hm : X.mg "zip" = none) (ha : PA X [e, e2, e3] ta)
    (hs : starEach [e, e2, e3] X.env = (false, eval e X.env) :: starEach [e2, e3] X.env := by rfl) (hpl : (backTo pos (starEach [e2, e3] X.env)).any (·.1) = false := by rfl) :
    PI X (.Tuple elts kk tpos) (.Call (.Name "zip" p) [e, e2, e3] [] pos) (iZip3X X.K ta) := by
  refine ⟨fun pins s σ H R I h => ?_⟩
  refine Call_ (ld_blt I hg hm PyProof.Rows.boot_zip (PyProof.Rows.callWith_type1 (thn (ha.run pos pins s σ H _ I h) fun us s1 ⟨vs, H1, I1, r1, q1⟩ => ?_) hs hpl))
  obtain ⟨ka, a, kb, b, kc, c, xs, ys, zs, ex, qx, qy, qz, q⟩ := q1
  subst ex
  cases r1 with
  | cons r rr =>
    cases rr with
    | cons r' rr =>
      cases rr with
      | cons r'' rr =>
        cases rr
        cases r
        cases r'
        cases r''
        obtain ⟨its, rv, p1⟩ := qx.vals I1
        obtain ⟨its2, rv2, p2⟩ := qy.vals I1
        obtain ⟨its3, rv3, p3⟩ := qz.vals I1
        have la := p1.lt
        have lb := p2.lt
        have lc := p3.lt
        refine zip_begins3 (begX ka a its.toArray) (begX kb b its2.toArray) (begX kc c its3.toArray) p1 p2 p3 fun h' hz hTI hTO e1 e2 e3 hsz hk => wpAny_pyIter_zip hz ?_
        have I2 : Inv X pins σ H1 { s1 with heap := h' } := I1.kept (t' := s1.toks) hk
        refine ⟨s1.heap.objs.size + 5, [s1.heap.objs.size + 5, s1.heap.objs.size + 3, s1.heap.objs.size + 4, s1.heap.objs.size, s1.heap.objs.size + 1, s1.heap.objs.size + 2], _, _, H1, rfl, I2, turn_z3 (ka := ka) (kb := kb) (kc := kc) (N := s1.heap.objs.size) la lb lc, ⟨hz, hTI, ⟨_, _, _, hTO⟩, .of e1, .of e2, .of e3⟩, fun d hcm => ?_, q⟩
        have hle : s1.heap.objs.size ≤ d := by
          simp only [List.mem_cons, List.not_mem_nil, or_false] at hcm
          rcases hcm with z | z | z | z | z | z
          · rw [z]; exact Nat.le_add_right _ _
          · rw [z]; exact Nat.le_add_right _ _
          · rw [z]; exact Nat.le_add_right _ _
          · rw [z]; exact Nat.le_refl _
          · rw [z]; exact Nat.le_add_right _ _
          · rw [z]; exact Nat.le_add_right _ _
        exact I1.fpOk hle (I1.hok.fresh hle)
section
variable {K : PySem.W.Frag}
def seqX : D → Option (Bool × List D)
  | .list xs => some (false, xs)
  | .tuple xs => some (true, xs)
  | _ => none
def zip3D : List D → List D → List D → List D
  | a :: r, b :: s, c :: t => .tuple [a, b, c] :: zip3D r s t
  | _, _, _ => []
theorem zip3D_get : ∀ {as bs cs : List D} {i : Nat} {d : D}, (zip3D as bs cs)[i]? = some d → ∃ a b c, as[i]? = some a ∧ bs[i]? = some b ∧ cs[i]? = some c ∧ d = .tuple [a, b, c]
  | a :: r, b :: s, c :: t, 0, d, e => by
    unfold zip3D at e
    rw [List.getElem?_cons_zero] at e
    cases e
    exact ⟨a, b, c, rfl, rfl, rfl, rfl⟩
  | a :: r, b :: s, c :: t, i + 1, d, e => by
    unfold zip3D at e
    rw [List.getElem?_cons_succ] at e
    rw [List.getElem?_cons_succ, List.getElem?_cons_succ, List.getElem?_cons_succ]
    exact zip3D_get e
  | [], _, _, i, d, e => by simp [zip3D] at e
  | _ :: _, [], _, i, d, e => by simp [zip3D] at e
  | _ :: _, _ :: _, [], i, d, e => by simp [zip3D] at e
theorem zip3D_len : ∀ {as bs cs : List D}, (zip3D as bs cs).length = min (min as.length bs.length) cs.length
  | a :: r, b :: s, c :: t => by
    unfold zip3D
    rw [List.length_cons, List.length_cons, List.length_cons, List.length_cons, zip3D_len]
    omega
  | [], _, _ => by simp [zip3D]
  | _ :: _, [], _ => by simp [zip3D]
  | _ :: _, _ :: _, [] => by simp [zip3D]
/-- a list or a tuple that lies outside -/
theorem SqX.rep {H : Hp} {M : Addr → Prop} {d : D} {v : V} {k : Bool} {ds : List D} (r : Rep K H M d v) (e : seqX d = some (k, ds)) : ∃ a vs, v = .ref a ∧ RepL K H M ds vs ∧ ∀ {H' : Hp} {M' : Addr → Prop}, To H H' M M' → SqX k K H' a vs := by
  unfold seqX at e
  split at e
  · cases e
    cases r with | lst h n r =>
    exact ⟨_, _, rfl, r, fun t => SqL.of (t.h _ _ h n).1⟩
  · cases e
    cases r with | tup h r =>
    exact ⟨_, _, rfl, r, fun t => (h.to t).sq⟩
  · cases e
theorem itz2X_ok {ka kb : Bool} {a b : Addr} {xs ys : List V} {ds es : List D} {M : Addr → Prop} {H : Hp} (r : RepL K H M ds xs) (h : ∀ {H' : Hp} {M' : Addr → Prop}, To H H' M M' → SqX ka K H' a xs) (r2 : RepL K H M es ys) (h2 : ∀ {H' : Hp} {M' : Addr → Prop}, To H H' M M' → SqX kb K H' b ys) : ItOk K (Itz2X K ka a kb b) (zipD ds es) M H := fun M' H' t al i => by
  have g1 := h t
  have g2 := h2 t
  refine ⟨fun l => ⟨xs, ys, g1, g2, by rw [zipD_len, r.len, r2.len] at l; exact l⟩, fun d e => ?_⟩
  obtain ⟨x, y, e1, e2, rfl⟩ := zipD_get e
  obtain ⟨v, ev, rv⟩ := r.get e1
  obtain ⟨u, eu, ru⟩ := r2.get e2
  refine ⟨⟨xs, ys, g1, g2, (List.getElem?_eq_some_iff.mp ev).1, (List.getElem?_eq_some_iff.mp eu).1⟩, fun x' H2 ⟨T, x1, y1, z1, z2, z3, z4, z5⟩ => ?_⟩
  subst z1 z3
  have w1 := z4 xs g1
  have w2 := z5 ys g2
  rw [ev] at w1; rw [eu] at w2
  cases w1; cases w2
  exact ⟨same_upd z2, pair_rep z2 al (Rep.to t rv) (Rep.to t ru)⟩
theorem itz3X_ok {ka kb kc : Bool} {a b c : Addr} {xs ys zs : List V} {ds es fs : List D} {M : Addr → Prop} {H : Hp} (r : RepL K H M ds xs) (h : ∀ {H' : Hp} {M' : Addr → Prop}, To H H' M M' → SqX ka K H' a xs) (r2 : RepL K H M es ys) (h2 : ∀ {H' : Hp} {M' : Addr → Prop}, To H H' M M' → SqX kb K H' b ys)
    (r3 : RepL K H M fs zs) (h3 : ∀ {H' : Hp} {M' : Addr → Prop}, To H H' M M' → SqX kc K H' c zs) : ItOk K (Itz3X K ka a kb b kc c) (zip3D ds es fs) M H := fun M' H' t al i => by
  have g1 := h t
  have g2 := h2 t
  have g3 := h3 t
  refine ⟨fun l => ⟨xs, ys, zs, g1, g2, g3, by rw [zip3D_len, r.len, r2.len, r3.len] at l; exact l⟩, fun d e => ?_⟩
  obtain ⟨x, y, z, e1, e2, e3, rfl⟩ := zip3D_get e
  obtain ⟨v, ev, rv⟩ := r.get e1
  obtain ⟨u, eu, ru⟩ := r2.get e2
  obtain ⟨o, eo, ro⟩ := r3.get e3
  refine ⟨⟨xs, ys, zs, g1, g2, g3, (List.getElem?_eq_some_iff.mp ev).1, (List.getElem?_eq_some_iff.mp eu).1, (List.getElem?_eq_some_iff.mp eo).1⟩, fun x' H2 ⟨T, x1, y1, o1, z1, z2, z3, z4, z5, z6⟩ => ?_⟩
  subst z1 z3
  have w1 := z4 xs g1
  have w2 := z5 ys g2
  have w3 := z6 zs g3
  rw [ev] at w1; rw [eu] at w2; rw [eo] at w3
  cases w1; cases w2; cases w3
  have tt : ∀ {d : D} {v : V}, Rep K H M d v → Rep K (upd H' T (.tup [v, u, o])) M' d v := fun rr => Rep.to (to_same (same_upd z2)) (Rep.to t rr)
  exact ⟨same_upd z2, .tup (.inl ⟨.inl upd_same, fun z => al T z z2⟩) (.cons (Rep.to (to_same (same_upd z2)) (Rep.to t rv)) (.cons (Rep.to (to_same (same_upd z2)) (Rep.to t ru)) (.cons (Rep.to (to_same (same_upd z2)) (Rep.to t ro)) .nil)))⟩
def dZip2X (da : Ev → (List D → Prop) → Prop) : Ev → (List D → Prop) → Prop := fun env Q => da env fun xs => match xs with | [x, y] => ∃ ka a kb b, seqX x = some (ka, a) ∧ seqX y = some (kb, b) ∧ Q (zipD a b) | _ => False
theorem ri_zip2X {n : Nat} {t : TA} {da : Ev → (List D → Prop) → Prop} (h : RfN K n t da) : RfI K (iZip2X K t) (dZip2X da) := ⟨fun R q k => h.run R q fun ds vs H1 q1 _ s1 r1 => by
  split at q1
  · cases r1 with | cons h1 r1 => cases r1 with | cons h2 r2 =>
    cases r2
    obtain ⟨ka, a, kb, b, e1, e2, q2⟩ := q1
    obtain ⟨_, _, rfl, r1, t1⟩ := SqX.rep h1 e1
    obtain ⟨_, _, rfl, r2, t2⟩ := SqX.rep h2 e2
    exact ⟨_, _, _, _, _, _, rfl, t1 (To.refl _ _), t2 (To.refl _ _), k _ _ _ q2 s1 (itz2X_ok r1 t1 r2 t2)⟩
  · exact q1.elim⟩
def dZip3X (da : Ev → (List D → Prop) → Prop) : Ev → (List D → Prop) → Prop := fun env Q => da env fun xs => match xs with | [x, y, z] => ∃ ka a kb b kc c, seqX x = some (ka, a) ∧ seqX y = some (kb, b) ∧ seqX z = some (kc, c) ∧ Q (zip3D a b c) | _ => False
theorem ri_zip3X {n : Nat} {t : TA} {da : Ev → (List D → Prop) → Prop} (h : RfN K n t da) : RfI K (iZip3X K t) (dZip3X da) := ⟨fun R q k => h.run R q fun ds vs H1 q1 _ s1 r1 => by
  split at q1
  · cases r1 with | cons h1 r1 => cases r1 with | cons h2 r2 => cases r2 with | cons h3 r3 =>
    cases r3
    obtain ⟨ka, a, kb, b, kc, c, e1, e2, e3, q2⟩ := q1
    obtain ⟨_, _, rfl, r1, t1⟩ := SqX.rep h1 e1
    obtain ⟨_, _, rfl, r2, t2⟩ := SqX.rep h2 e2
    obtain ⟨_, _, rfl, r3, t3⟩ := SqX.rep h3 e3
    exact ⟨_, _, _, _, _, _, _, _, _, rfl, t1 (To.refl _ _), t2 (To.refl _ _), t3 (To.refl _ _), k _ _ _ q2 s1 (itz3X_ok r1 t1 r2 t2 r3 t3)⟩
  · exact q1.elim⟩
/-! typed -/
variable {α β γ : Type} {e : α → D} {e' : β → D} {e3 : γ → D} {env : Ev} {da db dc : DEx}
def zip3T : List α → List β → List γ → List (α × β × γ)
  | a :: r, b :: s, c :: t => (a, b, c) :: zip3T r s t
  | _, _, _ => []
theorem zip_TX : ∀ (xs : List α) (ys : List β), zipD (xs.map e) (ys.map e') = (xs.zip ys).map (eT2 e e')
  | [], _ => by simp [zipD]
  | _ :: _, [] => by simp [zipD]
  | a :: r, b :: s => by
    show zipD (e a :: r.map e) (e' b :: s.map e') = _
    unfold zipD
    rw [zip_TX r s]
    rfl
theorem zip3_TX : ∀ (xs : List α) (ys : List β) (zs : List γ), zip3D (xs.map e) (ys.map e') (zs.map e3) = (zip3T xs ys zs).map (eT3 e e' e3)
  | [], _, _ => by simp [zip3D, zip3T]
  | _ :: _, [], _ => by simp [zip3D, zip3T]
  | _ :: _, _ :: _, [] => by simp [zip3D, zip3T]
  | a :: r, b :: s, c :: t => by
    show zip3D (e a :: r.map e) (e' b :: s.map e') (e3 c :: t.map e3) = _
    unfold zip3D
    rw [zip3_TX r s t]
    rfl
theorem i_zip2X {F : M (List α)} {F' : M (List β)} {ka kb : Bool} {ea : List α → D} {eb : List β → D} (h : We ea da env F) (h' : We eb db env F') (sa : ∀ xs, seqX (ea xs) = some (ka, xs.map e)) (sb : ∀ xs, seqX (eb xs) = some (kb, xs.map e')) : Wl (eT2 e e') (dZip2X (dCons da (dCons db dNil))) env (fun G => F fun xs => F' fun ys => G (xs.zip ys)) :=
  fun Q G hG f => h _ _ (fun xs h1 => h' _ _ (fun ys h2 => ⟨ka, _, kb, _, sa xs, sb ys, by rw [zip_TX]; exact hG _ h2⟩) h1) f
theorem i_zip3X {F : M (List α)} {F' : M (List β)} {F3 : M (List γ)} {ka kb kc : Bool} {ea : List α → D} {eb : List β → D} {ec : List γ → D} (h : We ea da env F) (h' : We eb db env F') (h3 : We ec dc env F3) (sa : ∀ xs, seqX (ea xs) = some (ka, xs.map e)) (sb : ∀ xs, seqX (eb xs) = some (kb, xs.map e')) (sc : ∀ xs, seqX (ec xs) = some (kc, xs.map e3)) :
    Wl (eT3 e e' e3) (dZip3X (dCons da (dCons db (dCons dc dNil)))) env (fun G => F fun xs => F' fun ys => F3 fun zs => G (zip3T xs ys zs)) :=
  fun Q G hG f => h _ _ (fun xs h1 => h' _ _ (fun ys h2 => h3 _ _ (fun zs h4 => ⟨ka, _, kb, _, kc, _, sa xs, sb ys, sc zs, by rw [zip3_TX]; exact hG _ h4⟩) h2) h1) f
end
/-! pop, as a function -/
def popZ {α ρ : Type} (xs : List α) (k : α → List α → Option ρ) : Option ρ := match xs.getLast? with | some a => k a xs.dropLast | none => none
theorem zpopT {α ρ : Type} {Q : ρ → Prop} {xs : List α} {k : α → List α → Option ρ} {y : α → List α → Prop} (h : ∀ a ys, Zp Q (k a ys) (y a ys)) : Zp Q (popZ xs k) (popT xs y) := fun r z g => by
  unfold popZ at z
  split at z
  · rename_i a e
    exact ⟨a, e, h _ _ r z g⟩
  · cases z
theorem popZ_snoc {α ρ : Type} {xs : List α} {a : α} {k : α → List α → Option ρ} : popZ (xs ++ [a]) k = k a xs := by
  unfold popZ
  rw [List.getLast?_concat, List.dropLast_concat]
/-! {} as a value; != of dicts whose values are empty dicts -/
section
variable {K : PySem.W.Frag}
def dDN : Ev → (D → Prop) → Prop := fun _ Q => Q (.dict [])
theorem re_dnew : RfE K tDNewK dDN := ⟨fun {A st ow σ H env Qd Q} R q k p np => by
  exact k _ _ _ q (R.new np) (.dct upd_same (R.newM np) .nil)⟩
end
end Toy
namespace PySem.W
open PySem PyProof.Rows
section
variable {prog : Program} {w : World} {A : Around} {E : Value → Shared → Prop} {s : Shared} {K : Type} [DecidableEq K] {knd : KeyKind prog w K}
theorem keq_neInX {a b : Addr} {ka kb : List (K × Value)} {r : Bool} {Q : Value → Shared → Prop} (ha : (a == sysModules) = false) (hb : (b == sysModules) = false)
    (da : s.heap.DictOf knd a ka) (db : s.heap.DictOf knd b kb) (hu : A.units < cLine) (hits : ka.length = kb.length → KeqHitsIn prog w A.in1 s kb ka r) (h : Q (.bool (!(ka.length == kb.length && r))) s) :
    wpAny (model prog w) A (compareOp .NotEq (.ref a) (.ref b)) Q E s := by
  refine wpAny_richCompare_same_room (op := .NotEq) da.typeIs db.typeIs PySem.F.slot_dict_ne (wpAny_call_entry PySem.F.slot_dict_ne da.typeIs PySem.F.entry_dict_ne ?_ (PySem.F.args_dict_ne_2 _ _)) hu
  show wpAny _ _ (Builtin.Dict.dictSlotArgs "__ne__" ⟨[.ref a, .ref b], []⟩ >>= _) _ _ s
  refine wpAny_bind ?_
  unfold Builtin.Dict.dictSlotArgs
  refine wpAny_bind (wpAny_notOrdered_dict da.typeIs ?_)
  show wpAny _ _ (pure (Value.ref a, Value.ref b)) _ _ s
  refine wpAny_pure ?_
  refine wpAny_bind (wpAny_isInstance (T := "dict") db.typeIs PySem.F.sub_dict_dict ?_)
  simp only [Bool.not_true, Bool.false_eq_true, if_false]
  refine wpAny_bind (wpAny_pure (wpAny_bind (wpAny_pure ?_)))
  refine wpAny_bind (keq_samePairsIn ha hb da db hits ?_)
  refine wpAny_pure ⟨_, rfl, ?_, ?_⟩
  · exact fun x => nomatch x
  · simpa using h
end
end PySem.W
namespace Toy
open PySem PySem.Spec PyProof.Rows L2
section
variable {X : Cx}
def EqE (H : Hp) (v z : V) : Prop := ∃ c d, v = .ref c ∧ z = .ref d ∧ H c = some (.dK []) ∧ H d = some (.dK [])
def rNeKN : R2 := fun x y H Q => ∃ a b ks ls, x = .ref a ∧ y = .ref b ∧ H a = some (.dK ks) ∧ H b = some (.dK ls) ∧ ks.length = ls.length ∧ (∀ p ∈ ks, ∃ z, valV ls p.1 = some z ∧ EqE H p.2 z) ∧ Q (.bl false) H
theorem hits_allN {prog : Program} {w : World} {A : Around} {s : Shared} {H : Hp} {kvs : List (Key × V)} {vb : List (Key × Value)} (rb : KV kvs vb) {ks : List (Key × V)} {va : List (Key × Value)} (ra : KV ks va) (he : ∀ v z v' z', EqE H v z → RelV v v' → RelV z z' → PySem.SeqAt.EqIn prog w A s v' z' true) :
    (∀ p ∈ ks, ∃ z, valV kvs p.1 = some z ∧ EqE H p.2 z) → PySem.W.KeqHitsIn prog w A s vb va true := by
  unfold KV at ra
  induction ra with
  | nil => intro _; exact .nil
  | @cons p q ps qs h t ih =>
    intro hp
    obtain ⟨h1, h2⟩ := h
    obtain ⟨z, e, f⟩ := hp p List.mem_cons_self
    have rr : RelO (some z) (valueAt vb p.1) := by rw [← e]; exact rb.val p.1
    obtain ⟨y, hy, ry⟩ := rr.some_of
    obtain ⟨k, v⟩ := q
    have h1' : p.1 = k := h1
    rw [h1'] at hy
    show PySem.W.KeqHitsIn prog w A s vb ((k, v) :: qs) (true && true)
    exact .hit hy (he _ _ _ _ f h2 ry) (ih fun p' hm => hp p' (List.mem_cons_of_mem _ hm))
theorem op_neKN (hu : X.A.units + 8 < cLine) : OpR X (compareOp .NotEq) rNeKN := by
  intro pins s σ H x y v u Q I rx ry h
  obtain ⟨a, b, ks, ls, rfl, rfl, ea, eb, hlen, hp, q⟩ := h
  obtain rfl : v = Value.ref a := rx
  obtain rfl : u = Value.ref b := ry
  obtain ⟨_, ya, va, ra, da⟩ := (show ObjOk X.prog X.w H s.heap a (.dK ks) from I.hok a _ ea)
  obtain ⟨_, yb, vb, rb, db⟩ := (show ObjOk X.prog X.w H s.heap b (.dK ls) from I.hok b _ eb)
  have hl : va.length = vb.length := by rw [← ra.length, ← rb.length]; exact hlen
  refine PySem.W.keq_neInX (knd := mixKind X.prog X.w) (r := true) ya yb da db (by omega) (fun _ => hits_allN (H := H) rb ra (fun v z v' z' he r1 r2 => ?_) hp) (fin_bl I q (by simp [hl]))
  obtain ⟨c, d, e1, e2, hc, hd⟩ := he
  subst e1 e2
  obtain rfl : v' = Value.ref c := r1
  obtain rfl : z' = Value.ref d := r2
  obtain ⟨_, yc, vc, rc, dc⟩ := (show ObjOk X.prog X.w H s.heap c (.dK []) from I.hok c _ hc)
  obtain ⟨_, yd, vd, rd, dd⟩ := (show ObjOk X.prog X.w H s.heap d (.dK []) from I.hok d _ hd)
  have e1 : vc = [] := List.length_eq_zero_iff.mp (by rw [← rc.length]; rfl)
  have e2 : vd = [] := List.length_eq_zero_iff.mp (by rw [← rd.length]; rfl)
  subst e1 e2
  by_cases hcd : c = d
  · subst hcd
    exact PySem.W.EqTree.at (n := 0) .same X.A.in1 (by show X.A.units + 1 + 0 < cLine; omega)
  · exact PySem.W.EqTree.at (n := 1) (.dicts (knd := mixKind X.prog X.w) (e := fun _ => true) hcd yc yd dc dd (fun _ _ _ hm _ => nomatch hm)) X.A.in1 (by show X.A.units + 1 + 1 < cLine; omega)
end
section
variable {K : PySem.W.Frag}
def isE : D → Bool | .dict [] => true | _ => false
def empV (ks ls : List (D × D)) : Bool := ks.length == ls.length && ks.all fun p => isE p.2 && (match keyOf p.1 with | some q => (match lookD ls q with | some x => isE x | none => false) | none => false)
theorem RepK.memV {H : Hp} {M : Addr → Prop} : ∀ {ds : List (D × D)} {us : List (Key × V)}, RepK K H M ds us → ∀ p ∈ us, ∃ d ∈ ds, KeyD d.1 p.1 ∧ Rep K H M d.2 p.2
  | _, _, .nil, p, h => nomatch h
  | _, _, .cons hk h r, p, hp => by
    rcases List.mem_cons.mp hp with rfl | hp
    · exact ⟨_, List.mem_cons_self, hk, h⟩
    · obtain ⟨d, hd, h1, h2⟩ := RepK.memV r p hp
      exact ⟨d, List.mem_cons_of_mem _ hd, h1, h2⟩
theorem repE {H : Hp} {M : Addr → Prop} {d : D} {v : V} (h : Rep K H M d v) (e : isE d = true) : ∃ c, v = .ref c ∧ H c = some (.dK []) := by
  unfold isE at e
  split at e
  · cases h with | dct h n r =>
    cases r
    exact ⟨_, rfl, h⟩
  · cases e
def oNeKN : D → D → (D → Prop) → Prop := fun x y Q => match x, y with
  | .dict ks, .dict ls => empV ks ls = true ∧ Q (.bool false)
  | _, _ => False
theorem rv_neKN : RfV2 K rNeKN oNeKN := ⟨fun R h1 h2 q k => by
  unfold oNeKN at q
  split at q
  · rename_i ks ls
    obtain ⟨e, q⟩ := q
    unfold empV at e
    rw [Bool.and_eq_true, List.all_eq_true, beq_iff_eq] at e
    obtain ⟨l1, us1, rfl, a1, r1⟩ := h1.dct
    obtain ⟨l2, us2, rfl, a2, r2⟩ := h2.dct
    refine ⟨_, _, _, _, rfl, rfl, a1, a2, by rw [← r1.len, ← r2.len]; exact e.1, fun p hp => ?_, k _ _ _ q (stp_refl R) (.bl _)⟩
    obtain ⟨d, hd, hk, hr⟩ := RepK.memV r1 p hp
    have e2 := e.2 d hd
    rw [hk.of, Bool.and_eq_true] at e2
    obtain ⟨c1, rfl1, hc1⟩ := repE hr e2.1
    have e3 := e2.2
    dsimp only at e3
    split at e3
    · rename_i x hx
      obtain ⟨z, hz, rz⟩ := (RepK.look p.1 r2).1 x hx
      obtain ⟨c2, rfl2, hc2⟩ := repE rz e3
      exact ⟨z, hz, c1, c2, rfl1, rfl2, hc1, hc2⟩
    · cases e3
  · exact q.elim⟩
end
/-! typed -/
section
variable {α β γ ρ : Type} {e : α → D} {env : Ev} {da db dc : DEx}
theorem w_dnew : We eD dDN env (fun G => G (.dict [])) := fun _ _ hG f => hG _ f
def neKT (a b : D) : M Bool := fun G => match a, b with
  | .dict ks, .dict ls => empV ks ls = true ∧ G false
  | _, _ => False
theorem w_neKN {F F' : M D} (ha : We eD da env F) (hb : We eD db env F') : We PyData.bool (dOp oNeKN da db) env (fun G => F fun a => F' fun b => neKT a b G) := fun Q G hG f => ha _ _ (fun a h1 => hb _ _ (fun b h2 => by
  unfold neKT at h2
  split at h2
  · exact ⟨h2.1, hG _ h2.2⟩
  · exact h2.elim) h1) f
def neKZ (a b : D) : Option Bool := match a, b with
  | .dict ks, .dict ls => if empV ks ls = true then some false else none
  | _, _ => none
theorem zs_neK {a b : D} : Zs (neKZ a b) (neKT a b) := fun G r z q => by
  unfold neKZ at z
  unfold neKT
  split at z
  · split at z
    · cases z; exact ⟨by assumption, q⟩
    · cases z
  · cases z
/-- a dict comprehension -/
def dcT {α : Type} (B : α → M (Option (D × D))) : List α → List (D × D) → M (List (D × D))
  | [], acc => fun G => G acc
  | a :: r, acc => fun G => B a fun o => match o with
    | some p => dcT B r (putD acc p.1 p.2) G
    | none => dcT B r acc G
def dcompT {α : Type} (xs : List α) (B : α → M (Option (D × D))) : M D := fun G => xs.length ≤ 100000 ∧ dcT B xs [] fun ks => G (.dict ks)
section
variable {vs : List Nat} {di : Ev → (List D → Prop) → Prop} {g : D → Ev → (Ev → Prop) → Prop} {c : Ev → (Bool → Prop) → Prop} {ek ev : DEx}
theorem dc_T {B : α → M (Option (D × D))} {env1 : Ev} (hb : ∀ a (R Go : Option (D × D) → Prop), (∀ o, Go o → R o) → B a Go → g (e a) env1 fun env2 => c env2 fun b => if b = true then ek env2 fun x => (keyOf x).isSome = true ∧ ev env2 fun y => R (some (x, y)) else R none) :
    ∀ (xs : List α) (acc : List (D × D)) (Q G : List (D × D) → Prop), (∀ ys, G ys → Q ys) → dcT B xs acc G → dcD g c ek ev (xs.map e) env1 acc Q
  | [], acc, Q, G, hG, f => hG _ f
  | a :: r, acc, Q, G, hG, f => hb a (fun o => match o with | some p => dcD g c ek ev (r.map e) env1 (putD acc p.1 p.2) Q | none => dcD g c ek ev (r.map e) env1 acc Q) _ (fun o h => match o, h with
    | some p, h => dc_T hb r _ Q G hG h
    | none, h => dc_T hb r _ Q G hG h) f
theorem w_dcomp {B : α → M (Option (D × D))} {F : M (List α)} (hi : Wl e di env F) (hn : noOwn vs env = true) (hb : ∀ a (R Go : Option (D × D) → Prop), (∀ o, Go o → R o) → B a Go → g (e a) (wipeE env vs) fun env2 => c env2 fun b => if b = true then ek env2 fun x => (keyOf x).isSome = true ∧ ev env2 fun y => R (some (x, y)) else R none) :
    We eD (dK (dDc vs di g c ek ev)) env (fun G => F fun xs => dcompT xs B G) := fun Q G hG f => ⟨hn, hi _ _ (fun xs h1 => ⟨by rw [List.length_map]; exact h1.1, dc_T hb xs [] _ _ (fun ys h => hG _ h) h1.2⟩) f⟩
theorem bd_all {eK : β → D} {eV : γ → D} {env1 : Ev} {E1 : M β} {E2 : M γ} (hk : We eK ek env1 E1) (hv : We eV ev env1 E2) (hs : ∀ x, (keyOf (eK x)).isSome = true) {R Go : Option (D × D) → Prop} (hR : ∀ o, Go o → R o) (f : E1 fun x => E2 fun y => Go (some (eK x, eV y))) : dYes env1 fun b => if b = true then ek env1 fun x => (keyOf x).isSome = true ∧ ev env1 fun y => R (some (x, y)) else R none :=
  hk _ _ (fun x h1 => ⟨hs x, hv _ _ (fun y h2 => hR _ h2) h1⟩) f
end
def dcZ {α : Type} (f : α → Option (Option (D × D))) : List α → List (D × D) → Option (List (D × D))
  | [], acc => some acc
  | a :: r, acc => (f a).bind fun o => match o with
    | some p => dcZ f r (putD acc p.1 p.2)
    | none => dcZ f r acc
def dcompZ {α : Type} (xs : List α) (f : α → Option (Option (D × D))) : Option D := if xs.length ≤ 100000 then (dcZ f xs []).map PyData.dict else none
theorem dcZ_T {f : α → Option (Option (D × D))} {B : α → M (Option (D × D))} (h : ∀ a G, Zp G (f a) (B a G)) : ∀ (xs : List α) (acc r : List (D × D)) (G : List (D × D) → Prop), dcZ f xs acc = some r → G r → dcT B xs acc G
  | [], acc, r, G, z, q => by cases z; exact q
  | a :: t, acc, r, G, z, q => by
    unfold dcZ at z
    cases h1 : f a with
    | none => rw [h1] at z; cases z
    | some o =>
      rw [h1] at z
      refine h a _ o h1 ?_
      cases o with
      | none => exact dcZ_T h t _ _ G z q
      | some p => exact dcZ_T h t _ _ G z q
theorem zs_dcomp {xs : List α} {f : α → Option (Option (D × D))} {B : α → M (Option (D × D))} (h : ∀ a G, Zp G (f a) (B a G)) : Zs (dcompZ xs f) (dcompT xs B) := fun G r z q => by
  unfold dcompZ at z
  split at z
  · rename_i hl
    cases h2 : dcZ f xs [] with
    | none => rw [h2] at z; cases z
    | some ks => rw [h2] at z; cases z; exact ⟨hl, dcZ_T h xs [] ks _ h2 q⟩
  · cases z
/-- len of a dict -/
def lenKT (d : D) : M Int := fun G => match d with | .dict kvs => G (kvs.length : Int) | _ => False
def lenKZ (d : D) : Option Int := match d with | .dict kvs => some (kvs.length : Int) | _ => none
theorem zs_lenK {d : D} : Zs (lenKZ d) (lenKT d) := fun G r z q => by
  unfold lenKZ at z
  unfold lenKT
  split at z
  · cases z; exact q
  · cases z
theorem w_lenK {F : M D} (h : We eD da env F) : We PyData.int (dCB oLenD (dCons da dNil)) env (fun G => F fun d => lenKT d G) := fun Q G hG f => h _ _ (fun d h1 => by
  unfold lenKT at h1
  split at h1
  · exact hG _ h1
  · exact h1.elim) f
/-- xs.append(f(state, ys.pop(k), a)) -/
theorem s_appX2 {t0 t1 : Type} {e0 : t0 → D} {e1 : t1 → D} {er : ρ → D} {f : t0 → t1 → M ρ} {d1 dk : DEx} {f1 : List t0 → M t1} {F' : M Int} {s i j : Nat} {xs : List ρ} {ys : List t0} {G : List t0 → List ρ → Prop} {X : Ev → Prop} {Rt : D → Prop} {Bk Ct : Ev → Prop}
    (hx : eget env i = so (xs.map er)) (hy : eget env j = so (ys.map e0)) (hst : eget env s = some .st) (hk : We PyData.int dk env F') (env1 : List t0 → Ev) (hE1 : ∀ zs, eset env j (so (zs.map e0)) = env1 zs) (h1 : ∀ zs, We e1 d1 (env1 zs) (f1 zs)) (hx1 : ∀ zs, eget (env1 zs) i = so (xs.map er))
    (env2 : List t0 → List ρ → Ev) (hE2 : ∀ zs rs, eset (env1 zs) i (so (rs.map er)) = env2 zs rs) (hr : ∀ zs rs, G zs rs → X (env2 zs rs))
    (q : F' fun k => popAtT ys k fun x0 zs => f1 zs fun x1 => f x0 x1 fun r => appT xs r fun rs => G zs rs) : dAppX i (dXcallS s (F2 (pr2 e0 e1 er f)) (dxaC (dPopAt j dk) (dxaC (dXof d1) dxaN))) ⟨X, Rt, Bk, Ct⟩ env := by
  refine ⟨by rw [hx]; trivial, ?_⟩
  unfold dXcallS
  rw [hst]
  show dPopAt j dk env _
  unfold dPopAt
  rw [hy]
  exact hk _ _ (fun k ⟨hl, n, a, g1, g2, g3⟩ => ⟨by rw [List.length_map]; exact hl, n, e0 a, by rw [List.length_map]; exact g1, by rw [List.getElem?_map, g2]; rfl, by
    rw [erase_map]
    show dXof d1 (eset env j (so _)) _
    rw [hE1]
    refine h1 _ _ _ (fun x1 g4 => ?_) g3
    refine ⟨a, x1, _, rfl, rfl, g4, fun r g5 => ?_⟩
    show match eget (env1 _) i with | some (.own ds) => _ | _ => False
    rw [hx1]
    refine ⟨by rw [List.length_map]; exact g5.1, ?_⟩
    have : xs.map er ++ [er r] = (xs ++ [r]).map er := by rw [List.map_append]; rfl
    rw [this]
    show X (eset (env1 _) i (so _))
    rw [hE2]
    exact hr _ _ g5.2⟩) q
end
end Toy
namespace L2
open PySem PySem.Spec PyProof.Rows
section
variable {X : Cx}
/-- name = {k: v for ..} on one line, the name a local -/
theorem ps_setDcX {i : Nat} {y : Str} {py : Pos} {kx vx tg iter : Expr} {ifs : List Expr} {scope : Scope} {own : List (Str × Nat)} {pos spos : Pos} {wi : TI} {g : TG} {tt : TT} {tk tv : TE} (hc : X.calm = true) (hN : X.N.Nodup) (hy : X.N[i]? = some y) (hyl : X.env.scope.names.lookup y = some .local)
    (hsw : swapsWith (.DictComp kx vx [⟨tg, iter, ifs, 0⟩] scope pos) (some (.Name y py)) spos.line X.env = pure true) (hi : PI X tg iter wi) (ok : BlkOk X.N X.env.scope scope own)
    (hg : ∀ (s : Shared) (H : Hp) (C : Addr) (cl : List (Str × Addr)) (fp : List Addr), PG (X.blk s H scope (compEnvC scope cl C X.env) fp) tg g) (ht : ∀ (s : Shared) (H : Hp) (C : Addr) (cl : List (Str × Addr)) (fp : List Addr), PTs (X.blk s H scope (compEnvC scope cl C X.env) fp) ifs tt)
    (hk : ∀ (s : Shared) (H : Hp) (C : Addr) (cl : List (Str × Addr)) (fp : List Addr), PE (X.blk s H scope (compEnvC scope cl C X.env) fp) kx tk)
    (he : ∀ (s : Shared) (H : Hp) (C : Addr) (cl : List (Str × Addr)) (fp : List Addr), PE (X.blk s H scope (compEnvC scope cl C X.env) fp) vx tv) (hs : ∀ x, foldedSetIterable iter X.env x = pure x := by intro _; rfl) :
    PS X (.Assign [.Name y py] (.DictComp kx vx [⟨tg, iter, ifs, 0⟩] scope pos) spos) (tAsg (tDc wi g tt tk tv (own.map (·.2))) (gName i)) := by
  refine ⟨fun pins s σ H D I h => ?_⟩
  rw [exec_Assign_Name_used _ _ _ _ hsw]
  refine wpAny_bind (wpAny_standAt (wpAny_bind ?_))
  show wpAny _ X.A (do let _ ← comprehension (.DictComp kx vx [⟨tg, iter, ifs, 0⟩] scope pos) scope X.env (firstIterPos [⟨tg, iter, ifs, 0⟩] pos) newDict false (eval iter X.env) (some (assign (.Name y py) X.env))) _ _ s
  have h : tDc wi g tt tk tv (own.map (·.2)) σ H (fun x H1 => gName i x σ H1 D.nx) := h
  refine wpAny_bind (thn (dc_core (Qf := fun _ s' => SP X pins D .next s') hc hN I hi ok hg ht hk he hs h fun L C s' m H' I' q hn f => ?_) fun _ s' hq => wpAny_pure (wpAny_pure hq))
  show wpAny _ _ (assign (.Name y py) X.env (.ref L)) _ _ _
  refine wpAny_assign_Name (store_ok2 (v := V.ref L) I' hN hy (.inl hyl) rfl (fun s2 I2 ⟨a, sb, ha⟩ => ?_) (.inr hyl))
  obtain ⟨f0, f1, f2, f3, f4, f5⟩ := f
  have haC : C ≠ a := by
    rcases ha with z | z
    · rw [z]; exact f1
    · exact fun e => f4 y a z e.symm
  refine ⟨m, hn.sameBut sb haC, fun h3 sb3 => ?_⟩
  exact ⟨_, H', I2.turned (t' := s2.toks) (fun b o hb e => (sb3.2 b hb).trans e) f0 f1 f3 f4 f5, q⟩
theorem sw_trueD {kx vx : Expr} {gs : List Comprehension} {scope : Scope} {pos py : Pos} {y : Str} {l : Nat} {env : Env} (hk : env.scope.kind = .function) (hy : env.scope.names.lookup y = some .local) (hl : (py.line == pos.line) = true)
    (ha : (scope.names.any fun (n, k) => n == y && (k == .local || k == .cell)) = false) : swapsWith (.DictComp kx vx gs scope pos) (some (.Name y py)) l env = pure true := by
  have ky : env.kindOf y = some .local := hy
  have hb : env.blockKind = .function := by unfold Env.blockKind; rw [hk]; rfl
  unfold swapsWith
  simp only [hb, ky, ha, Expr.pos, hl]
  rfl
end
end L2
namespace Toy
open PySem PySem.Spec PyProof.Rows L2
def topS (i : Nat) : Stmt := PySem.Challenge.pw_onepolicy_k72_services_and_their_faults.main.body.getD i (.Pass ⟨0, 0, 0, 0⟩)
abbrev s_is_number : Stmt := topS 1
abbrev Ns_is_number : List Str := ["value"]
theorem x_is_number : FnScope Ns_is_number ["value"] (defScope s_is_number) := ⟨rfl, rfl, rfl, by decide +kernel, rfl, by decide +kernel, by decide +kernel⟩
abbrev s_within : Stmt := topS 3
abbrev Ns_within : List Str := ["value", "low", "high"]
theorem x_within : FnScope Ns_within ["value", "low", "high"] (defScope s_within) := ⟨rfl, rfl, rfl, by decide +kernel, rfl, by decide +kernel, by decide +kernel⟩
abbrev s_whole_within : Stmt := topS 4
abbrev Ns_whole_within : List Str := ["value", "low", "high"]
theorem x_whole_within : FnScope Ns_whole_within ["value", "low", "high"] (defScope s_whole_within) := ⟨rfl, rfl, rfl, by decide +kernel, rfl, by decide +kernel, by decide +kernel⟩
abbrev s_first_wrong : Stmt := topS 5
abbrev Ns_first_wrong : List Str := ["rows", "name", "right"]
theorem x_first_wrong : FnScope Ns_first_wrong ["rows"] (defScope s_first_wrong) := ⟨rfl, rfl, rfl, by decide +kernel, rfl, by decide +kernel, by decide +kernel⟩
abbrev s_is_name : Stmt := topS 8
abbrev Ns_is_name : List Str := ["name", "sign"]
theorem x_is_name : FnScope Ns_is_name ["name"] (defScope s_is_name) := ⟨rfl, rfl, rfl, by decide +kernel, rfl, by decide +kernel, by decide +kernel⟩
abbrev s_fault_of_services : Stmt := topS 15
abbrev Ns_fault_of_services : List Str := ["services", "index", "service", "word", "other"]
theorem x_fault_of_services : FnScope Ns_fault_of_services ["services"] (defScope s_fault_of_services) := ⟨rfl, rfl, rfl, by decide +kernel, rfl, by decide +kernel, by decide +kernel⟩
abbrev s_fault_of_service : Stmt := topS 16
abbrev Ns_fault_of_service : List Str := ["service", "earlier", "name", "servers", "choice", "hold", "word", "server", "names"]
theorem x_fault_of_service : FnScope Ns_fault_of_service ["service", "earlier"] (defScope s_fault_of_service) := ⟨rfl, rfl, rfl, by decide +kernel, rfl, by decide +kernel, by decide +kernel⟩
abbrev s_fault_of_server : Stmt := topS 17
abbrev Ns_fault_of_server : List Str := ["server", "most", "name", "_", "weight", "health"]
theorem x_fault_of_server : FnScope Ns_fault_of_server ["server", "most"] (defScope s_fault_of_server) := ⟨rfl, rfl, rfl, by decide +kernel, rfl, by decide +kernel, by decide +kernel⟩
abbrev s_eligible : Stmt := topS 18
abbrev Ns_eligible : List Str := ["service", "place", "server"]
theorem x_eligible : FnScope Ns_eligible ["service"] (defScope s_eligible) := ⟨rfl, rfl, rfl, by decide +kernel, rfl, by decide +kernel, by decide +kernel⟩
abbrev s_empty_state : Stmt := topS 19
abbrev Ns_empty_state : List Str := []
theorem x_empty_state : FnScope Ns_empty_state [] (defScope s_empty_state) := ⟨rfl, rfl, rfl, by decide +kernel, rfl, by decide +kernel, by decide +kernel⟩
abbrev s_law_state : Stmt := topS 21
abbrev Ns_law_state : List Str := ["script", "cells", "cell"]
theorem x_law_state : FnScope Ns_law_state ["script"] (defScope s_law_state) := ⟨rfl, rfl, rfl, by decide +kernel, rfl, by decide +kernel, by decide +kernel⟩
abbrev s_law_take : Stmt := topS 22
abbrev Ns_law_take : List Str := ["state", "most", "cells", "at", "cell", "mixed"]
theorem x_law_take : FnScope Ns_law_take ["state", "most"] (defScope s_law_take) := ⟨rfl, rfl, rfl, by decide +kernel, rfl, by decide +kernel, by decide +kernel⟩
abbrev s_law_server : Stmt := topS 23
abbrev Ns_law_server : List Str := ["state", "name", "most", "health", "weight"]
theorem x_law_server : FnScope Ns_law_server ["state", "name", "most"] (defScope s_law_server) := ⟨rfl, rfl, rfl, by decide +kernel, rfl, by decide +kernel, by decide +kernel⟩
abbrev s_law_service : Stmt := topS 24
abbrev Ns_law_service : List Str := ["state", "choice", "hold", "most", "names", "servers", "k"]
theorem x_law_service : FnScope Ns_law_service ["state", "choice", "hold"] (defScope s_law_service) := ⟨rfl, rfl, rfl, by decide +kernel, rfl, by decide +kernel, by decide +kernel⟩
abbrev s_law_eligible : Stmt := topS 25
abbrev Ns_law_eligible : List Str := ["service", "found", "k"]
theorem x_law_eligible : FnScope Ns_law_eligible ["service"] (defScope s_law_eligible) := ⟨rfl, rfl, rfl, by decide +kernel, rfl, by decide +kernel, by decide +kernel⟩
abbrev s_law_many : Stmt := topS 26
abbrev Ns_law_many : List Str := ["state", "count", "found", "k", "name"]
theorem x_law_many : FnScope Ns_law_many ["state", "count"] (defScope s_law_many) := ⟨rfl, rfl, rfl, by decide +kernel, rfl, by decide +kernel, by decide +kernel⟩
abbrev s_law_spoilt : Stmt := topS 27
abbrev Ns_law_spoilt : List Str := ["state", "service", "name", "servers", "choice", "hold", "later", "kind", "at", "one", "bad", "word", "most"]
theorem x_law_spoilt : FnScope Ns_law_spoilt ["state", "service"] (defScope s_law_spoilt) := ⟨rfl, rfl, rfl, by decide +kernel, rfl, by decide +kernel, by decide +kernel⟩
abbrev s_law : Stmt := topS 28
abbrev Ns_law : List Str := ["script", "state", "choices", "services", "k", "one", "service", "full", "many", "turn", "at", "good", "bad", "word", "rows"]
theorem x_law : FnScope Ns_law ["script"] (defScope s_law) := ⟨rfl, rfl, rfl, by decide +kernel, rfl, by decide +kernel, by decide +kernel⟩
/-- what the top has written -/
structure Df (K : PySem.W.Frag) (mg : Str → Option Value) (x : Str) (st : Stmt) (ps : List Str) (a : Addr) (fd : FuncData) : Prop where
  F : Fun K x x st a fd
  b : Binds K fd ps []
  g : mg x = some (.ref a)
structure Tx (K : PySem.W.Frag) (mg : Str → Option Value) (w : World) where
  ad_is_number : Addr
  fd_is_number : FuncData
  d_is_number : Df K mg "is_number" s_is_number ["value"] ad_is_number fd_is_number
  ad_within : Addr
  fd_within : FuncData
  d_within : Df K mg "within" s_within ["value", "low", "high"] ad_within fd_within
  ad_whole_within : Addr
  fd_whole_within : FuncData
  d_whole_within : Df K mg "whole_within" s_whole_within ["value", "low", "high"] ad_whole_within fd_whole_within
  ad_first_wrong : Addr
  fd_first_wrong : FuncData
  d_first_wrong : Df K mg "first_wrong" s_first_wrong ["rows"] ad_first_wrong fd_first_wrong
  ad_is_name : Addr
  fd_is_name : FuncData
  d_is_name : Df K mg "is_name" s_is_name ["name"] ad_is_name fd_is_name
  ad_fault_of_services : Addr
  fd_fault_of_services : FuncData
  d_fault_of_services : Df K mg "fault_of_services" s_fault_of_services ["services"] ad_fault_of_services fd_fault_of_services
  ad_fault_of_service : Addr
  fd_fault_of_service : FuncData
  d_fault_of_service : Df K mg "_fault_of_service" s_fault_of_service ["service", "earlier"] ad_fault_of_service fd_fault_of_service
  ad_fault_of_server : Addr
  fd_fault_of_server : FuncData
  d_fault_of_server : Df K mg "_fault_of_server" s_fault_of_server ["server", "most"] ad_fault_of_server fd_fault_of_server
  ad_eligible : Addr
  fd_eligible : FuncData
  d_eligible : Df K mg "eligible" s_eligible ["service"] ad_eligible fd_eligible
  ad_empty_state : Addr
  fd_empty_state : FuncData
  d_empty_state : Df K mg "empty_state" s_empty_state [] ad_empty_state fd_empty_state
  ad_law_state : Addr
  fd_law_state : FuncData
  d_law_state : Df K mg "_law_state" s_law_state ["script"] ad_law_state fd_law_state
  ad_law_take : Addr
  fd_law_take : FuncData
  d_law_take : Df K mg "_law_take" s_law_take ["state", "most"] ad_law_take fd_law_take
  ad_law_server : Addr
  fd_law_server : FuncData
  d_law_server : Df K mg "_law_server" s_law_server ["state", "name", "most"] ad_law_server fd_law_server
  ad_law_service : Addr
  fd_law_service : FuncData
  d_law_service : Df K mg "_law_service" s_law_service ["state", "choice", "hold"] ad_law_service fd_law_service
  ad_law_eligible : Addr
  fd_law_eligible : FuncData
  d_law_eligible : Df K mg "_law_eligible" s_law_eligible ["service"] ad_law_eligible fd_law_eligible
  ad_law_many : Addr
  fd_law_many : FuncData
  d_law_many : Df K mg "_law_many" s_law_many ["state", "count"] ad_law_many fd_law_many
  ad_law_spoilt : Addr
  fd_law_spoilt : FuncData
  d_law_spoilt : Df K mg "_law_spoilt" s_law_spoilt ["state", "service"] ad_law_spoilt fd_law_spoilt
  ad_law : Addr
  fd_law : FuncData
  d_law : Df K mg "law" s_law ["script"] ad_law fd_law
  b_isinstance : mg "isinstance" = none
  b_int : mg "int" = none
  b_bool : mg "bool" = none
  b_all : mg "all" = none
  b_str : mg "str" = none
  b_len : mg "len" = none
  b_enumerate : mg "enumerate" = none
  b_abs : mg "abs" = none
  b_range : mg "range" = none
  b_tuple : mg "tuple" = none
  t_LETTERS : Tok
  c_LETTERS : mg "LETTERS" = some (Value.str "abcdefghijklmnopqrstuvwxyz" t_LETTERS)
  t_MOST_SERVICES : Tok
  c_MOST_SERVICES : mg "MOST_SERVICES" = some (Value.int 16 t_MOST_SERVICES)
  t_MOST_SERVERS : Tok
  c_MOST_SERVERS : mg "MOST_SERVERS" = some (Value.int 32 t_MOST_SERVERS)
  t_MOST_HOLD : Tok
  c_MOST_HOLD : mg "MOST_HOLD" = some (Value.int 1000000 t_MOST_HOLD)
  a_HEALTHS : Addr
  c_HEALTHS : mg "HEALTHS" = some (.ref a_HEALTHS)
  k_HEALTHS : KTup K a_HEALTHS [.str "up", .str "down", .str "draining"]
  s_HEALTHS : Paired Sc [.str "up", .str "down", .str "draining"] [.str "up", .str "down", .str "draining"]
  a_MOST_WEIGHT : Addr
  g_MOST_WEIGHT : mg "MOST_WEIGHT" = some (.ref a_MOST_WEIGHT)
  d_MOST_WEIGHT_0 : KDct K w a_MOST_WEIGHT (Str.ofString "turns") (.int 100)
  d_MOST_WEIGHT_1 : KDct K w a_MOST_WEIGHT (Str.ofString "least") (.int 100)
  d_MOST_WEIGHT_2 : KDct K w a_MOST_WEIGHT (Str.ofString "marks") (.int 8)
section
variable {P : Program} {w : World} {K : PySem.W.Frag} {mg : Str → Option Value} {base : Heap}
theorem ixL0 {K : PySem.W.Frag} {H : Hp} {a : Addr} {xs : List V} {i : Int} {v : V} {Q : VK} (h : H a = some (.lst xs)) (hi : atI xs i = some v) (q : Q v H) : rIx K (.ref a) (.int i) H Q :=
  .inl ⟨a, xs, i, v, rfl, rfl, SqL.of h, hi, q⟩
theorem fits64 {m : Int} (h0 : 0 < m) (h : m < 2 ^ 64) : CDivW 0 m := wide_div (b := 64) h0 (by omega) (by decide) (by decide)
theorem ok0_law_take (T : Tx K mg w) : FnOk P w K mg base CX0 1 T.ad_law_take T.fd_law_take ["state", "most"] spTake := by
  refine T.d_law_take.F.ok x_law_take (fun vs H Q E h => ?_) (fun cdv A outer s H vs Q E hr h => ?_)
  · obtain ⟨p, c, m, rfl, _⟩ := h
    rfl
  · obtain ⟨p, c, m, rfl, hL, hm0, hm, q0⟩ := h
    have nd := x_law_take.nd
    have npc := hL.ne
    have q : ∀ (r : Int) (H' : Hp), 0 ≤ r → (r < m ∨ r < 1) → LS H' p c → Keep [p, c] H H' → Q (.int r) H' := fun r H' h0 h1 => q0 r H' h0 (by omega)
    obtain ⟨_, ns, h1, h2, k, rfl, h3⟩ := id hL
    refine ⟨_, (pss_cons (ps_set (i := 2) nd rfl (Or.inl rfl) (pe_ix ix_seq (pv 0) pe_int (fun _ _ => rfl)))
        (pss_cons (ps_set (i := 3) nd rfl (Or.inl rfl) (pe_op op_mod (pe_callTy call_int1 (by rfl) T.b_int (by decide +kernel) (pa_cons (pe_ix ix_seq (pv 0) pe_int (fun _ _ => rfl)) pa_nil)) (pe_callB call_len_seq (by rfl) T.b_len (by decide +kernel) (pa_cons (pv 2) pa_nil))))
        (pss_cons (ps_set (i := 4) nd rfl (Or.inl rfl) (pe_ix ix_seq (pv 2) (pv 3) (fun _ _ => rfl)))
        (pss_cons (ps_if (pt_cmpR op_ge (pv 4) pe_int (nomark _)) (pss_cons (ps_asg (pe_op op_fdivW (pv 4) (pv 1)) (pg_sub (pv 2) (pv 3) set_list))
        (pss_one (ps_ret (pe_op op_mod (pe_callTy call_int1 (by rfl) T.b_int (by decide +kernel) (pa_cons (pv 4) pa_nil)) (pv 1))))) pss_nil)
        (pss_cons (ps_asg (pe_op op_add (pe_ix ix_seq (pv 0) pe_int (fun _ _ => rfl)) pe_int) (pg_sub (pv 0) pe_int set_list))
        (pss_cons (ps_set (i := 5) nd rfl (Or.inl rfl) (pe_op op_mod (pe_callTy call_int1 (by rfl) T.b_int (by decide +kernel) (pa_cons (pe_op op_add (pe_op op_mul (pv 4) pe_int) (pe_op op_mul (pe_ix ix_seq (pv 0) pe_int (fun _ _ => rfl)) pe_int)) pa_nil)) pe_int))
        (pss_cons (ps_set (i := 5) nd rfl (Or.inl rfl) (pe_op op_mod (pe_callTy call_int1 (by rfl) T.b_int (by decide +kernel) (pa_cons (pe_op op_add (pe_op op_mul (pv 5) pe_int) (pe_op op_mul (pe_ix ix_seq (pv 0) pe_int (fun _ _ => rfl)) pe_int)) pa_nil)) pe_int))
        (pss_one (ps_ret (pe_op op_mod (pe_callTy call_int1 (by rfl) T.b_int (by decide +kernel) (pa_cons (pe_op op_fdiv (pv 5) pe_int) pa_nil)) (pv 1))))))))))), ?_⟩
    have cd : ∀ x : Int, CDivW x m := fun x => fits64 hm0 hm
    have hl0 : (ns.map V.int) ≠ [] := by
      cases ns with
      | nil => exact absurd rfl h3
      | cons _ _ => intro z; cases z
    obtain ⟨j, v, ej, hj, hv⟩ := at_mod hl0 k
    have hjn : j < ns.length := by rw [List.length_map] at hj; exact hj
    obtain ⟨x, hx, rfl⟩ : ∃ x, ns[j]? = some x ∧ v = V.int x := by
      rw [List.getElem?_map] at hv
      cases e : ns[j]? with
      | none => rw [e] at hv; cases hv
      | some x => rw [e] at hv; exact ⟨x, rfl, (Option.some.inj hv).symm⟩
    have hpos : (0 : Int) < ((ns.map V.int).length : Int) := by omega
    refine ⟨_, rfl, ixL0 h1 (atI_nat (j := 1) rfl) ?_⟩
    refine ⟨_, rfl, ixL0 h1 (atI_nat (j := 0) rfl) (.inl ⟨_, rfl, ?_⟩)⟩
    refine ⟨_, rfl, _, _, rfl, .inl (SqL.of h2), _, _, rfl, rfl, hpos, ?_⟩
    refine ⟨_, rfl, _, rfl, ixL0 h2 (at_of ej hv) ?_⟩
    refine ⟨_, rfl, _, _, rfl, rfl, _, rfl, ite2 (fun eb => ?_) (fun eb => ?_)⟩
    · refine ⟨_, rfl, _, rfl, _, _, rfl, rfl, cd _, _, rfl, _, rfl, _, _, _, j, rfl, rfl, h2, ?_, ?_⟩
      · rw [ej]
        unfold ixN
        rw [if_pos (by omega), if_pos (by omega)]
        exact congrArg some (by omega)
      · refine ⟨_, rfl, .inl ⟨_, rfl, _, rfl, _, _, rfl, rfl, hm0, ?_⟩⟩
        have r := emod_rng x (m := m) hm0
        refine q _ _ r.1 (.inl r.2) ⟨_, ns.set j (x / m), by rw [upd_ne npc]; exact h1, by rw [upd_same, List.map_set], k, rfl, ?_⟩ fun b o e hb => by
          rw [upd_ne (fun z => hb (by rw [z]; simp))]
          exact e
        intro z
        have zz := congrArg List.length z
        rw [List.length_set] at zz
        have : ns.length = 0 := zz
        omega
    · refine ⟨_, rfl, ixL0 h1 (atI_nat (j := 0) rfl) ⟨_, _, rfl, rfl, _, rfl, _, _, _, 0, rfl, rfl, h1, rfl, ?_⟩⟩
      have g1 : (upd H p (.lst ([V.int k, V.ref c].set 0 (.int (k + 1))))) p = some (.lst [V.int (k + 1), V.ref c]) := upd_same
      have hL' : LS (upd H p (.lst ([V.int k, V.ref c].set 0 (.int (k + 1))))) p c := ⟨_, ns, g1, by rw [upd_ne npc.symm]; exact h2, k + 1, rfl, h3⟩
      have hk : Keep [p, c] H (upd H p (.lst ([V.int k, V.ref c].set 0 (.int (k + 1))))) := fun b o e hb => by
        rw [upd_ne (fun z => hb (by rw [z]; simp))]
        exact e
      generalize upd H p (.lst ([V.int k, V.ref c].set 0 (.int (k + 1)))) = H1 at g1 hL' hk ⊢
      refine ⟨_, rfl, _, _, rfl, rfl, .inr ⟨by decide, by decide⟩, _, rfl, ixL0 g1 (atI_nat (j := 0) rfl) ⟨_, _, rfl, rfl, .inr ⟨by decide, by decide⟩, _, _, rfl, rfl, .inl ⟨_, rfl, _, _, rfl, rfl, (by show (0 : Int) < 2147483647; decide), ?_⟩⟩⟩
      refine ⟨_, rfl, _, _, rfl, rfl, .inr ⟨by decide, by decide⟩, _, rfl, ixL0 g1 (atI_nat (j := 0) rfl) ⟨_, _, rfl, rfl, .inr ⟨by decide, by decide⟩, _, _, rfl, rfl, .inl ⟨_, rfl, _, _, rfl, rfl, (by show (0 : Int) < 1000000007; decide), ?_⟩⟩⟩
      refine ⟨_, rfl, _, _, rfl, rfl, ⟨by decide, by decide⟩, .inl ⟨_, rfl, _, rfl, _, _, rfl, rfl, hm0, ?_⟩⟩
      have r := emod_rng ((((x * 48271 + (k + 1) * 69621) % 2147483647 * 16807 + (k + 1) * 7919) % 1000000007) / 7) (m := m) hm0
      exact q _ _ r.1 (.inl r.2) hL' hk
theorem ok_law_take (T : Tx K mg w) : FnOk P w K mg base CX0 1 T.ad_law_take T.fd_law_take ["state", "most"] (spS K (F1 sTake)) := (ok0_law_take T).imp take_of
theorem ok_law_state (T : Tx K mg w) : FnOk P w K mg base CX0 1 T.ad_law_state T.fd_law_state ["script"] (spState K) := by
  refine T.d_law_state.F.ok x_law_state (fun vs H Q E h => ?_) (fun cdv A outer s H vs Q E hr h => ?_)
  · obtain ⟨a, ns, rfl, _⟩ := h
    rfl
  · obtain ⟨a, ns, rfl, hS, hlen, q⟩ := h
    have nd := x_law_state.nd
    refine ⟨_, (pss_cons (ps_setLc (i := 1) (own := [("cell", 2)]) (g := (gName 2)) rfl nd rfl rfl (sw_true rfl rfl rfl (by decide +kernel)) (pi_list (pe_slice sl_list (pv 0) po_none (po_some pe_int))) (blkOk_by (own := [("cell", 2)]) (N := Ns_law_state) (sc := defScope s_law_state) (by decide +kernel)) (fun _ _ _ _ _ => (pg_name (i := 2) nd rfl (Or.inl rfl))) (fun _ _ _ _ _ => pts_nil) (fun _ _ _ _ _ => (pe_callB call_abs (by rfl) T.b_abs (by decide +kernel) (pa_cons (pv 2) pa_nil))))
        (pss_cons (ps_if (pt_cmpR op_eq (pe_callB call_len_seq (by rfl) T.b_len (by decide +kernel) (pa_cons (pv 1) pa_nil)) pe_int (nomark _)) (pss_one (ps_set (i := 1) nd rfl (Or.inl rfl) (pe_lst (pa_cons pe_int pa_nil)))) pss_nil)
        (pss_one (ps_ret (pe_lst (pa_cons pe_int (pa_cons (pv 1) pa_nil))))))), ?_⟩
    have hml : (ns.map V.int).length ≤ 63 := by rw [List.length_map]; exact hlen
    refine ⟨_, rfl, 63, rfl, a, _, rfl, hS, fun p np => ?_⟩
    rw [cut63 _ hml]
    have g0 : (upd H p (.lst (ns.map V.int))) p = some (.lst (ns.map V.int)) := upd_same
    have s0 : Same H (upd H p (.lst (ns.map V.int))) := same_upd np
    generalize upd H p (.lst (ns.map V.int)) = H0 at g0 s0 ⊢
    refine ⟨p, rfl, ⟨_, SqL.of g0⟩, fun L hD => lc_list (K := K) (a := p) (xs := ns.map V.int) (fun i H1 => Same H0 H1 ∧ H1 L = some (.lst (((ns.take i).map fun x => if x < 0 then -x else x).map V.int))) ⟨same_upd hD, upd_same⟩ (fun i H1 _ z => SqL.of (z.1 _ _ g0)) ?_ ?_⟩
    · rintro i x H1 hi ⟨s1, g1⟩
      obtain ⟨z, hz, rfl⟩ : ∃ z, ns[i]? = some z ∧ x = V.int z := by
        rw [List.getElem?_map] at hi
        cases e : ns[i]? with
        | none => rw [e] at hi; cases hi
        | some z => rw [e] at hi; exact ⟨z, rfl, (Option.some.inj hi).symm⟩
      have hil := (List.getElem?_eq_some_iff.mp hz).1
      refine ⟨rfl, ?_⟩
      refine ⟨_, rfl, z, rfl, _, g1, ?_, fun b o e => ?_, ?_⟩
      · rw [List.length_map, List.length_map, List.length_take]
        exact small1000 (by omega)
      · rw [upd_ne (ne_of_none e hD)]
        exact s1 _ _ e
      · rw [upd_same, List.take_add_one, hz]
        simp
    · rintro H1 ⟨s1, g1⟩
      rw [List.length_map, List.take_length] at g1
      have np2 : H L = none := s0.free hD
      refine ⟨_, rfl, L, _, rfl, .inl (SqL.of g1), rfl, _, rfl, ite2 (fun e => ?_) (fun e => ?_)⟩
      · refine ⟨by show 1 ≤ sizeLine; decide, fun c hc => ?_⟩
        refine ⟨_, rfl, by show 2 ≤ sizeLine; decide, fun r hr' => ?_⟩
        have s2 : Same H1 (upd H1 c (.lst [.int 0])) := same_upd hc
        have s3 : Same (upd H1 c (.lst [.int 0])) (upd (upd H1 c (.lst [.int 0])) r (.lst [.int 0, .ref c])) := same_upd hr'
        refine q r c _ ⟨_, [0], upd_same, s3 _ _ upd_same, 0, rfl, by intro z; cases z⟩ (s0.trans (s1.trans (s2.trans s3))) ?_ ?_
        · exact s0.free (s1.free (s2.free hr'))
        · exact s0.free (s1.free hc)
      · refine ⟨_, rfl, by show 2 ≤ sizeLine; decide, fun r hr' => ?_⟩
        have s3 : Same H1 (upd H1 r (.lst [.int 0, .ref L])) := same_upd hr'
        refine q r L _ ⟨_, _, upd_same, s3 _ _ g1, 0, rfl, ?_⟩ (s0.trans (s1.trans s3)) (s0.free (s1.free hr')) np2
        intro z
        refine e (decide_eq_true (congrArg V.int ?_))
        rw [List.length_map, z]
        rfl
end

section
variable {P : Program} {w : World} {K : PySem.W.Frag} {mg : Str → Option Value} {base : Heap}
end

abbrev Srv := (D × Int × Int × D × D)
abbrev eSrv : Srv → D := (eT5 eD PyData.int PyData.int eD eD)
abbrev Svc := (D × (List Srv) × D × D)
abbrev eSvc : Svc → D := (eT4 eD (eU eSrv) eD eD)
def y_is_number (value_1 : D) (Q : Bool → Prop) : Prop := Q ((isTy "int" (eD value_1)) && (!(isTy "bool" (eD value_1))))
def y_within (value_1 : Int) (low_1 : Int) (high_1 : Int) (Q : Bool → Prop) : Prop := Q (decide (low_1 ≤ value_1) && decide (value_1 ≤ high_1))
def y_whole_within (value_1 : D) (low_1 : Int) (high_1 : Int) (Q : Bool → Prop) : Prop := y_is_number value_1 fun v_5 => andT v_5 (fun G => castT PyData.int value_1 fun c_3 => G (decide (low_1 ≤ c_3) && decide (c_3 ≤ high_1))) fun v_6 => Q v_6
def y_first_wrong_l1 (Q : (Option Str) → Prop) (kn : Prop) : List (Str × Bool) → Prop
  | [] => kn
  | x_1 :: r_1 => if (!x_1.2) = true then (Q (some x_1.1)) else (y_first_wrong_l1 Q kn r_1)
def y_first_wrong (rows_1 : (List (Str × Bool))) (Q : (Option Str) → Prop) : Prop := y_first_wrong_l1 Q (Q none) rows_1
def y_is_name (name_1 : D) (Q : Bool → Prop) : Prop := orT (!(isTy "str" (eD name_1))) (fun G => castT PyData.str name_1 fun c_1 => c_1.length ≤ sizeLine ∧ (G (!(decide ((1 : Int) ≤ (c_1.length : Int)) && decide ((c_1.length : Int) ≤ (10 : Int)))))) fun v_1 => if v_1 = true then (Q false) else (castT PyData.str name_1 fun c_6 => compT (charsT c_6) (fun (sign_3 : Str) (Go : Option Bool → Prop) => ∃ c_7, sign_3 = ⟨#[c_7]⟩ ∧ (Go (some (decide (c_7 ∈ (Str.ofString "abcdefghijklmnopqrstuvwxyz").cps.toList))))) fun v_4 => Q (v_4.all id))
def y__fault_of_server (server_1 : Srv) (most_1 : Int) (Q : (Option Str) → Prop) : Prop := letT (server_1 : Srv) fun p_1 => y_is_name p_1.1 fun v_7 => y_whole_within p_1.2.2.2.1 (0 : Int) most_1 fun v_8 => flatD (eD p_1.2.2.2.2) = true ∧ ((List.map PyData.str [(((Str.ofString "up"), (Str.ofString "down"), (Str.ofString "draining"))).1, (((Str.ofString "up"), (Str.ofString "down"), (Str.ofString "draining"))).2.1, (((Str.ofString "up"), (Str.ofString "down"), (Str.ofString "draining"))).2.2]).all flatD = true ∧ (y_first_wrong [((Str.ofString "server"), v_7), ((Str.ofString "weight"), v_8), ((Str.ofString "health"), (inD (eD p_1.2.2.2.2) (List.map PyData.str [(((Str.ofString "up"), (Str.ofString "down"), (Str.ofString "draining"))).1, (((Str.ofString "up"), (Str.ofString "down"), (Str.ofString "draining"))).2.1, (((Str.ofString "up"), (Str.ofString "down"), (Str.ofString "draining"))).2.2])))] fun v_9 => Q v_9))
def y__fault_of_service_l1 (p_1 : Svc) (Q : (Option Str) → Prop) (kn : Prop) : List Srv → Prop
  | [] => kn
  | server_1 :: r_1 => castT PyData.str p_1.2.2.1 fun c_1 => ∃ v_6, List.lookup c_1 [((Str.ofString "turns"), (100 : Int)), ((Str.ofString "least"), (100 : Int)), ((Str.ofString "marks"), (8 : Int))] = some v_6 ∧ (y__fault_of_server server_1 v_6 fun word_2 => if (!word_2.isNone) = true then (Q word_2) else (y__fault_of_service_l1 p_1 Q kn r_1))
def y__fault_of_service (service_1 : Svc) (earlier_1 : (List D)) (Q : (Option Str) → Prop) : Prop := letT (service_1 : Svc) fun p_1 => y_is_name p_1.1 fun v_1 => flatD (eD p_1.1) = true ∧ ((List.map eD earlier_1).all flatD = true ∧ (flatD (eD p_1.2.2.1) = true ∧ ((List.map PyData.str [(Str.ofString "turns"), (Str.ofString "least"), (Str.ofString "marks")]).all flatD = true ∧ (orT (isNo p_1.2.2.2) (fun G => y_whole_within p_1.2.2.2 (0 : Int) (1000000 : Int) fun v_2 => G v_2) fun v_3 => y_within (p_1.2.1.length : Int) (1 : Int) (32 : Int) fun v_4 => y_first_wrong [((Str.ofString "name"), v_1), ((Str.ofString "twice"), (!inD (eD p_1.1) (List.map eD earlier_1))), ((Str.ofString "choice"), (inD (eD p_1.2.2.1) (List.map PyData.str [(Str.ofString "turns"), (Str.ofString "least"), (Str.ofString "marks")]))), ((Str.ofString "hold"), v_3), ((Str.ofString "servers"), v_4)] fun word_1 => if (!word_1.isNone) = true then (Q word_1) else (y__fault_of_service_l1 p_1 Q (dcompT p_1.2.1 (fun (server_2 : Srv) (Go : Option (D × D) → Prop) => castT PyData.str server_2.1 fun c_2 => Go (some (PyData.str c_2, PyData.bool true))) fun names_1 => lenKT names_1 fun v_11 => Q (if (decide (v_11 = (p_1.2.1.length : Int))) = true then none else (some (Str.ofString "alike")))) p_1.2.1)))))
def y_fault_of_services_l1 (services_1 : (List Svc)) (Q : (Option (Int × (Option Str))) → Prop) (kn : Prop) : List (Int × Svc) → Prop
  | [] => kn
  | x_1 :: r_1 => (cutD services_1 none (some x_1.1)).length ≤ 100000 ∧ (y__fault_of_service x_1.2 (List.map (fun other_1 : Svc => other_1.1) (cutD services_1 none (some x_1.1))) fun word_1 => if (!word_1.isNone) = true then (Q (some (x_1.1, word_1))) else (y_fault_of_services_l1 services_1 Q kn r_1))
def y_fault_of_services (services_1 : (List Svc)) (Q : (Option (Int × (Option Str))) → Prop) : Prop := if (decide ((16 : Int) < (services_1.length : Int))) = true then (Q (some ((((16 : Int), (Str.ofString "services"))).1, (some ((((16 : Int), (Str.ofString "services"))).2))))) else (y_fault_of_services_l1 services_1 Q (Q none) (enumT 0 services_1))
def y_eligible (service_1 : Svc) (Q : (List Int) → Prop) : Prop := compT (enumT 0 service_1.2.1) (fun (a_3 : (Int × Srv)) (Go : Option Int → Prop) => eqT (eD a_3.2.2.2.2.2) (PyData.str (Str.ofString "up")) fun v_7 => andT v_7 (fun G => castT PyData.int a_3.2.2.2.2.1 fun c_3 => G (decide ((1 : Int) ≤ c_3))) fun v_8 => if v_8 = true then Go (some a_3.1) else Go none) fun v_9 => Q v_9
def y_empty_state (Q : D → Prop) : Prop := Q (PyData.dict [(PyData.str (Str.ofString "dues"), eD (PyData.dict [])), (PyData.str (Str.ofString "open"), eD (PyData.dict [])), (PyData.str (Str.ofString "clients"), eD (PyData.dict [])), (PyData.str (Str.ofString "kept"), eD (PyData.dict []))])
def y__law_server (name_1 : Str) (most_1 : Int) (Q : Srv → Prop) : Prop := takeT (5 : Int) fun v_1 => ixT [(Str.ofString "up"), (Str.ofString "up"), (Str.ofString "up"), (Str.ofString "down"), (Str.ofString "draining")] v_1 fun health_1 => takeT most_1 fun v_4 => takeT (3 : Int) fun v_6 => takeT (5 : Int) fun v_7 => ixT [(0 : Int), (1 : Int), ((1 : Int) + v_4), most_1, ((1 : Int) + v_6)] v_7 fun weight_1 => takeT (99 : Int) fun v_10 => Q ((PyData.str name_1), ((167772160 : Int) + v_10), (80 : Int), (PyData.int weight_1), (PyData.str health_1))
def y__law_service_l1 (most_1 : Int) (Q : Svc → Prop) (kn : (List Str) → (List Srv) → Prop) : List Int → (List Str) → (List Srv) → Prop
  | [], names_3, servers_2 => kn names_3 servers_2
  | k_1 :: r_1, names_3, servers_2 => takeT (names_3.length : Int) fun v_3 => popAtT names_3 v_3 fun p_1 names_4 => y__law_server p_1 most_1 fun r_2 => appT servers_2 r_2 fun servers_3 => y__law_service_l1 most_1 Q kn r_1 names_4 servers_3
def y__law_service (choice_1 : Str) (hold_1 : (Option Int)) (Q : Svc → Prop) : Prop := letT ((if (decide (choice_1 = (Str.ofString "marks"))) = true then (8 : Int) else (100 : Int)) : Int) fun most_1 => letT ([(Str.ofString "a"), (Str.ofString "b"), (Str.ofString "c"), (Str.ofString "d"), (Str.ofString "e"), (Str.ofString "web"), (Str.ofString "abcdefghij")] : (List Str)) fun names_1 => takeT (7 : Int) fun v_2 => (-(2 ^ 62) ≤ ((1 : Int) + v_2) ∧ ((1 : Int) + v_2) < 2 ^ 62) ∧ (y__law_service_l1 most_1 Q (fun (names_5 : (List Str)) (servers_4 : (List Srv)) => Q ((PyData.str (Str.ofString "s")), servers_4, (PyData.str choice_1), ((eO PyData.int) hold_1))) (rngT 0 ((1 : Int) + v_2).toNat) names_1 [])
def y__law_eligible_l1 (service_1 : Svc) (Q : (List Int) → Prop) (kn : (List Int) → Prop) : List Int → (List Int) → Prop
  | [], found_2 => kn found_2
  | k_1 :: r_1, found_2 => ixT service_1.2.1 k_1 fun v_1 => eqT (eD v_1.2.2.2.2) (PyData.str (Str.ofString "up")) fun v_2 => andT v_2 (fun G => ixT service_1.2.1 k_1 fun v_3 => castT PyData.int v_3.2.2.2.1 fun c_1 => G (decide ((1 : Int) ≤ c_1))) fun v_4 => if v_4 = true then (appT found_2 k_1 fun found_3 => y__law_eligible_l1 service_1 Q kn r_1 found_3) else (y__law_eligible_l1 service_1 Q kn r_1 found_2)
def y__law_eligible (service_1 : Svc) (Q : (List Int) → Prop) : Prop := (-(2 ^ 62) ≤ (service_1.2.1.length : Int) ∧ (service_1.2.1.length : Int) < 2 ^ 62) ∧ (y__law_eligible_l1 service_1 Q (fun (found_4 : (List Int)) => Q found_4) (rngT 0 (service_1.2.1.length : Int).toNat) [])
def y__law_many_l1 (Q : (List Srv) → Prop) (kn : (List (Str × Int × Int × Int × Str)) → Prop) : List Int → (List (Str × Int × Int × Int × Str)) → Prop
  | [], found_2 => kn found_2
  | k_1 :: r_1, found_2 => 0 < (26 : Int) ∧ (ixST (Str.ofString "abcdefghijklmnopqrstuvwxyz") (k_1 % (26 : Int)) fun v_1 => CDiv k_1 (26 : Int) ∧ (v_1.length ≤ 16 ∧ ((-(2 ^ 63) ≤ ((1 : Int) + (k_1 / (26 : Int))) ∧ ((1 : Int) + (k_1 / (26 : Int))) ≤ 1048576) ∧ (letT ((Txt.mul v_1 ((1 : Int) + (k_1 / (26 : Int)))) : Str) fun name_1 => 0 < (8 : Int) ∧ (takeT (2 : Int) fun v_4 => ixT [(Str.ofString "up"), (Str.ofString "down")] v_4 fun v_5 => appT found_2 (name_1, (1 : Int), (80 : Int), ((1 : Int) + (k_1 % (8 : Int))), v_5) fun found_3 => y__law_many_l1 Q kn r_1 found_3)))))
def y__law_many (count_1 : Int) (Q : (List Srv) → Prop) : Prop := (-(2 ^ 62) ≤ count_1 ∧ count_1 < 2 ^ 62) ∧ (y__law_many_l1 Q (fun (found_4 : (List (Str × Int × Int × Int × Str))) => Q (List.map (fun a : (Str × Int × Int × Int × Str) => ((PyData.str a.1), a.2.1, a.2.2.1, (PyData.int a.2.2.2.1), (PyData.str a.2.2.2.2))) found_4)) (rngT 0 count_1.toNat) [])
def y__law_spoilt_j1 (p_1 : Svc) (kind_1 : Int) (at_1 : Int) (Q : (Svc × Str) → Prop) (bad_4 : Srv) (word_3 : Str) : Prop := if (decide (kind_1 = (7 : Int))) = true then (ixT p_1.2.1 (0 : Int) fun v_17 => (cutD p_1.2.1 none (some (31 : Int))).length + [v_17].length ≤ sizeLine ∧ (Q ((p_1.1, ((cutD p_1.2.1 none (some (31 : Int))) ++ [v_17]), p_1.2.2.1, p_1.2.2.2), (Str.ofString "alike")))) else ((cutD p_1.2.1 none (some at_1)).length + [bad_4].length ≤ sizeLine ∧ (((cutD p_1.2.1 none (some at_1)) ++ [bad_4]).length + (cutD p_1.2.1 (some (at_1 + (1 : Int))) none).length ≤ sizeLine ∧ (Q ((p_1.1, (((cutD p_1.2.1 none (some at_1)) ++ [bad_4]) ++ (cutD p_1.2.1 (some (at_1 + (1 : Int))) none)), p_1.2.2.1, p_1.2.2.2), word_3))))
def y__law_spoilt_j2 (p_1 : Svc) (kind_1 : Int) (at_1 : Int) (one_1 : Srv) (Q : (Svc × Str) → Prop) (bad_3 : Srv) (word_2 : Str) : Prop := if (decide (kind_1 = (6 : Int))) = true then (takeT (4 : Int) fun v_18 => ixT [(some (Str.ofString "")), (some (Str.ofString "Up")), none, (some (Str.ofString "ill"))] v_18 fun v_19 => letT ((one_1.1, one_1.2.1, one_1.2.2.1, one_1.2.2.2.1, v_19) : (D × Int × Int × D × (Option Str))) fun bad_5 => letT ((Str.ofString "health") : Str) fun word_4 => y__law_spoilt_j1 p_1 kind_1 at_1 Q (bad_5.1, bad_5.2.1, bad_5.2.2.1, bad_5.2.2.2.1, ((eO PyData.str) bad_5.2.2.2.2)) word_4) else (y__law_spoilt_j1 p_1 kind_1 at_1 Q bad_3 word_2)
def y__law_spoilt_j3 (p_1 : Svc) (later_1 : D) (kind_1 : Int) (at_1 : Int) (one_1 : Srv) (word_1 : Str) (Q : (Svc × Str) → Prop) (bad_2 : Srv) : Prop := if (decide (kind_1 = (5 : Int))) = true then (eqT (eD p_1.2.2.1) (PyData.str (Str.ofString "marks")) fun v_20 => letT ((if v_20 = true then (8 : Int) else (100 : Int)) : Int) fun most_1 => takeT (4 : Int) fun v_21 => ixT [(PyData.int (-(1 : Int))), (PyData.int (most_1 + (1 : Int))), (PyData.bool true), (PyData.str (Str.ofString "1"))] v_21 fun v_22 => eqT (eD later_1) (PyData.str (Str.ofString "late")) fun v_23 => letT ((one_1.1, one_1.2.1, one_1.2.2.1, v_22, (if v_23 = true then (Str.ofString "up") else (Str.ofString "ill"))) : (D × Int × Int × D × Str)) fun bad_6 => letT ((Str.ofString "weight") : Str) fun word_5 => y__law_spoilt_j2 p_1 kind_1 at_1 one_1 Q (bad_6.1, bad_6.2.1, bad_6.2.2.1, bad_6.2.2.2.1, (PyData.str bad_6.2.2.2.2)) word_5) else (y__law_spoilt_j2 p_1 kind_1 at_1 one_1 Q bad_2 word_1)
def y__law_spoilt (service_1 : Svc) (Q : (Svc × Str) → Prop) : Prop := letT (service_1 : Svc) fun p_1 => takeT (2 : Int) fun v_1 => letT ((if (decide (v_1 = (0 : Int))) = true then (PyData.str (Str.ofString "late")) else p_1.2.2.1) : D) fun later_1 => takeT (8 : Int) fun kind_1 => takeT (p_1.2.1.length : Int) fun at_1 => ixT p_1.2.1 at_1 fun one_1 => if (decide (kind_1 = (0 : Int))) = true then (takeT (5 : Int) fun v_5 => ixT [(PyData.str (Str.ofString "")), (PyData.str (Str.ofString "A")), (PyData.str (Str.ofString "abcdefghijk")), (PyData.int (5 : Int)), (eN ())] v_5 fun v_6 => Q ((v_6, p_1.2.1, later_1, p_1.2.2.2), (Str.ofString "name"))) else (if (decide (kind_1 = (1 : Int))) = true then (takeT (4 : Int) fun v_7 => ixT [(some (Str.ofString "turn")), (some (Str.ofString "")), none, (some (Str.ofString "Least"))] v_7 fun v_8 => eqT (eD later_1) (PyData.str (Str.ofString "late")) fun v_9 => Q ((p_1.1, p_1.2.1, ((eO PyData.str) v_8), (if v_9 = true then (PyData.int (-(1 : Int))) else p_1.2.2.2)), (Str.ofString "choice"))) else (if (decide (kind_1 = (2 : Int))) = true then (eqT (eD later_1) (PyData.str (Str.ofString "late")) fun v_10 => takeT (4 : Int) fun v_11 => ixT [(PyData.int (-1 : Int)), (PyData.int (1000001 : Int)), (PyData.bool true), (PyData.str (Str.ofString "5"))] v_11 fun v_12 => Q ((p_1.1, (if v_10 = true then [] else p_1.2.1), p_1.2.2.1, v_12), (Str.ofString "hold"))) else (if (decide (kind_1 = (3 : Int))) = true then (y__law_many (33 : Int) fun v_13 => takeT (2 : Int) fun v_14 => ixT [[], v_13] v_14 fun v_15 => Q ((p_1.1, v_15, p_1.2.2.1, p_1.2.2.2), (Str.ofString "servers"))) else (letT (one_1 : Srv) fun bad_1 => letT ((Str.ofString "server") : Str) fun word_1 => if (decide (kind_1 = (4 : Int))) = true then (takeT (3 : Int) fun v_24 => ixT [(some (Str.ofString "")), (some (Str.ofString "A1")), none] v_24 fun v_25 => eqT (eD later_1) (PyData.str (Str.ofString "late")) fun v_26 => letT ((v_25, one_1.2.1, one_1.2.2.1, (if v_26 = true then (PyData.int (-(1 : Int))) else one_1.2.2.2.1), one_1.2.2.2.2) : ((Option Str) × Int × Int × D × D)) fun bad_7 => y__law_spoilt_j3 p_1 later_1 kind_1 at_1 one_1 word_1 Q (((eO PyData.str) bad_7.1), bad_7.2.1, bad_7.2.2.1, bad_7.2.2.2.1, bad_7.2.2.2.2)) else (y__law_spoilt_j3 p_1 later_1 kind_1 at_1 one_1 word_1 Q bad_1)))))
def y_law_j4 (services_4 : (List (Str × (List Srv) × D × D))) (at_1 : Int) (word_1 : Str) (Q : Bool → Prop) (go0 : Prop) (rows_2 : (List Svc)) : Prop := andT (decide ((rows_2.length : Int) < (17 : Int))) (fun G => y_fault_of_services rows_2 fun v_30 => eqT ((eO (eT2 PyData.int (eO PyData.str))) v_30) ((eT2 PyData.int PyData.str) (at_1, word_1)) fun v_31 => G (!v_31)) fun v_32 => if v_32 = true then (Q false) else (y_fault_of_services (List.map (fun a : (Str × (List Srv) × D × D) => ((PyData.str a.1), a.2.1, a.2.2.1, a.2.2.2)) services_4) fun v_33 => if (!v_33.isNone) = true then (Q false) else (go0))
def y_law_j5 (services_4 : (List (Str × (List Srv) × D × D))) (at_1 : Int) (Q : Bool → Prop) (go0 : Prop) (bad_1 : Svc) (word_1 : Str) : Prop := (List.map (fun a : (Str × (List Srv) × D × D) => ((PyData.str a.1), a.2.1, a.2.2.1, a.2.2.2)) (cutD services_4 none (some at_1))).length + [bad_1].length ≤ sizeLine ∧ (((List.map (fun a : (Str × (List Srv) × D × D) => ((PyData.str a.1), a.2.1, a.2.2.1, a.2.2.2)) (cutD services_4 none (some at_1))) ++ [bad_1]).length + (List.map (fun a : (Str × (List Srv) × D × D) => ((PyData.str a.1), a.2.1, a.2.2.1, a.2.2.2)) (cutD services_4 (some (at_1 + (1 : Int))) none)).length ≤ sizeLine ∧ (letT ((((List.map (fun a : (Str × (List Srv) × D × D) => ((PyData.str a.1), a.2.1, a.2.2.1, a.2.2.2)) (cutD services_4 none (some at_1))) ++ [bad_1]) ++ (List.map (fun a : (Str × (List Srv) × D × D) => ((PyData.str a.1), a.2.1, a.2.2.1, a.2.2.2)) (cutD services_4 (some (at_1 + (1 : Int))) none))) : (List Svc)) fun rows_1 => andT (decide ((rows_1.length : Int) < (16 : Int))) (fun G => takeT (3 : Int) fun v_34 => G (decide (v_34 = (0 : Int)))) fun v_35 => if v_35 = true then (rows_1.length + ([((PyData.str ((((Str.ofString ""), (), (Str.ofString "late"), (-1 : Int))).1)), [], (PyData.str ((((Str.ofString ""), (), (Str.ofString "late"), (-1 : Int))).2.2.1)), (PyData.int ((((Str.ofString ""), (), (Str.ofString "late"), (-1 : Int))).2.2.2)))] : (List Svc)).length ≤ sizeLine ∧ (letT ((rows_1 ++ [((PyData.str ((((Str.ofString ""), (), (Str.ofString "late"), (-1 : Int))).1)), [], (PyData.str ((((Str.ofString ""), (), (Str.ofString "late"), (-1 : Int))).2.2.1)), (PyData.int ((((Str.ofString ""), (), (Str.ofString "late"), (-1 : Int))).2.2.2)))]) : (List Svc)) fun rows_3 => y_law_j4 services_4 at_1 word_1 Q go0 rows_3)) else (y_law_j4 services_4 at_1 word_1 Q go0 rows_1)))
def y_law_l3 (services_4 : (List (Str × (List Srv) × D × D))) (full_1 : (Str × (List Srv) × Str × Unit)) (Q : Bool → Prop) (kn : Prop) : List Int → Prop
  | [] => kn
  | turn_1 :: r_3 => takeT ((services_4.length : Int) + (1 : Int)) fun at_1 => iteT (decide (at_1 < (services_4.length : Int))) (fun G => ixT services_4 at_1 fun v_27 => G v_27) (fun G => G (full_1.1, full_1.2.1, (PyData.str full_1.2.2.1), (eN full_1.2.2.2))) fun good_1 => y__law_spoilt ((PyData.str good_1.1), good_1.2.1, good_1.2.2.1, good_1.2.2.2) fun p_1 => andT (decide ((0 : Int) < at_1)) (fun G => takeT (5 : Int) fun v_36 => G (decide (v_36 = (0 : Int)))) fun v_37 => if v_37 = true then (ixT services_4 (0 : Int) fun v_38 => letT ((v_38.1, (), (Str.ofString "late"), (-(1 : Int))) : (Str × Unit × Str × Int)) fun bad_2 => letT ((Str.ofString "twice") : Str) fun word_2 => y_law_j5 services_4 at_1 Q (y_law_l3 services_4 full_1 Q kn r_3) ((PyData.str bad_2.1), [], (PyData.str bad_2.2.2.1), (PyData.int bad_2.2.2.2)) word_2) else (y_law_j5 services_4 at_1 Q (y_law_l3 services_4 full_1 Q kn r_3) p_1.1 p_1.2)
def y_law_l2 (Q : Bool → Prop) (kn : Prop) : List (Str × (List Srv) × D × D) → Prop
  | [] => kn
  | service_1 :: r_2 => y_eligible ((PyData.str service_1.1), service_1.2.1, service_1.2.2.1, service_1.2.2.2) fun v_14 => y__law_eligible ((PyData.str service_1.1), service_1.2.1, service_1.2.2.1, service_1.2.2.2) fun v_15 => eqT ((eL PyData.int) v_14) ((eL PyData.int) v_15) fun v_16 => if (!v_16) = true then (Q false) else (y_law_l2 Q kn r_2)
def y_law_l1 (choices_1 : (List Str)) (Q : Bool → Prop) (kn : (List (Str × (List Srv) × D × D)) → Prop) : List Int → (List (Str × (List Srv) × D × D)) → Prop
  | [], services_2 => kn services_2
  | k_1 :: r_1, services_2 => takeT (3 : Int) fun v_4 => ixT choices_1 v_4 fun v_5 => takeT (99 : Int) fun v_7 => takeT (4 : Int) fun v_8 => ixT [none, (some (0 : Int)), (some (1000000 : Int)), (some v_7)] v_8 fun v_9 => y__law_service v_5 v_9 fun one_1 => ixST (Str.ofString "abcdefghijklmnop") k_1 fun v_12 => appT services_2 (v_12, one_1.2.1, one_1.2.2.1, one_1.2.2.2) fun services_3 => y_law_l1 choices_1 Q kn r_1 services_3
def y_law (Q : Bool → Prop) : Prop := y_empty_state fun v_1 => neKT v_1 (PyData.dict [(PyData.str (Str.ofString "dues"), eD (PyData.dict [])), (PyData.str (Str.ofString "open"), eD (PyData.dict [])), (PyData.str (Str.ofString "clients"), eD (PyData.dict [])), (PyData.str (Str.ofString "kept"), eD (PyData.dict []))]) fun v_2 => if v_2 = true then (Q false) else (letT ([(Str.ofString "turns"), (Str.ofString "least"), (Str.ofString "marks")] : (List Str)) fun choices_1 => takeT (17 : Int) fun v_3 => (-(2 ^ 62) ≤ v_3 ∧ v_3 < 2 ^ 62) ∧ (y_law_l1 choices_1 Q (fun (services_4 : (List (Str × (List Srv) × D × D))) => y_fault_of_services (List.map (fun a : (Str × (List Srv) × D × D) => ((PyData.str a.1), a.2.1, a.2.2.1, a.2.2.2)) services_4) fun v_13 => if (!v_13.isNone) = true then (Q false) else (y_law_l2 Q (y__law_many (32 : Int) fun v_17 => takeT (3 : Int) fun v_18 => ixT choices_1 v_18 fun v_19 => letT (((Str.ofString "full"), v_17, v_19, ()) : (Str × (List Srv) × Str × Unit)) fun full_1 => (-(2 ^ 62) ≤ (17 : Int) ∧ (17 : Int) < 2 ^ 62) ∧ (compT (rngT 0 (17 : Int).toNat) (fun (k_2 : Int) (Go : Option (Str × (List Srv) × Str × Unit) → Prop) => iteT (decide (k_2 < (10 : Int))) (fun G => (Str.ofString "a").length ≤ 16 ∧ ((-(2 ^ 63) ≤ (k_2 + (1 : Int)) ∧ (k_2 + (1 : Int)) ≤ 1048576) ∧ (G (Txt.mul (Str.ofString "a") (k_2 + (1 : Int)))))) (fun G => (Str.ofString "b").length ≤ 16 ∧ ((-(2 ^ 63) ≤ (k_2 - (9 : Int)) ∧ (k_2 - (9 : Int)) ≤ 1048576) ∧ (G (Txt.mul (Str.ofString "b") (k_2 - (9 : Int)))))) fun v_20 => Go (some (v_20, full_1.2.1, full_1.2.2.1, full_1.2.2.2))) fun many_1 => y_fault_of_services (List.map (fun a : (Str × (List Srv) × Str × Unit) => ((PyData.str a.1), a.2.1, (PyData.str a.2.2.1), (eN a.2.2.2))) many_1) fun v_22 => eqT ((eO (eT2 PyData.int (eO PyData.str))) v_22) ((eT2 PyData.int PyData.str) ((16 : Int), (Str.ofString "services"))) fun v_23 => orT (!v_23) (fun G => y_fault_of_services (List.map (fun a : (Str × (List Srv) × Str × Unit) => ((PyData.str a.1), a.2.1, (PyData.str a.2.2.1), (eN a.2.2.2))) (cutD many_1 none (some (16 : Int)))) fun v_24 => G (!v_24.isNone)) fun v_25 => if v_25 = true then (Q false) else ((-(2 ^ 62) ≤ (3 : Int) ∧ (3 : Int) < 2 ^ 62) ∧ (y_law_l3 services_4 full_1 Q (Q true) (rngT 0 (3 : Int).toNat))))) services_4)) (rngT 0 v_3.toNat) []))
abbrev rSrv := (rT5 some rI rI some some)
theorem rc_Srv : Dc eSrv rSrv := (rc_T5 rc_D rc_I rc_I rc_D rc_D)
abbrev rSvc := (rT4 some (rU rSrv) some some)
theorem rc_Svc : Dc eSvc rSvc := (rc_T4 rc_D (rc_U rc_Srv) rc_D rc_D)
def z_is_number (value_1 : D) : Option Bool := some ((isTy "int" (eD value_1)) && (!(isTy "bool" (eD value_1))))
theorem zs_is_number (value_1 : D) : Zs (z_is_number value_1 ) (fun Q => y_is_number value_1 Q) := fun Q => by unfold z_is_number y_is_number; exact zq
def z_within (value_1 : Int) (low_1 : Int) (high_1 : Int) : Option Bool := some (decide (low_1 ≤ value_1) && decide (value_1 ≤ high_1))
theorem zs_within (value_1 : Int) (low_1 : Int) (high_1 : Int) : Zs (z_within value_1 low_1 high_1 ) (fun Q => y_within value_1 low_1 high_1 Q) := fun Q => by unfold z_within y_within; exact zq
def z_whole_within (value_1 : D) (low_1 : Int) (high_1 : Int) : Option Bool := (Option.bind (z_is_number value_1) fun v_5 => (Option.bind (if v_5 = true then (Option.bind (rI value_1) fun c_3 => some (decide (low_1 ≤ c_3) && decide (c_3 ≤ high_1))) else some false) fun v_6 => some v_6))
theorem zs_whole_within (value_1 : D) (low_1 : Int) (high_1 : Int) : Zs (z_whole_within value_1 low_1 high_1 ) (fun Q => y_whole_within value_1 low_1 high_1 Q) := fun Q => by unfold z_whole_within y_whole_within; exact (zb (zs_is_number value_1) fun v_5 => (zb (zs_and fun G => (zb (zs_cast rc_I) fun c_3 => zq)) fun v_6 => zq))
def z_first_wrong_l1 (kn : Option (Option Str)) : List (Str × Bool) → Option (Option Str)
  | [] => kn
  | x_1 :: r_1 => (if (!x_1.2) = true then some (some x_1.1) else (z_first_wrong_l1 kn r_1))
theorem zs_first_wrong_l1 (Q : (Option Str) → Prop) (kn : Option (Option Str)) (ykn : Prop) (hkn : Zp Q (kn ) (ykn )) : ∀ (xs : List (Str × Bool)), Zp Q (z_first_wrong_l1 kn xs ) (y_first_wrong_l1 Q ykn xs )
  | [] => by unfold z_first_wrong_l1 y_first_wrong_l1; exact hkn
  | x_1 :: r_1 => by unfold z_first_wrong_l1 y_first_wrong_l1; exact (zi zq (zs_first_wrong_l1 Q kn _ hkn r_1))
def z_first_wrong (rows_1 : (List (Str × Bool))) : Option (Option Str) := (z_first_wrong_l1 (some none) rows_1)
theorem zs_first_wrong (rows_1 : (List (Str × Bool))) : Zs (z_first_wrong rows_1 ) (fun Q => y_first_wrong rows_1 Q) := fun Q => by unfold z_first_wrong y_first_wrong; exact (zs_first_wrong_l1 Q (some none) _ zq rows_1)
def z_is_name (name_1 : D) : Option Bool := (Option.bind (if (!(isTy "str" (eD name_1))) = true then some true else (Option.bind (rS name_1) fun c_1 => (if c_1.length ≤ sizeLine then some (!(decide ((1 : Int) ≤ (c_1.length : Int)) && decide ((c_1.length : Int) ≤ (10 : Int)))) else none))) fun v_1 => (if v_1 = true then some false else (Option.bind (rS name_1) fun c_6 => (Option.bind (compZ (charsT c_6) (fun (sign_3 : Str) => ((Option.bind (oneC sign_3) fun c_7 => some (some (decide (c_7 ∈ (Str.ofString "abcdefghijklmnopqrstuvwxyz").cps.toList)))) : Option (Option Bool)))) fun v_4 => some (v_4.all id)))))
theorem zs_is_name (name_1 : D) : Zs (z_is_name name_1 ) (fun Q => y_is_name name_1 Q) := fun Q => by unfold z_is_name y_is_name; exact (zb (zs_or fun G => (zb (zs_cast rc_S) fun c_1 => (zg zq))) fun v_1 => (zi zq (zb (zs_cast rc_S) fun c_6 => (zb (zs_comp fun sign_3 Go => (zec fun c_7 => zq)) fun v_4 => zq))))
def z__fault_of_server (server_1 : Srv) (most_1 : Int) : Option (Option Str) := (Option.bind (some (server_1 : Srv)) fun p_1 => (Option.bind (z_is_name p_1.1) fun v_7 => (Option.bind (z_whole_within p_1.2.2.2.1 (0 : Int) most_1) fun v_8 => (if flatD (eD p_1.2.2.2.2) = true then (if (List.map PyData.str [(((Str.ofString "up"), (Str.ofString "down"), (Str.ofString "draining"))).1, (((Str.ofString "up"), (Str.ofString "down"), (Str.ofString "draining"))).2.1, (((Str.ofString "up"), (Str.ofString "down"), (Str.ofString "draining"))).2.2]).all flatD = true then (Option.bind (z_first_wrong [((Str.ofString "server"), v_7), ((Str.ofString "weight"), v_8), ((Str.ofString "health"), (inD (eD p_1.2.2.2.2) (List.map PyData.str [(((Str.ofString "up"), (Str.ofString "down"), (Str.ofString "draining"))).1, (((Str.ofString "up"), (Str.ofString "down"), (Str.ofString "draining"))).2.1, (((Str.ofString "up"), (Str.ofString "down"), (Str.ofString "draining"))).2.2])))]) fun v_9 => some v_9) else none) else none))))
theorem zs__fault_of_server (server_1 : Srv) (most_1 : Int) : Zs (z__fault_of_server server_1 most_1 ) (fun Q => y__fault_of_server server_1 most_1 Q) := fun Q => by unfold z__fault_of_server y__fault_of_server; exact (zb zs_let fun p_1 => (zb (zs_is_name p_1.1) fun v_7 => (zb (zs_whole_within p_1.2.2.2.1 (0 : Int) most_1) fun v_8 => (zg (zg (zb (zs_first_wrong [((Str.ofString "server"), v_7), ((Str.ofString "weight"), v_8), ((Str.ofString "health"), (inD (eD p_1.2.2.2.2) (List.map PyData.str [(((Str.ofString "up"), (Str.ofString "down"), (Str.ofString "draining"))).1, (((Str.ofString "up"), (Str.ofString "down"), (Str.ofString "draining"))).2.1, (((Str.ofString "up"), (Str.ofString "down"), (Str.ofString "draining"))).2.2])))]) fun v_9 => zq))))))
def z__fault_of_service_l1 (p_1 : Svc) (kn : Option (Option Str)) : List Srv → Option (Option Str)
  | [] => kn
  | server_1 :: r_1 => (Option.bind (rS p_1.2.2.1) fun c_1 => (Option.bind (List.lookup c_1 [((Str.ofString "turns"), (100 : Int)), ((Str.ofString "least"), (100 : Int)), ((Str.ofString "marks"), (8 : Int))]) fun v_6 => (Option.bind (z__fault_of_server server_1 v_6) fun word_2 => (if (!word_2.isNone) = true then some word_2 else (z__fault_of_service_l1 p_1 kn r_1)))))
theorem zs__fault_of_service_l1 (p_1 : Svc) (Q : (Option Str) → Prop) (kn : Option (Option Str)) (ykn : Prop) (hkn : Zp Q (kn ) (ykn )) : ∀ (xs : List Srv), Zp Q (z__fault_of_service_l1 p_1 kn xs ) (y__fault_of_service_l1 p_1 Q ykn xs )
  | [] => by unfold z__fault_of_service_l1 y__fault_of_service_l1; exact hkn
  | server_1 :: r_1 => by unfold z__fault_of_service_l1 y__fault_of_service_l1; exact (zb (zs_cast rc_S) fun c_1 => (zes fun v_6 => (zb (zs__fault_of_server server_1 v_6) fun word_2 => (zi zq (zs__fault_of_service_l1 p_1 Q kn _ hkn r_1)))))
def z__fault_of_service (service_1 : Svc) (earlier_1 : (List D)) : Option (Option Str) := (Option.bind (some (service_1 : Svc)) fun p_1 => (Option.bind (z_is_name p_1.1) fun v_1 => (if flatD (eD p_1.1) = true then (if (List.map eD earlier_1).all flatD = true then (if flatD (eD p_1.2.2.1) = true then (if (List.map PyData.str [(Str.ofString "turns"), (Str.ofString "least"), (Str.ofString "marks")]).all flatD = true then (Option.bind (if (isNo p_1.2.2.2) = true then some true else (Option.bind (z_whole_within p_1.2.2.2 (0 : Int) (1000000 : Int)) fun v_2 => some v_2)) fun v_3 => (Option.bind (z_within (p_1.2.1.length : Int) (1 : Int) (32 : Int)) fun v_4 => (Option.bind (z_first_wrong [((Str.ofString "name"), v_1), ((Str.ofString "twice"), (!inD (eD p_1.1) (List.map eD earlier_1))), ((Str.ofString "choice"), (inD (eD p_1.2.2.1) (List.map PyData.str [(Str.ofString "turns"), (Str.ofString "least"), (Str.ofString "marks")]))), ((Str.ofString "hold"), v_3), ((Str.ofString "servers"), v_4)]) fun word_1 => (if (!word_1.isNone) = true then some word_1 else (z__fault_of_service_l1 p_1 ((Option.bind (dcompZ p_1.2.1 (fun (server_2 : Srv) => ((Option.bind (rS server_2.1) fun c_2 => some (some (PyData.str c_2, PyData.bool true))) : Option (Option (D × D))))) fun names_1 => (Option.bind (lenKZ names_1) fun v_11 => some (if (decide (v_11 = (p_1.2.1.length : Int))) = true then none else (some (Str.ofString "alike")))))) p_1.2.1))))) else none) else none) else none) else none)))
theorem zs__fault_of_service (service_1 : Svc) (earlier_1 : (List D)) : Zs (z__fault_of_service service_1 earlier_1 ) (fun Q => y__fault_of_service service_1 earlier_1 Q) := fun Q => by unfold z__fault_of_service y__fault_of_service; exact (zb zs_let fun p_1 => (zb (zs_is_name p_1.1) fun v_1 => (zg (zg (zg (zg (zb (zs_or fun G => (zb (zs_whole_within p_1.2.2.2 (0 : Int) (1000000 : Int)) fun v_2 => zq)) fun v_3 => (zb (zs_within (p_1.2.1.length : Int) (1 : Int) (32 : Int)) fun v_4 => (zb (zs_first_wrong [((Str.ofString "name"), v_1), ((Str.ofString "twice"), (!inD (eD p_1.1) (List.map eD earlier_1))), ((Str.ofString "choice"), (inD (eD p_1.2.2.1) (List.map PyData.str [(Str.ofString "turns"), (Str.ofString "least"), (Str.ofString "marks")]))), ((Str.ofString "hold"), v_3), ((Str.ofString "servers"), v_4)]) fun word_1 => (zi zq (zs__fault_of_service_l1 p_1 Q ((Option.bind (dcompZ p_1.2.1 (fun (server_2 : Srv) => ((Option.bind (rS server_2.1) fun c_2 => some (some (PyData.str c_2, PyData.bool true))) : Option (Option (D × D))))) fun names_1 => (Option.bind (lenKZ names_1) fun v_11 => some (if (decide (v_11 = (p_1.2.1.length : Int))) = true then none else (some (Str.ofString "alike")))))) _ (zb (zs_dcomp fun server_2 Go => (zb (zs_cast rc_S) fun c_2 => zq)) fun names_1 => (zb zs_lenK fun v_11 => zq)) p_1.2.1)))))))))))
def z_fault_of_services_l1 (services_1 : (List Svc)) (kn : Option (Option (Int × (Option Str)))) : List (Int × Svc) → Option (Option (Int × (Option Str)))
  | [] => kn
  | x_1 :: r_1 => (if (cutD services_1 none (some x_1.1)).length ≤ 100000 then (Option.bind (z__fault_of_service x_1.2 (List.map (fun other_1 : Svc => other_1.1) (cutD services_1 none (some x_1.1)))) fun word_1 => (if (!word_1.isNone) = true then some (some (x_1.1, word_1)) else (z_fault_of_services_l1 services_1 kn r_1))) else none)
theorem zs_fault_of_services_l1 (services_1 : (List Svc)) (Q : (Option (Int × (Option Str))) → Prop) (kn : Option (Option (Int × (Option Str)))) (ykn : Prop) (hkn : Zp Q (kn ) (ykn )) : ∀ (xs : List (Int × Svc)), Zp Q (z_fault_of_services_l1 services_1 kn xs ) (y_fault_of_services_l1 services_1 Q ykn xs )
  | [] => by unfold z_fault_of_services_l1 y_fault_of_services_l1; exact hkn
  | x_1 :: r_1 => by unfold z_fault_of_services_l1 y_fault_of_services_l1; exact (zg (zb (zs__fault_of_service x_1.2 (List.map (fun other_1 : Svc => other_1.1) (cutD services_1 none (some x_1.1)))) fun word_1 => (zi zq (zs_fault_of_services_l1 services_1 Q kn _ hkn r_1))))
def z_fault_of_services (services_1 : (List Svc)) : Option (Option (Int × (Option Str))) := (if (decide ((16 : Int) < (services_1.length : Int))) = true then some (some ((((16 : Int), (Str.ofString "services"))).1, (some ((((16 : Int), (Str.ofString "services"))).2)))) else (z_fault_of_services_l1 services_1 (some none) (enumT 0 services_1)))
theorem zs_fault_of_services (services_1 : (List Svc)) : Zs (z_fault_of_services services_1 ) (fun Q => y_fault_of_services services_1 Q) := fun Q => by unfold z_fault_of_services y_fault_of_services; exact (zi zq (zs_fault_of_services_l1 services_1 Q (some none) _ zq (enumT 0 services_1)))
def z_eligible (service_1 : Svc) : Option (List Int) := (Option.bind (compZ (enumT 0 service_1.2.1) (fun (a_3 : (Int × Srv)) => ((Option.bind (eqZ (eD a_3.2.2.2.2.2) (PyData.str (Str.ofString "up"))) fun v_7 => (Option.bind (if v_7 = true then (Option.bind (rI a_3.2.2.2.2.1) fun c_3 => some (decide ((1 : Int) ≤ c_3))) else some false) fun v_8 => (if v_8 = true then some (some a_3.1) else some none))) : Option (Option Int)))) fun v_9 => some v_9)
theorem zs_eligible (service_1 : Svc) : Zs (z_eligible service_1 ) (fun Q => y_eligible service_1 Q) := fun Q => by unfold z_eligible y_eligible; exact (zb (zs_comp fun a_3 Go => (zb zs_eq fun v_7 => (zb (zs_and fun G => (zb (zs_cast rc_I) fun c_3 => zq)) fun v_8 => (zi zq zq)))) fun v_9 => zq)
def z_empty_state : Option D := some (PyData.dict [(PyData.str (Str.ofString "dues"), eD (PyData.dict [])), (PyData.str (Str.ofString "open"), eD (PyData.dict [])), (PyData.str (Str.ofString "clients"), eD (PyData.dict [])), (PyData.str (Str.ofString "kept"), eD (PyData.dict []))])
theorem zs_empty_state : Zs (z_empty_state ) (fun Q => y_empty_state Q) := fun Q => by unfold z_empty_state y_empty_state; exact zq
def z__law_eligible_l1 (service_1 : Svc) (kn : (List Int) → Option (List Int)) : List Int → (List Int) → Option (List Int)
  | [], found_2 => kn found_2
  | k_1 :: r_1, found_2 => (Option.bind (atI service_1.2.1 k_1) fun v_1 => (Option.bind (eqZ (eD v_1.2.2.2.2) (PyData.str (Str.ofString "up"))) fun v_2 => (Option.bind (if v_2 = true then (Option.bind (atI service_1.2.1 k_1) fun v_3 => (Option.bind (rI v_3.2.2.2.1) fun c_1 => some (decide ((1 : Int) ≤ c_1)))) else some false) fun v_4 => (if v_4 = true then (Option.bind (appZ found_2 k_1) fun found_3 => (z__law_eligible_l1 service_1 kn r_1 found_3)) else (z__law_eligible_l1 service_1 kn r_1 found_2)))))
theorem zs__law_eligible_l1 (service_1 : Svc) (Q : (List Int) → Prop) (kn : (List Int) → Option (List Int)) (ykn : (List Int) → Prop) (hkn : ∀ a0, Zp Q (kn a0) (ykn a0)) : ∀ (xs : List Int) (s0 : (List Int)), Zp Q (z__law_eligible_l1 service_1 kn xs s0) (y__law_eligible_l1 service_1 Q ykn xs s0)
  | [], found_2 => by unfold z__law_eligible_l1 y__law_eligible_l1; exact (hkn found_2)
  | k_1 :: r_1, found_2 => by unfold z__law_eligible_l1 y__law_eligible_l1; exact (zb zs_ix fun v_1 => (zb zs_eq fun v_2 => (zb (zs_and fun G => (zb zs_ix fun v_3 => (zb (zs_cast rc_I) fun c_1 => zq))) fun v_4 => (zi (zb zs_app fun found_3 => (zs__law_eligible_l1 service_1 Q kn _ hkn r_1 found_3)) (zs__law_eligible_l1 service_1 Q kn _ hkn r_1 found_2)))))
def z__law_eligible (service_1 : Svc) : Option (List Int) := (if (-(2 ^ 62) ≤ (service_1.2.1.length : Int) ∧ (service_1.2.1.length : Int) < 2 ^ 62) then (z__law_eligible_l1 service_1 (fun (found_4 : (List Int)) => some found_4) (rngT 0 (service_1.2.1.length : Int).toNat) []) else none)
theorem zs__law_eligible (service_1 : Svc) : Zs (z__law_eligible service_1 ) (fun Q => y__law_eligible service_1 Q) := fun Q => by unfold z__law_eligible y__law_eligible; exact (zg (zs__law_eligible_l1 service_1 Q (fun (found_4 : (List Int)) => some found_4) _ (fun found_4 => zq) (rngT 0 (service_1.2.1.length : Int).toNat) []))
def z__law_spoilt_j1 (p_1 : Svc) (kind_1 : Int) (at_1 : Int) (bad_4 : Srv) (word_3 : Str) : Option (Svc × Str) := (if (decide (kind_1 = (7 : Int))) = true then (Option.bind (atI p_1.2.1 (0 : Int)) fun v_17 => (if (cutD p_1.2.1 none (some (31 : Int))).length + [v_17].length ≤ sizeLine then some ((p_1.1, ((cutD p_1.2.1 none (some (31 : Int))) ++ [v_17]), p_1.2.2.1, p_1.2.2.2), (Str.ofString "alike")) else none)) else (if (cutD p_1.2.1 none (some at_1)).length + [bad_4].length ≤ sizeLine then (if ((cutD p_1.2.1 none (some at_1)) ++ [bad_4]).length + (cutD p_1.2.1 (some (at_1 + (1 : Int))) none).length ≤ sizeLine then some ((p_1.1, (((cutD p_1.2.1 none (some at_1)) ++ [bad_4]) ++ (cutD p_1.2.1 (some (at_1 + (1 : Int))) none)), p_1.2.2.1, p_1.2.2.2), word_3) else none) else none))
theorem zs__law_spoilt_j1 (p_1 : Svc) (kind_1 : Int) (at_1 : Int) (Q : (Svc × Str) → Prop) (bad_4 : Srv) (word_3 : Str) : Zp Q (z__law_spoilt_j1 p_1 kind_1 at_1 bad_4 word_3 ) (y__law_spoilt_j1 p_1 kind_1 at_1 Q bad_4 word_3 ) := by unfold z__law_spoilt_j1 y__law_spoilt_j1; exact (zi (zb zs_ix fun v_17 => (zg zq)) (zg (zg zq)))
def z_law_j4 (services_4 : (List (Str × (List Srv) × D × D))) (at_1 : Int) (word_1 : Str) (go0 : Option Bool) (rows_2 : (List Svc)) : Option Bool := (Option.bind (if (decide ((rows_2.length : Int) < (17 : Int))) = true then (Option.bind (z_fault_of_services rows_2) fun v_30 => (Option.bind (eqZ ((eO (eT2 PyData.int (eO PyData.str))) v_30) ((eT2 PyData.int PyData.str) (at_1, word_1))) fun v_31 => some (!v_31))) else some false) fun v_32 => (if v_32 = true then some false else (Option.bind (z_fault_of_services (List.map (fun a : (Str × (List Srv) × D × D) => ((PyData.str a.1), a.2.1, a.2.2.1, a.2.2.2)) services_4)) fun v_33 => (if (!v_33.isNone) = true then some false else go0))))
theorem zs_law_j4 (services_4 : (List (Str × (List Srv) × D × D))) (at_1 : Int) (word_1 : Str) (Q : Bool → Prop) (go0 : Option Bool) (ygo0 : Prop) (hgo0 : Zp Q (go0 ) (ygo0 )) (rows_2 : (List Svc)) : Zp Q (z_law_j4 services_4 at_1 word_1 go0 rows_2 ) (y_law_j4 services_4 at_1 word_1 Q ygo0 rows_2 ) := by unfold z_law_j4 y_law_j4; exact (zb (zs_and fun G => (zb (zs_fault_of_services rows_2) fun v_30 => (zb zs_eq fun v_31 => zq))) fun v_32 => (zi zq (zb (zs_fault_of_services (List.map (fun a : (Str × (List Srv) × D × D) => ((PyData.str a.1), a.2.1, a.2.2.1, a.2.2.2)) services_4)) fun v_33 => (zi zq hgo0))))
def z_law_l2 (kn : Option Bool) : List (Str × (List Srv) × D × D) → Option Bool
  | [] => kn
  | service_1 :: r_2 => (Option.bind (z_eligible ((PyData.str service_1.1), service_1.2.1, service_1.2.2.1, service_1.2.2.2)) fun v_14 => (Option.bind (z__law_eligible ((PyData.str service_1.1), service_1.2.1, service_1.2.2.1, service_1.2.2.2)) fun v_15 => (Option.bind (eqZ ((eL PyData.int) v_14) ((eL PyData.int) v_15)) fun v_16 => (if (!v_16) = true then some false else (z_law_l2 kn r_2)))))
theorem zs_law_l2 (Q : Bool → Prop) (kn : Option Bool) (ykn : Prop) (hkn : Zp Q (kn ) (ykn )) : ∀ (xs : List (Str × (List Srv) × D × D)), Zp Q (z_law_l2 kn xs ) (y_law_l2 Q ykn xs )
  | [] => by unfold z_law_l2 y_law_l2; exact hkn
  | service_1 :: r_2 => by unfold z_law_l2 y_law_l2; exact (zb (zs_eligible ((PyData.str service_1.1), service_1.2.1, service_1.2.2.1, service_1.2.2.2)) fun v_14 => (zb (zs__law_eligible ((PyData.str service_1.1), service_1.2.1, service_1.2.2.1, service_1.2.2.2)) fun v_15 => (zb zs_eq fun v_16 => (zi zq (zs_law_l2 Q kn _ hkn r_2)))))
section
variable {P : Program} {w : World} {K : PySem.W.Frag} {mg : Str → Option Value} {base : Heap}
theorem ok_is_number (T : Tx K mg w) : FnOk P w K mg base CX0 1 T.ad_is_number T.fd_is_number ["value"] (spD K (F1 (pr1 eD PyData.bool y_is_number))) := by
  refine T.d_is_number.F.ok x_is_number (fun vs H Q E h => spD_len F1_len h) (fun cdv A outer s H vs Q E hr h => ?_)
  have nd := x_is_number.nd
  refine ⟨_, (pss_one (ps_ret (pe_and (pe_callB call_isi (by rfl) T.b_isinstance (by decide +kernel) (pa_cons (pv 0) (pa_cons (pe_bltn (v := .ty "int") (by rfl) T.b_int (by decide +kernel) rfl) pa_nil))) (pe_one (pe_not (pe_callB call_isi (by rfl) T.b_isinstance (by decide +kernel) (pa_cons (pv 0) (pa_cons (pe_bltn (v := .ty "bool") (by rfl) T.b_bool (by decide +kernel) rfl) pa_nil)))))))), fn_pure ((rs_ret (re_and (re_isi (RfE.b (rn 0))) (re_not (re_isi (RfE.b (rn 0))))))) h (by rw [spD_len F1_len h]; decide) (F1_in fun a0 Qd q => ?_)⟩
  obtain ⟨value_1, G, h_0, q, hQ⟩ := q
  obtain rfl : value_1 = a0 := h_0.symm
  delta y_is_number at q
  exact (s_ret (e := PyData.bool) (w_andP (w_isi (w_name (e := eD) (x := value_1) rfl)) (w_not (w_isi (w_name (e := eD) (x := value_1) rfl)))) hQ q)
theorem ok_within (T : Tx K mg w) : FnOk P w K mg base CX0 1 T.ad_within T.fd_within ["value", "low", "high"] (spD K (F3 (pr3 PyData.int PyData.int PyData.int PyData.bool y_within))) := by
  refine T.d_within.F.ok x_within (fun vs H Q E h => spD_len F3_len h) (fun cdv A outer s H vs Q E hr h => ?_)
  have nd := x_within.nd
  refine ⟨_, (pss_one (ps_ret (pe_chain op_le op_le (pv 1) (pv 0) (pv 2)))), fn_pure ((rs_ret (re_chain rv_le rv_le (RfE.b (rn 1)) (RfE.b (rn 0)) (RfE.b (rn 2))))) h (by rw [spD_len F3_len h]; decide) (F3_in fun a0 a1 a2 Qd q => ?_)⟩
  obtain ⟨value_1, low_1, high_1, G, rfl, rfl, rfl, q, hQ⟩ := q
  delta y_within at q
  exact (s_ret (e := PyData.bool) (w_chainP (r := fun a b => decide (a ≤ b)) (r' := fun a b => decide (a ≤ b)) (w_name (e := PyData.int) (x := low_1) rfl) (w_name (e := PyData.int) (x := value_1) rfl) (w_name (e := PyData.int) (x := high_1) rfl) (fun _ _ _ q => q) (fun _ _ _ q => q)) hQ q)
theorem ok_whole_within (T : Tx K mg w) : FnOk P w K mg base CX0 2 T.ad_whole_within T.fd_whole_within ["value", "low", "high"] (spD K (F3 (pr3 eD PyData.int PyData.int PyData.bool y_whole_within))) := by
  refine T.d_whole_within.F.ok x_whole_within (fun vs H Q E h => spD_len F3_len h) (fun cdv A outer s H vs Q E hr h => ?_)
  have nd := x_whole_within.nd
  refine ⟨_, (pss_one (ps_ret (pe_and (pe_call (ok_is_number T) hr (by rfl) T.d_is_number.g T.d_is_number.F.kp T.d_is_number.b .nil pass0 (pa_cons (pv 0) pa_nil)) (pe_one (pe_chain op_le op_le (pv 1) (pv 0) (pv 2)))))), fn_pure ((rs_ret (re_and (re_call (raC (rn 0) raN)) (re_chain rv_le rv_le (RfE.b (rn 1)) (RfE.b (rn 0)) (RfE.b (rn 2)))))) h (by rw [spD_len F3_len h]; decide) (F3_in fun a0 a1 a2 Qd q => ?_)⟩
  obtain ⟨value_1, low_1, high_1, G, h_0, rfl, rfl, q, hQ⟩ := q
  obtain rfl : value_1 = a0 := h_0.symm
  delta y_whole_within at q
  exact (s_ret (e := PyData.bool) (w_and (w_call1 (w_name (e := eD) (x := value_1) rfl)) (w_chainP (r := fun a b => decide (a ≤ b)) (r' := fun a b => decide (a ≤ b)) (w_name (e := PyData.int) (x := low_1) rfl) (w_cast (e := PyData.int) (w_name (e := eD) (x := value_1) rfl)) (w_name (e := PyData.int) (x := high_1) rfl) (fun _ _ _ q => q) (fun _ _ _ q => q))) hQ q)
theorem ok_first_wrong (T : Tx K mg w) : FnOk P w K mg base CX0 1 T.ad_first_wrong T.fd_first_wrong ["rows"] (spD K (F1 (pr1 (eL (eT2 PyData.str PyData.bool)) (eO PyData.str) y_first_wrong))) := by
  refine T.d_first_wrong.F.ok x_first_wrong (fun vs H Q E h => spD_len F1_len h) (fun cdv A outer s H vs Q E hr h => ?_)
  have nd := x_first_wrong.nd
  refine ⟨_, (pss_cons (ps_for PassesOwn.never rfl (pi_list (pv 0)) (pg_tup (n := 2) rfl (pgs_cons (pg_name (i := 1) nd rfl (Or.inl rfl)) (pgs_cons (pg_name (i := 2) nd rfl (Or.inl rfl)) pgs_nil))) (pss_one (ps_if (pt_not (pt_val (pv 2))) (pss_one (ps_ret (pv 1))) pss_nil)))
        (pss_one (ps_ret pe_non))), fn_pure ((rs_seq (rs_for (ri_list (rn 0)) (rg_tup (rg_cons (rg_name 1) (rg_cons (rg_name 2) rg_nil))) (rs_if (rt_not (rt_val (rn 2))) (rs_ret (rn 1)) rs_next))
        (rs_ret rc_non))) h (by rw [spD_len F1_len h]; decide) (F1_in fun a0 Qd q => ?_)⟩
  obtain ⟨rows_1, G, rfl, q, hQ⟩ := q
  delta y_first_wrong at q
  exact (s_seq0 (s_for2 (e := (eT2 PyData.str PyData.bool)) (fun (xs : List (Str × Bool)) (s_1 : Unit) => y_first_wrong_l1 G (G none) xs) (fun (s_1 : Unit) => (G none)) (fun (s_1 : Unit) (u_7 : Option D × Option D) => [sv ((eL (eT2 PyData.str PyData.bool)) rows_1), (Option.map En.d u_7.1), (Option.map En.d u_7.2)]) () (none, none) rfl (i_list (e := (eT2 PyData.str PyData.bool)) (w_name (e := (eL (eT2 PyData.str PyData.bool))) (x := rows_1) rfl)) (fun s_1 u_7 q => (s_ret (e := (eO PyData.str)) (w_co (e := eN) (e' := (eO PyData.str)) (fun a : Unit => (none : (Option Str))) (w_dC (e := eN) (x := ()) rfl) (fun _ => rfl)) hQ q)) (fun _ q => q) (fun x_1 r_1 s_1 u_7 N_1 B_1 hN_1 hB_1 q => (g_tup (gs_cons (gn (env' := [sv ((eL (eT2 PyData.str PyData.bool)) rows_1), sv (PyData.str x_1.1), (Option.map En.d u_7.2)]) rfl (gs_cons (gn (env' := [sv ((eL (eT2 PyData.str PyData.bool)) rows_1), sv (PyData.str x_1.1), sv (PyData.bool x_1.2)]) rfl (gs_nil (s_if (t_not (t_val (w_name (e := PyData.bool) (x := x_1.2) rfl))) (fun q => (s_ret (e := (eO PyData.str)) (w_co (e := PyData.str) (e' := (eO PyData.str)) (fun a : Str => ((some a) : (Option Str))) (w_name (e := PyData.str) (x := x_1.1) rfl) (fun _ => rfl)) hQ q)) (fun q => (s_next (hN_1 () ((some (PyData.str x_1.1)), (some (PyData.bool x_1.2))) q))) q)))))) rfl)) q))
theorem ok_is_name (T : Tx K mg w) : FnOk P w K mg base CX0 1 T.ad_is_name T.fd_is_name ["name"] (spD K (F1 (pr1 eD PyData.bool y_is_name))) := by
  refine T.d_is_name.F.ok x_is_name (fun vs H Q E h => spD_len F1_len h) (fun cdv A outer s H vs Q E hr h => ?_)
  have nd := x_is_name.nd
  refine ⟨_, (pss_cons (ps_if (PW.pt (pw_or (pt_not (pt_val (pe_callB call_isi (by rfl) T.b_isinstance (by decide +kernel) (pa_cons (pv 0) (pa_cons (pe_bltn (v := .ty "str") (by rfl) T.b_str (by decide +kernel) rfl) pa_nil))))) (pw_or1 (pt_not (pt_chain op_le op_le pe_int (pe_callB call_len_str (by rfl) T.b_len (by decide +kernel) (pa_cons (pv 0) pa_nil)) pe_int))))) (pss_one (ps_ret pe_bl)) pss_nil)
        (pss_one (ps_ret (pe_callB (cr_all rfl) (by rfl) T.b_all (by decide +kernel) (pa_cons (pe_lc (own := [("sign", 1)]) (g := (gName 1)) rfl nd (pi_str (pv 0)) (blkOk_by (own := [("sign", 1)]) (N := Ns_is_name) (sc := defScope s_is_name) (by decide +kernel)) (fun _ _ _ _ _ => (pg_name (i := 1) nd rfl (Or.inl rfl))) (fun _ _ _ _ _ => pts_nil) (fun _ _ _ _ _ => (pe_cmpR op_in_sign (pv 1) (pe_glob (v := .str "abcdefghijklmnopqrstuvwxyz") rfl T.c_LETTERS ⟨_, rfl⟩) (by rfl)))) pa_nil))))), fn_pure ((rs_seq (rs_if (rt_or (rt_not (rt_val (re_isi (RfE.b (rn 0))))) (rt_not (rt_test (re_chain rv_le rv_le (RfE.b (rc_int _)) (RfE.b (re_cb ro_lenS (rbC (RfE.b (rn 0)) rbN))) (RfE.b (rc_int _)))))) (rs_ret (rc_bl _)) rs_next)
        (rs_ret (re_cb ro_all (rbC (RfE.b (RfF.e (rf_lc (ri_str (rn 0)) (rg_name 1) rt_yes (ro rv_inS (RfE.b (rn 1)) (RfE.b (rc_str _)))))) rbN))))) h (by rw [spD_len F1_len h]; decide) (F1_in fun a0 Qd q => ?_)⟩
  obtain ⟨name_1, G, h_0, q, hQ⟩ := q
  obtain rfl : name_1 = a0 := h_0.symm
  delta y_is_name at q
  exact (s_seq0 (s_if (t_or (t_not (t_val (w_isi (w_name (e := eD) (x := name_1) rfl)))) (t_not (t_val (w_chainP (r := fun a b => decide (a ≤ b)) (r' := fun a b => decide (a ≤ b)) (w_dC (e := PyData.int) (x := (1 : Int)) rfl) (w_lenS (w_cast (e := PyData.str) (w_name (e := eD) (x := name_1) rfl))) (w_dC (e := PyData.int) (x := (10 : Int)) rfl) (fun _ _ _ q => q) (fun _ _ _ q => q))))) (fun q => (s_ret (e := PyData.bool) (w_dC (e := PyData.bool) (x := false) rfl) hQ q)) (fun q => (s_next (s_ret (e := PyData.bool) (w_bs (w_list (l_lc (e := PyData.str) (e' := PyData.bool) (B := (fun (sign_3 : Str) (Go : Option Bool → Prop) => ∃ c_7, sign_3 = ⟨#[c_7]⟩ ∧ (Go (some (decide (c_7 ∈ (Str.ofString "abcdefghijklmnopqrstuvwxyz").cps.toList)))))) (i_str (w_cast (e := PyData.str) (w_name (e := eD) (x := name_1) rfl))) rfl (fun sign_3 R Go hR f => (gn (env' := [sv name_1, sv (PyData.str sign_3)]) rfl (b_all (w_inS (w_name (e := PyData.str) (x := sign_3) rfl) (w_dC (e := PyData.str) (x := (Str.ofString "abcdefghijklmnopqrstuvwxyz")) rfl)) hR f)))))) hQ q))) q))
theorem ok_fault_of_server (T : Tx K mg w) : FnOk P w K mg base CX0 3 T.ad_fault_of_server T.fd_fault_of_server ["server", "most"] (spD K (F2 (pr2 eSrv PyData.int (eO PyData.str) y__fault_of_server))) := by
  refine T.d_fault_of_server.F.ok x_fault_of_server (fun vs H Q E h => spD_len F2_len h) (fun cdv A outer s H vs Q E hr h => ?_)
  have nd := x_fault_of_server.nd
  refine ⟨_, (pss_cons (ps_asg (pv 0) (pg_tup (n := 5) rfl (pgs_cons (pg_name (i := 2) nd rfl (Or.inl rfl)) (pgs_cons (pg_name (i := 3) nd rfl (Or.inl rfl)) (pgs_cons (pg_name (i := 3) nd rfl (Or.inl rfl)) (pgs_cons (pg_name (i := 4) nd rfl (Or.inl rfl)) (pgs_cons (pg_name (i := 5) nd rfl (Or.inl rfl)) pgs_nil)))))))
        (pss_one (ps_ret (pe_call (ok_first_wrong T) (hr.mono (by decide)) (by rfl) T.d_first_wrong.g T.d_first_wrong.F.kp T.d_first_wrong.b .nil pass0 (pa_cons (pe_lst (pa_cons (pe_tup (pa_cons pe_str (pa_cons (pe_call (ok_is_name T) (hr.mono (by decide)) (by rfl) T.d_is_name.g T.d_is_name.F.kp T.d_is_name.b .nil pass0 (pa_cons (pv 2) pa_nil)) pa_nil))) (pa_cons (pe_tup (pa_cons pe_str (pa_cons (pe_call (ok_whole_within T) hr (by rfl) T.d_whole_within.g T.d_whole_within.F.kp T.d_whole_within.b .nil pass0 (pa_cons (pv 4) (pa_cons pe_int (pa_cons (pv 1) pa_nil)))) pa_nil))) (pa_cons (pe_tup (pa_cons pe_str (pa_cons (pe_cmpR op_in_seq (pv 5) (pe_glob (v := .ref T.a_HEALTHS) rfl T.c_HEALTHS rfl) (by rfl)) pa_nil))) pa_nil)))) pa_nil))))), fn_pure ((rs_seq (rs_asg (rn 0) (rg_tup (rg_cons (rg_name 2) (rg_cons (rg_name 3) (rg_cons (rg_name 3) (rg_cons (rg_name 4) (rg_cons (rg_name 5) rg_nil)))))))
        (rs_ret (re_call (raC (RfF.e (rf_lst (raC (re_tup (raC (rc_str _) (raC (re_call (raC (rn 2) raN)) raN))) (raC (re_tup (raC (rc_str _) (raC (re_call (raC (rn 4) (raC (rc_int _) (raC (rn 1) raN)))) raN))) (raC (re_tup (raC (rc_str _) (raC (ro (rv_in false) (RfE.b (rn 5)) (RfE.b (rc_tup T.k_HEALTHS T.s_HEALTHS))) raN))) raN))))) raN))))) h (by rw [spD_len F2_len h]; decide) (F2_in fun a0 a1 Qd q => ?_)⟩
  obtain ⟨server_1, most_1, G, rfl, rfl, q, hQ⟩ := q
  delta y__fault_of_server at q
  exact (s_seq0 (s_pat (e := eSrv) (w_name (e := eSrv) (x := server_1) rfl) (fun p_1 q => (g_tup (gs_cons (gn (env' := [sv (eSrv server_1), sv (PyData.int most_1), sv p_1.1, none, none, none]) rfl (gs_cons (gn (env' := [sv (eSrv server_1), sv (PyData.int most_1), sv p_1.1, sv (PyData.int p_1.2.1), none, none]) rfl (gs_cons (gn (env' := [sv (eSrv server_1), sv (PyData.int most_1), sv p_1.1, sv (PyData.int p_1.2.2.1), none, none]) rfl (gs_cons (gn (env' := [sv (eSrv server_1), sv (PyData.int most_1), sv p_1.1, sv (PyData.int p_1.2.2.1), sv p_1.2.2.2.1, none]) rfl (gs_cons (gn (env' := [sv (eSrv server_1), sv (PyData.int most_1), sv p_1.1, sv (PyData.int p_1.2.2.1), sv p_1.2.2.2.1, sv p_1.2.2.2.2]) rfl (gs_nil (s_ret (e := (eO PyData.str)) (w_call1 (w_list (l_cons (e := (eT2 PyData.str PyData.bool)) (w_tup2 (w_dC (e := PyData.str) (x := (Str.ofString "server")) rfl) (w_call1 (w_name (e := eD) (x := p_1.1) rfl))) (l_cons (e := (eT2 PyData.str PyData.bool)) (w_tup2 (w_dC (e := PyData.str) (x := (Str.ofString "weight")) rfl) (w_call3 (w_name (e := eD) (x := p_1.2.2.2.1) rfl) (w_dC (e := PyData.int) (x := (0 : Int)) rfl) (w_name (e := PyData.int) (x := most_1) rfl))) (l_cons (e := (eT2 PyData.str PyData.bool)) (w_tup2 (w_dC (e := PyData.str) (x := (Str.ofString "health")) rfl) (w_inG (e' := PyData.str) (w_name (e := eD) (x := p_1.2.2.2.2) rfl) (w_co (e := (eT3 PyData.str PyData.str PyData.str)) (e' := (eU PyData.str)) (fun a : (Str × Str × Str) => ([a.1, a.2.1, a.2.2] : (List Str))) (w_dC (e := (eT3 PyData.str PyData.str PyData.str)) (x := ((Str.ofString "up"), (Str.ofString "down"), (Str.ofString "draining"))) rfl) (fun _ => rfl)) (fun _ => rfl))) (l_nil (e := (eT2 PyData.str PyData.bool)))))))) hQ q)))))))))))) rfl)) q))
theorem ok_fault_of_service (T : Tx K mg w) : FnOk P w K mg base CX0 4 T.ad_fault_of_service T.fd_fault_of_service ["service", "earlier"] (spD K (F2 (pr2 eSvc (eL eD) (eO PyData.str) y__fault_of_service))) := by
  refine T.d_fault_of_service.F.ok x_fault_of_service (fun vs H Q E h => spD_len F2_len h) (fun cdv A outer s H vs Q E hr h => ?_)
  have nd := x_fault_of_service.nd
  refine ⟨_, (pss_cons (ps_asg (pv 0) (pg_tup (n := 4) rfl (pgs_cons (pg_name (i := 2) nd rfl (Or.inl rfl)) (pgs_cons (pg_name (i := 3) nd rfl (Or.inl rfl)) (pgs_cons (pg_name (i := 4) nd rfl (Or.inl rfl)) (pgs_cons (pg_name (i := 5) nd rfl (Or.inl rfl)) pgs_nil))))))
        (pss_cons (ps_set (i := 6) nd rfl (Or.inl rfl) (pe_call (ok_first_wrong T) (hr.mono (by decide)) (by rfl) T.d_first_wrong.g T.d_first_wrong.F.kp T.d_first_wrong.b .nil pass0 (pa_cons (pe_lst (pa_cons (pe_tup (pa_cons pe_str (pa_cons (pe_call (ok_is_name T) (hr.mono (by decide)) (by rfl) T.d_is_name.g T.d_is_name.F.kp T.d_is_name.b .nil pass0 (pa_cons (pv 2) pa_nil)) pa_nil))) (pa_cons (pe_tup (pa_cons pe_str (pa_cons (pe_cmpR op_notIn_seq (pv 2) (pv 1) (by rfl)) pa_nil))) (pa_cons (pe_tup (pa_cons pe_str (pa_cons (pe_cmpR op_in_seq (pv 4) (pe_tup (pa_cons pe_str (pa_cons pe_str (pa_cons pe_str pa_nil)))) (by rfl)) pa_nil))) (pa_cons (pe_tup (pa_cons pe_str (pa_cons (pe_or (pe_cmpR op_isN (pv 5) pe_non (nomark _)) (pe_one (pe_call (ok_whole_within T) (hr.mono (by decide)) (by rfl) T.d_whole_within.g T.d_whole_within.F.kp T.d_whole_within.b .nil pass0 (pa_cons (pv 5) (pa_cons pe_int (pa_cons (pe_glob (v := .int 1000000) rfl T.c_MOST_HOLD ⟨_, rfl⟩) pa_nil)))))) pa_nil))) (pa_cons (pe_tup (pa_cons pe_str (pa_cons (pe_call (ok_within T) (hr.mono (by decide)) (by rfl) T.d_within.g T.d_within.F.kp T.d_within.b .nil pass0 (pa_cons (pe_callB call_len_seq (by rfl) T.b_len (by decide +kernel) (pa_cons (pv 3) pa_nil)) (pa_cons pe_int (pa_cons (pe_glob (v := .int 32) rfl T.c_MOST_SERVERS ⟨_, rfl⟩) pa_nil)))) pa_nil))) pa_nil)))))) pa_nil)))
        (pss_cons (ps_if (pt_cmpR op_notN (pv 6) pe_non (nomark _)) (pss_one (ps_ret (pv 6))) pss_nil)
        (pss_cons (ps_for PassesOwn.never rfl (pi_tup (pv 3)) (pg_name (i := 7) nd rfl (Or.inl rfl)) (pss_cons (ps_set (i := 6) nd rfl (Or.inl rfl) (pe_call (ok_fault_of_server T) hr (by rfl) T.d_fault_of_server.g T.d_fault_of_server.F.kp T.d_fault_of_server.b .nil pass0 (pa_cons (pv 7) (pa_cons (pe_ix ix_kdict (pe_glob (v := .ref T.a_MOST_WEIGHT) rfl T.g_MOST_WEIGHT rfl) (pv 4) (fun _ _ => rfl)) pa_nil))))
        (pss_one (ps_if (pt_cmpR op_notN (pv 6) pe_non (nomark _)) (pss_one (ps_ret (pv 6))) pss_nil))))
        (pss_cons (ps_setDcX (i := 8) (own := [("server", 7)]) (g := (gName 7)) rfl nd rfl rfl (sw_trueD rfl rfl rfl (by decide +kernel)) (pi_tup (pv 3)) (blkOk_by (own := [("server", 7)]) (N := Ns_fault_of_service) (sc := defScope s_fault_of_service) (by decide +kernel)) (fun _ _ _ _ _ => (pg_name (i := 7) nd rfl (Or.inl rfl))) (fun _ _ _ _ _ => pts_nil) (fun _ _ _ _ _ => (pe_ix (r := rIx K) ix_seq (pv 7) pe_int (fun _ _ => rfl))) (fun _ _ _ _ _ => pe_bl))
        (pss_one (ps_ret (pe_ifExp (pt_cmpR op_eq (pe_callB call_lenD (by rfl) T.b_len (by decide +kernel) (pa_cons (pv 8) pa_nil)) (pe_callB call_len_seq (by rfl) T.b_len (by decide +kernel) (pa_cons (pv 3) pa_nil)) (nomark _)) pe_non pe_str)))))))), fn_pure ((rs_seq (rs_asg (rn 0) (rg_tup (rg_cons (rg_name 2) (rg_cons (rg_name 3) (rg_cons (rg_name 4) (rg_cons (rg_name 5) rg_nil))))))
        (rs_seq (rs_asg (re_call (raC (RfF.e (rf_lst (raC (re_tup (raC (rc_str _) (raC (re_call (raC (rn 2) raN)) raN))) (raC (re_tup (raC (rc_str _) (raC (ro (rv_in true) (RfE.b (rn 2)) (RfE.b (rn 1))) raN))) (raC (re_tup (raC (rc_str _) (raC (ro (rv_in false) (RfE.b (rn 4)) (RfE.b (show RfE _ _ (dC (PyData.tuple [PyData.str "turns", PyData.str "least", PyData.str "marks"])) from re_tup (raC (rc_str _) (raC (rc_str _) (raC (rc_str _) raN)))))) raN))) (raC (re_tup (raC (rc_str _) (raC (re_or (ro rv_isN (RfE.b (rn 5)) (RfE.b rc_non)) (re_call (raC (rn 5) (raC (rc_int _) (raC (rc_int _) raN))))) raN))) (raC (re_tup (raC (rc_str _) (raC (re_call (raC (re_cb ro_len (rbC (RfE.b (rn 3)) rbN)) (raC (rc_int _) (raC (rc_int _) raN)))) raN))) raN))))))) raN)) (rg_name 6))
        (rs_seq (rs_if (rt_test (ro rv_notN (RfE.b (rn 6)) (RfE.b rc_non))) (rs_ret (rn 6)) rs_next)
        (rs_seq (rs_for (ri_tup (rn 3)) (rg_name 7) (rs_seq (rs_asg (re_call (raC (rn 7) (raC (re_kd [("turns", .int 100), ("least", .int 100), ("marks", .int 8)] (by simp only [List.forall_mem_cons]; exact ⟨⟨_, T.d_MOST_WEIGHT_0, .int _⟩, ⟨_, T.d_MOST_WEIGHT_1, .int _⟩, ⟨_, T.d_MOST_WEIGHT_2, .int _⟩, fun _ h => nomatch h⟩) (RfE.b (rn 4))) raN))) (rg_name 6))
        (rs_if (rt_test (ro rv_notN (RfE.b (rn 6)) (RfE.b rc_non))) (rs_ret (rn 6)) rs_next)))
        (rs_seq (rs_asg (RfK.e (rk_dc (ri_tup (rn 3)) (rg_name 7) rt_yes (ro rv_ix (RfE.b (rn 7)) (RfE.b (rc_int _))) (rc_bl _))) (rg_name 8))
        (rs_ret (re_if (rt_test (ro rv_eq (RfE.b (re_cb ro_lenD (rbC (RfE.b (rn 8)) rbN))) (RfE.b (re_cb ro_len (rbC (RfE.b (rn 3)) rbN))))) rc_non (rc_str _))))))))) h (by rw [spD_len F2_len h]; decide) (F2_in fun a0 a1 Qd q => ?_)⟩
  obtain ⟨service_1, earlier_1, G, rfl, rfl, q, hQ⟩ := q
  delta y__fault_of_service at q
  exact (s_seq0 (s_pat (e := eSvc) (w_name (e := eSvc) (x := service_1) rfl) (fun p_1 q => (g_tup (gs_cons (gn (env' := [sv (eSvc service_1), sv ((eL eD) earlier_1), sv p_1.1, none, none, none, none, none, none]) rfl (gs_cons (gn (env' := [sv (eSvc service_1), sv ((eL eD) earlier_1), sv p_1.1, sv ((eU eSrv) p_1.2.1), none, none, none, none, none]) rfl (gs_cons (gn (env' := [sv (eSvc service_1), sv ((eL eD) earlier_1), sv p_1.1, sv ((eU eSrv) p_1.2.1), sv p_1.2.2.1, none, none, none, none]) rfl (gs_cons (gn (env' := [sv (eSvc service_1), sv ((eL eD) earlier_1), sv p_1.1, sv ((eU eSrv) p_1.2.1), sv p_1.2.2.1, sv p_1.2.2.2, none, none, none]) rfl (gs_nil (s_seq0 (s_asg (e := (eO PyData.str)) (w_call1 (w_list (l_cons (e := (eT2 PyData.str PyData.bool)) (w_tup2 (w_dC (e := PyData.str) (x := (Str.ofString "name")) rfl) (w_call1 (w_name (e := eD) (x := p_1.1) rfl))) (l_cons (e := (eT2 PyData.str PyData.bool)) (w_tup2 (w_dC (e := PyData.str) (x := (Str.ofString "twice")) rfl) (w_ninG (e' := eD) (w_name (e := eD) (x := p_1.1) rfl) (w_name (e := (eL eD)) (x := earlier_1) rfl) (fun _ => rfl))) (l_cons (e := (eT2 PyData.str PyData.bool)) (w_tup2 (w_dC (e := PyData.str) (x := (Str.ofString "choice")) rfl) (w_inG (e' := PyData.str) (w_name (e := eD) (x := p_1.2.2.1) rfl) (w_dC (e := (eU PyData.str)) (x := [(Str.ofString "turns"), (Str.ofString "least"), (Str.ofString "marks")]) rfl) (fun _ => rfl))) (l_cons (e := (eT2 PyData.str PyData.bool)) (w_tup2 (w_dC (e := PyData.str) (x := (Str.ofString "hold")) rfl) (w_or (w_isN (r := isNo) (w_name (e := eD) (x := p_1.2.2.2) rfl) (fun _ => rfl)) (w_call3 (w_name (e := eD) (x := p_1.2.2.2) rfl) (w_dC (e := PyData.int) (x := (0 : Int)) rfl) (w_dC (e := PyData.int) (x := (1000000 : Int)) rfl)))) (l_cons (e := (eT2 PyData.str PyData.bool)) (w_tup2 (w_dC (e := PyData.str) (x := (Str.ofString "servers")) rfl) (w_call3 (w_len (e := eSrv) (w_name (e := (eU eSrv)) (x := p_1.2.1) rfl) (fun _ => rfl)) (w_dC (e := PyData.int) (x := (1 : Int)) rfl) (w_dC (e := PyData.int) (x := (32 : Int)) rfl))) (l_nil (e := (eT2 PyData.str PyData.bool)))))))))) (fun word_1 : (Option Str) => [sv (eSvc service_1), sv ((eL eD) earlier_1), sv p_1.1, sv ((eU eSrv) p_1.2.1), sv p_1.2.2.1, sv p_1.2.2.2, sv ((eO PyData.str) word_1), none, none]) (fun _ => rfl) (fun word_1 q => (s_seq0 (s_if (t_val (w_notN (r := fun a : (Option Str) => a.isNone) (w_name (e := (eO PyData.str)) (x := word_1) rfl) (n_O (fun _ => rfl)))) (fun q => (s_ret (e := (eO PyData.str)) (w_name (e := (eO PyData.str)) (x := word_1) rfl) hQ q)) (fun q => (s_next (s_seq0 (s_for2 (e := eSrv) (fun (xs : List Srv) (s_1 : Unit) => y__fault_of_service_l1 p_1 G (dcompT p_1.2.1 (fun (server_2 : Srv) (Go : Option (D × D) → Prop) => castT PyData.str server_2.1 fun c_2 => Go (some (PyData.str c_2, PyData.bool true))) fun names_1 => lenKT names_1 fun v_11 => G (if (decide (v_11 = (p_1.2.1.length : Int))) = true then none else (some (Str.ofString "alike")))) xs) (fun (s_1 : Unit) => (dcompT p_1.2.1 (fun (server_2 : Srv) (Go : Option (D × D) → Prop) => castT PyData.str server_2.1 fun c_2 => Go (some (PyData.str c_2, PyData.bool true))) fun names_1 => lenKT names_1 fun v_11 => G (if (decide (v_11 = (p_1.2.1.length : Int))) = true then none else (some (Str.ofString "alike"))))) (fun (s_1 : Unit) (u_7 : Option D × Option D) => [sv (eSvc service_1), sv ((eL eD) earlier_1), sv p_1.1, sv ((eU eSrv) p_1.2.1), sv p_1.2.2.1, sv p_1.2.2.2, (Option.map En.d u_7.1), (Option.map En.d u_7.2), none]) () ((some ((eO PyData.str) word_1)), none) rfl (i_tup (e := eSrv) (w_name (e := (eU eSrv)) (x := p_1.2.1) rfl)) (fun s_1 u_7 q => (s_seq0 (s_asg (e := eD) (w_dcomp (e := eSrv) (B := (fun (server_2 : Srv) (Go : Option (D × D) → Prop) => castT PyData.str server_2.1 fun c_2 => Go (some (PyData.str c_2, PyData.bool true)))) (i_tup (e := eSrv) (w_name (e := (eU eSrv)) (x := p_1.2.1) rfl)) (by cases u_7.2 <;> rfl) (fun server_2 R Go hR f => (gn (env' := [sv (eSvc service_1), sv ((eL eD) earlier_1), sv p_1.1, sv ((eU eSrv) p_1.2.1), sv p_1.2.2.1, sv p_1.2.2.2, (Option.map En.d u_7.1), sv (eSrv server_2), none]) rfl (bd_all (eK := PyData.str) (eV := PyData.bool) (w_cast (e := PyData.str) (w_prj (e := eSrv) (e' := eD) 0 (fun p : Srv => p.1) (w_name (e := eSrv) (x := server_2) rfl) (fun _ => ⟨_, rfl, dix_nn (by decide) rfl⟩))) (w_dC (e := PyData.bool) (x := true) rfl) (fun _ => rfl) hR f)))) (fun names_1 : D => [sv (eSvc service_1), sv ((eL eD) earlier_1), sv p_1.1, sv ((eU eSrv) p_1.2.1), sv p_1.2.2.1, sv p_1.2.2.2, (Option.map En.d u_7.1), (Option.map En.d u_7.2), sv names_1]) (fun _ => rfl) (fun names_1 q => (s_ret (e := (eO PyData.str)) (w_ifP (t_val (w_eqS (r := fun (a : Int) (b : Int) => decide (a = b)) (w_lenK (w_name (e := eD) (x := names_1) rfl)) (w_len (e := eSrv) (w_name (e := (eU eSrv)) (x := p_1.2.1) rfl) (fun _ => rfl)) r_I)) (w_co (e := eN) (e' := (eO PyData.str)) (fun a : Unit => (none : (Option Str))) (w_dC (e := eN) (x := ()) rfl) (fun _ => rfl)) (w_co (e := PyData.str) (e' := (eO PyData.str)) (fun a : Str => ((some a) : (Option Str))) (w_dC (e := PyData.str) (x := (Str.ofString "alike")) rfl) (fun _ => rfl))) hQ q)) q))) (fun _ q => q) (fun server_1 r_1 s_1 u_7 N_1 B_1 hN_1 hB_1 q => (gn (env' := [sv (eSvc service_1), sv ((eL eD) earlier_1), sv p_1.1, sv ((eU eSrv) p_1.2.1), sv p_1.2.2.1, sv p_1.2.2.2, (Option.map En.d u_7.1), sv (eSrv server_1), none]) rfl (s_seq0 (s_asg (e := (eO PyData.str)) (w_call2 (w_name (e := eSrv) (x := server_1) rfl) (w_kd (e := PyData.int) (tab := [((Str.ofString "turns"), (100 : Int)), ((Str.ofString "least"), (100 : Int)), ((Str.ofString "marks"), (8 : Int))]) (w_cast (e := PyData.str) (w_name (e := eD) (x := p_1.2.2.1) rfl)) rfl)) (fun word_2 : (Option Str) => [sv (eSvc service_1), sv ((eL eD) earlier_1), sv p_1.1, sv ((eU eSrv) p_1.2.1), sv p_1.2.2.1, sv p_1.2.2.2, sv ((eO PyData.str) word_2), sv (eSrv server_1), none]) (fun _ => rfl) (fun word_2 q => (s_if (t_val (w_notN (r := fun a : (Option Str) => a.isNone) (w_name (e := (eO PyData.str)) (x := word_2) rfl) (n_O (fun _ => rfl)))) (fun q => (s_ret (e := (eO PyData.str)) (w_name (e := (eO PyData.str)) (x := word_2) rfl) hQ q)) (fun q => (s_next (hN_1 () ((some ((eO PyData.str) word_2)), (some (eSrv server_1))) q))) q)) q)))) q)))) q))) q))))))))))) rfl)) q))
theorem ok_fault_of_services (T : Tx K mg w) : FnOk P w K mg base CX0 5 T.ad_fault_of_services T.fd_fault_of_services ["services"] (spD K (F1 (pr1 (eU eSvc) (eO (eT2 PyData.int (eO PyData.str))) y_fault_of_services))) := by
  refine T.d_fault_of_services.F.ok x_fault_of_services (fun vs H Q E h => spD_len F1_len h) (fun cdv A outer s H vs Q E hr h => ?_)
  have nd := x_fault_of_services.nd
  refine ⟨_, (pss_cons (ps_if (pt_cmpR op_gt (pe_callB call_len_seq (by rfl) T.b_len (by decide +kernel) (pa_cons (pv 0) pa_nil)) (pe_glob (v := .int 16) rfl T.c_MOST_SERVICES ⟨_, rfl⟩) (nomark _)) (pss_one (ps_ret (pe_tup (pa_cons (pe_glob (v := .int 16) rfl T.c_MOST_SERVICES ⟨_, rfl⟩) (pa_cons pe_str pa_nil))))) pss_nil)
        (pss_cons (ps_for PassesOwn.never rfl (pi_enumT (by rfl) T.b_enumerate (pa_cons (pv 0) pa_nil)) (pg_tup (n := 2) rfl (pgs_cons (pg_name (i := 1) nd rfl (Or.inl rfl)) (pgs_cons (pg_name (i := 2) nd rfl (Or.inl rfl)) pgs_nil))) (pss_cons (ps_set (i := 3) nd rfl (Or.inl rfl) (pe_call (ok_fault_of_service T) hr (by rfl) T.d_fault_of_service.g T.d_fault_of_service.F.kp T.d_fault_of_service.b .nil pass0 (pa_cons (pv 2) (pa_cons (pe_lc (own := [("other", 4)]) (g := (gName 4)) rfl nd (pi_tup (pe_slice sl_tupA (pv 0) po_none (po_some (pv 1)))) (blkOk_by (own := [("other", 4)]) (N := Ns_fault_of_services) (sc := defScope s_fault_of_services) (by decide +kernel)) (fun _ _ _ _ _ => (pg_name (i := 4) nd rfl (Or.inl rfl))) (fun _ _ _ _ _ => pts_nil) (fun _ _ _ _ _ => (pe_ix (r := rIx K) ix_seq (pv 4) pe_int (fun _ _ => rfl)))) pa_nil))))
        (pss_one (ps_if (pt_cmpR op_notN (pv 3) pe_non (nomark _)) (pss_one (ps_ret (pe_tup (pa_cons (pv 1) (pa_cons (pv 3) pa_nil))))) pss_nil))))
        (pss_one (ps_ret pe_non)))), fn_pure ((rs_seq (rs_if (rt_test (ro rv_gt (RfE.b (re_cb ro_len (rbC (RfE.b (rn 0)) rbN))) (RfE.b (rc_int _)))) (rs_ret (re_tup (raC (rc_int _) (raC (rc_str _) raN)))) rs_next)
        (rs_seq (rs_for (ri_enumT (raC (rn 0) raN)) (rg_tup (rg_cons (rg_name 1) (rg_cons (rg_name 2) rg_nil))) (rs_seq (rs_asg (re_call (raC (rn 2) (raC (RfF.e (rf_lc (ri_tup (re_slT (RfE.b (rn 0)) rp_no (rp_some (rn 1)))) (rg_name 4) rt_yes (ro rv_ix (RfE.b (rn 4)) (RfE.b (rc_int _))))) raN))) (rg_name 3))
        (rs_if (rt_test (ro rv_notN (RfE.b (rn 3)) (RfE.b rc_non))) (rs_ret (re_tup (raC (rn 1) (raC (rn 3) raN)))) rs_next)))
        (rs_ret rc_non)))) h (by rw [spD_len F1_len h]; decide) (F1_in fun a0 Qd q => ?_)⟩
  obtain ⟨services_1, G, rfl, q, hQ⟩ := q
  delta y_fault_of_services at q
  exact (s_seq0 (s_if (t_val (w_I0 (g' := fun i j => decide (j < i)) (w_len (e := eSvc) (w_name (e := (eU eSvc)) (x := services_1) rfl) (fun _ => rfl)) (w_dC (e := PyData.int) (x := (16 : Int)) rfl) (fun _ _ => rfl))) (fun q => (s_ret (e := (eO (eT2 PyData.int (eO PyData.str)))) (w_co (e := (eT2 PyData.int PyData.str)) (e' := (eO (eT2 PyData.int (eO PyData.str)))) (fun a : (Int × Str) => ((some (a.1, (some a.2))) : (Option (Int × (Option Str))))) (w_tup2 (w_dC (e := PyData.int) (x := (16 : Int)) rfl) (w_dC (e := PyData.str) (x := (Str.ofString "services")) rfl)) (fun _ => rfl)) hQ q)) (fun q => (s_next (s_seq0 (s_for2 (e := (eT2 PyData.int eSvc)) (fun (xs : List (Int × Svc)) (s_1 : Unit) => y_fault_of_services_l1 services_1 G (G none) xs) (fun (s_1 : Unit) => (G none)) (fun (s_1 : Unit) (u_10 : Option D × Option D × Option D) => [sv ((eU eSvc) services_1), (Option.map En.d u_10.1), (Option.map En.d u_10.2.1), (Option.map En.d u_10.2.2), none]) () (none, none, none) rfl (i_enumU (e := eSvc) (w_name (e := (eU eSvc)) (x := services_1) rfl)) (fun s_1 u_10 q => (s_ret (e := (eO (eT2 PyData.int (eO PyData.str)))) (w_co (e := eN) (e' := (eO (eT2 PyData.int (eO PyData.str)))) (fun a : Unit => (none : (Option (Int × (Option Str))))) (w_dC (e := eN) (x := ()) rfl) (fun _ => rfl)) hQ q)) (fun _ q => q) (fun x_1 r_1 s_1 u_10 N_1 B_1 hN_1 hB_1 q => (g_tup (gs_cons (gn (env' := [sv ((eU eSvc) services_1), sv (PyData.int x_1.1), (Option.map En.d u_10.2.1), (Option.map En.d u_10.2.2), none]) rfl (gs_cons (gn (env' := [sv ((eU eSvc) services_1), sv (PyData.int x_1.1), sv (eSvc x_1.2), (Option.map En.d u_10.2.2), none]) rfl (gs_nil (s_seq0 (s_asg (e := (eO PyData.str)) (w_call2 (w_name (e := eSvc) (x := x_1.2) rfl) (w_list (l_map (e := eSvc) (e' := eD) (f := fun other_1 : Svc => other_1.1) (i_tup (e := eSvc) (w_slU (e := eSvc) (w_name (e := (eU eSvc)) (x := services_1) rfl) o_no (o_some (w_name (e := PyData.int) (x := x_1.1) rfl)))) rfl (fun other_1 R Go hR f => (gn (env' := [sv ((eU eSvc) services_1), sv (PyData.int x_1.1), sv (eSvc x_1.2), (Option.map En.d u_10.2.2), sv (eSvc other_1)]) rfl (b_all (w_prj (e := eSvc) (e' := eD) 0 (fun p : Svc => p.1) (w_name (e := eSvc) (x := other_1) rfl) (fun _ => ⟨_, rfl, dix_nn (by decide) rfl⟩)) hR f)))))) (fun word_1 : (Option Str) => [sv ((eU eSvc) services_1), sv (PyData.int x_1.1), sv (eSvc x_1.2), sv ((eO PyData.str) word_1), none]) (fun _ => rfl) (fun word_1 q => (s_if (t_val (w_notN (r := fun a : (Option Str) => a.isNone) (w_name (e := (eO PyData.str)) (x := word_1) rfl) (n_O (fun _ => rfl)))) (fun q => (s_ret (e := (eO (eT2 PyData.int (eO PyData.str)))) (w_co (e := (eT2 PyData.int (eO PyData.str))) (e' := (eO (eT2 PyData.int (eO PyData.str)))) (fun a : (Int × (Option Str)) => ((some a) : (Option (Int × (Option Str))))) (w_tup2 (w_name (e := PyData.int) (x := x_1.1) rfl) (w_name (e := (eO PyData.str)) (x := word_1) rfl)) (fun _ => rfl)) hQ q)) (fun q => (s_next (hN_1 () ((some (PyData.int x_1.1)), (some (eSvc x_1.2)), (some ((eO PyData.str) word_1))) q))) q)) q))))))) rfl)) q)))) q))
theorem ok_eligible (T : Tx K mg w) : FnOk P w K mg base CX0 1 T.ad_eligible T.fd_eligible ["service"] (spD K (F1 (pr1 eSvc (eL PyData.int) y_eligible))) := by
  refine T.d_eligible.F.ok x_eligible (fun vs H Q E h => spD_len F1_len h) (fun cdv A outer s H vs Q E hr h => ?_)
  have nd := x_eligible.nd
  refine ⟨_, (pss_one (ps_ret (pe_lc (own := [("place", 1), ("server", 2)]) (g := (gTup K 2 (gCons (gName 1) (gCons (gName 2) gNil)))) rfl nd (pi_enumT (by rfl) T.b_enumerate (pa_cons (pe_ix ix_seq (pv 0) pe_int (fun _ _ => rfl)) pa_nil)) (blkOk_by (own := [("place", 1), ("server", 2)]) (N := Ns_eligible) (sc := defScope s_eligible) (by decide +kernel)) (fun _ _ _ _ _ => (pg_tup (n := 2) rfl (pgs_cons (pg_name (i := 1) nd rfl (Or.inl rfl)) (pgs_cons (pg_name (i := 2) nd rfl (Or.inl rfl)) pgs_nil)))) (fun _ _ _ _ _ => pts_one (PW.pt (pw_and (pt_cmpR (op_eqD hr.units) (pe_ix (r := rIx K) ix_seq (pv 2) pe_int (fun _ _ => rfl)) pe_str (nomark _)) (pw_and1 (pt_cmpR op_ge (pe_ix (r := rIx K) ix_seq (pv 2) pe_int (fun _ _ => rfl)) pe_int (nomark _)))))) (fun _ _ _ _ _ => (pv 1))))), fn_pure ((rs_ret (RfF.e (rf_lc (ri_enumT (raC (ro rv_ix (RfE.b (rn 0)) (RfE.b (rc_int _))) raN)) (rg_tup (rg_cons (rg_name 1) (rg_cons (rg_name 2) rg_nil))) (rt_and (rt_test (ro rv_eqD (RfE.b (ro rv_ix (RfE.b (rn 2)) (RfE.b (rc_int _)))) (RfE.b (rc_str _)))) (rt_test (ro rv_ge (RfE.b (ro rv_ix (RfE.b (rn 2)) (RfE.b (rc_int _)))) (RfE.b (rc_int _))))) (rn 1))))) h (by rw [spD_len F1_len h]; decide) (F1_in fun a0 Qd q => ?_)⟩
  obtain ⟨service_1, G, rfl, q, hQ⟩ := q
  delta y_eligible at q
  exact (s_ret (e := (eL PyData.int)) (w_list (l_lc (e := (eT2 PyData.int eSrv)) (e' := PyData.int) (B := (fun (a_3 : (Int × Srv)) (Go : Option Int → Prop) => eqT (eD a_3.2.2.2.2.2) (PyData.str (Str.ofString "up")) fun v_7 => andT v_7 (fun G => castT PyData.int a_3.2.2.2.2.1 fun c_3 => G (decide ((1 : Int) ≤ c_3))) fun v_8 => if v_8 = true then Go (some a_3.1) else Go none)) (i_enumU (e := eSrv) (w_prj (e := eSvc) (e' := (eU eSrv)) 1 (fun p : Svc => p.2.1) (w_name (e := eSvc) (x := service_1) rfl) (fun _ => ⟨_, rfl, dix_nn (by decide) rfl⟩))) rfl (fun a_3 R Go hR f => (g_tup (gs_cons (gn (env' := [sv (eSvc service_1), sv (PyData.int a_3.1), none]) rfl (gs_cons (gn (env' := [sv (eSvc service_1), sv (PyData.int a_3.1), sv (eSrv a_3.2)]) rfl (gs_nil (b_if (t_and (t_val (w_eqD (w_prj (e := eSrv) (e' := eD) 4 (fun p : Srv => p.2.2.2.2) (w_name (e := eSrv) (x := a_3.2) rfl) (fun _ => ⟨_, rfl, dix_nn (by decide) rfl⟩)) (w_dC (e := PyData.str) (x := (Str.ofString "up")) rfl))) (t_val (w_I0 (g' := fun i j => decide (j ≤ i)) (w_cast (e := PyData.int) (w_prj (e := eSrv) (e' := eD) 3 (fun p : Srv => p.2.2.2.1) (w_name (e := eSrv) (x := a_3.2) rfl) (fun _ => ⟨_, rfl, dix_nn (by decide) rfl⟩))) (w_dC (e := PyData.int) (x := (1 : Int)) rfl) (fun _ _ => rfl)))) (w_name (e := PyData.int) (x := a_3.1) rfl) hR f)))))) rfl)))) hQ q)
theorem ok_empty_state (T : Tx K mg w) : FnOk P w K mg base CX0 1 T.ad_empty_state T.fd_empty_state [] (spD K (F0 (pr0 eD y_empty_state))) := by
  refine T.d_empty_state.F.ok x_empty_state (fun vs H Q E h => spD_len F0_len h) (fun cdv A outer s H vs Q E hr h => ?_)
  have nd := x_empty_state.nd
  refine ⟨_, (pss_one (ps_ret (pe_disp (pps_cons pe_str pe_dnewK (pps_cons pe_str pe_dnewK (pps_cons pe_str pe_dnewK (pps_cons pe_str pe_dnewK pps_nil)))) rfl rfl (by intro z; cases z) (by decide)))), fn_pure ((rs_ret (RfK.e (rk_disp (rp_str _ re_dnew (rp_str _ re_dnew (rp_str _ re_dnew (rp_str _ re_dnew rp_nil)))) (by decide +kernel) (by decide))))) h (by rw [spD_len F0_len h]; decide) (F0_in fun  Qd q => ?_)⟩
  obtain ⟨G, q, hQ⟩ := q
  delta y_empty_state at q
  exact (s_ret (e := eD) (w_disp (wp_str w_dnew (wp_str w_dnew (wp_str w_dnew (wp_str w_dnew wp_nil))))) hQ q)
theorem ok_law_server (T : Tx K mg w) : FnOk P w K mg base CX0 2 T.ad_law_server T.fd_law_server ["state", "name", "most"] (spS K (F2 (pr2 PyData.str PyData.int eSrv y__law_server))) := by
  refine T.d_law_server.F.ok x_law_server (fun vs H Q E h => spS_len F2_len h) (fun cdv A outer s H vs Q E hr h => ?_)
  have nd := x_law_server.nd
  refine ⟨_, (pss_cons (ps_set (i := 3) nd rfl (Or.inl rfl) (pe_ix ix_seq (pe_lst (pa_cons pe_str (pa_cons pe_str (pa_cons pe_str (pa_cons pe_str (pa_cons pe_str pa_nil)))))) (pe_call (ok_law_take T) hr (by rfl) T.d_law_take.g T.d_law_take.F.kp T.d_law_take.b .nil pass0 (pa_cons (pv 0) (pa_cons pe_int pa_nil))) (fun _ _ => rfl)))
        (pss_cons (ps_set (i := 4) nd rfl (Or.inl rfl) (pe_ix ix_seq (pe_lst (pa_cons pe_int (pa_cons pe_int (pa_cons (pe_op op_add pe_int (pe_call (ok_law_take T) hr (by rfl) T.d_law_take.g T.d_law_take.F.kp T.d_law_take.b .nil pass0 (pa_cons (pv 0) (pa_cons (pv 2) pa_nil)))) (pa_cons (pv 2) (pa_cons (pe_op op_add pe_int (pe_call (ok_law_take T) hr (by rfl) T.d_law_take.g T.d_law_take.F.kp T.d_law_take.b .nil pass0 (pa_cons (pv 0) (pa_cons pe_int pa_nil)))) pa_nil)))))) (pe_call (ok_law_take T) hr (by rfl) T.d_law_take.g T.d_law_take.F.kp T.d_law_take.b .nil pass0 (pa_cons (pv 0) (pa_cons pe_int pa_nil))) (fun _ _ => rfl)))
        (pss_one (ps_ret (pe_tup (pa_cons (pv 1) (pa_cons (pe_op op_add pe_int (pe_call (ok_law_take T) hr (by rfl) T.d_law_take.g T.d_law_take.F.kp T.d_law_take.b .nil pass0 (pa_cons (pv 0) (pa_cons pe_int pa_nil)))) (pa_cons pe_int (pa_cons (pv 4) (pa_cons (pv 3) pa_nil)))))))))), fn_state ((rs_seq (rs_asg (ro rv_ix (RfE.b (RfF.e (show RfF _ _ (dCL ([PyData.str "up", PyData.str "up", PyData.str "up", PyData.str "down", PyData.str "draining"])) from rf_lst (raC (rc_str _) (raC (rc_str _) (raC (rc_str _) (raC (rc_str _) (raC (rc_str _) raN)))))))) (RfE.b (re_callS (raC (rc_int _) raN)))) (rg_name 3))
        (rs_seq (rs_asg (ro rv_ix (RfE.b (RfF.e (rf_lst (raC (rc_int _) (raC (rc_int _) (raC (ro rv_add (RfE.b (rc_int _)) (RfE.b (re_callS (raC (rn 2) raN)))) (raC (rn 2) (raC (ro rv_add (RfE.b (rc_int _)) (RfE.b (re_callS (raC (rc_int _) raN)))) raN)))))))) (RfE.b (re_callS (raC (rc_int _) raN)))) (rg_name 4))
        (rs_ret (re_tup (raC (rn 1) (raC (ro rv_add (RfE.b (rc_int _)) (RfE.b (re_callS (raC (rc_int _) raN)))) (raC (rc_int _) (raC (rn 4) (raC (rn 3) raN)))))))))) h (by rw [spS_len F2_len h]; decide) (F2_in fun a0 a1 Qd q => ?_)⟩
  obtain ⟨name_1, most_1, G, rfl, rfl, q, hQ⟩ := q
  delta y__law_server at q
  exact (s_seq0 (s_asg (e := PyData.str) (w_ix (e := PyData.str) (w_list (l_dCL (e := PyData.str) (xs := [(Str.ofString "up"), (Str.ofString "up"), (Str.ofString "up"), (Str.ofString "down"), (Str.ofString "draining")]) rfl)) (w_take rfl (w_dC (e := PyData.int) (x := (5 : Int)) rfl)) (fun _ => rfl)) (fun health_1 : Str => [some En.st, sv (PyData.str name_1), sv (PyData.int most_1), sv (PyData.str health_1), none]) (fun _ => rfl) (fun health_1 q => (s_seq0 (s_asg (e := PyData.int) (w_ix (e := PyData.int) (w_list (l_cons (e := PyData.int) (w_dC (e := PyData.int) (x := (0 : Int)) rfl) (l_cons (e := PyData.int) (w_dC (e := PyData.int) (x := (1 : Int)) rfl) (l_cons (e := PyData.int) (w_I0 (g' := fun i j => i + j) (w_dC (e := PyData.int) (x := (1 : Int)) rfl) (w_take rfl (w_name (e := PyData.int) (x := most_1) rfl)) (fun _ _ => rfl)) (l_cons (e := PyData.int) (w_name (e := PyData.int) (x := most_1) rfl) (l_cons (e := PyData.int) (w_I0 (g' := fun i j => i + j) (w_dC (e := PyData.int) (x := (1 : Int)) rfl) (w_take rfl (w_dC (e := PyData.int) (x := (3 : Int)) rfl)) (fun _ _ => rfl)) (l_nil (e := PyData.int)))))))) (w_take rfl (w_dC (e := PyData.int) (x := (5 : Int)) rfl)) (fun _ => rfl)) (fun weight_1 : Int => [some En.st, sv (PyData.str name_1), sv (PyData.int most_1), sv (PyData.str health_1), sv (PyData.int weight_1)]) (fun _ => rfl) (fun weight_1 q => (s_ret (e := eSrv) (w_tup5 (w_co (e := PyData.str) (e' := eD) (fun a : Str => ((PyData.str a) : D)) (w_name (e := PyData.str) (x := name_1) rfl) (fun _ => rfl)) (w_I0 (g' := fun i j => i + j) (w_dC (e := PyData.int) (x := (167772160 : Int)) rfl) (w_take rfl (w_dC (e := PyData.int) (x := (99 : Int)) rfl)) (fun _ _ => rfl)) (w_dC (e := PyData.int) (x := (80 : Int)) rfl) (w_co (e := PyData.int) (e' := eD) (fun a : Int => ((PyData.int a) : D)) (w_name (e := PyData.int) (x := weight_1) rfl) (fun _ => rfl)) (w_co (e := PyData.str) (e' := eD) (fun a : Str => ((PyData.str a) : D)) (w_name (e := PyData.str) (x := health_1) rfl) (fun _ => rfl))) hQ q)) q))) q))
theorem ok_law_service (T : Tx K mg w) : FnOk P w K mg base CX0 3 T.ad_law_service T.fd_law_service ["state", "choice", "hold"] (spS K (F2 (pr2 PyData.str (eO PyData.int) eSvc y__law_service))) := by
  refine T.d_law_service.F.ok x_law_service (fun vs H Q E h => spS_len F2_len h) (fun cdv A outer s H vs Q E hr h => ?_)
  have nd := x_law_service.nd
  refine ⟨_, (pss_cons (ps_set (i := 3) nd rfl (Or.inl rfl) (pe_ifExp (pt_cmpR op_eq (pv 1) pe_str (nomark _)) pe_int pe_int))
        (pss_cons (ps_set (i := 4) nd rfl (Or.inl rfl) (pe_lst (pa_cons pe_str (pa_cons pe_str (pa_cons pe_str (pa_cons pe_str (pa_cons pe_str (pa_cons pe_str (pa_cons pe_str pa_nil)))))))))
        (pss_cons (ps_set (i := 5) nd rfl (Or.inl rfl) (pe_lst pa_nil))
        (pss_cons (ps_for PassesOwn.never rfl (pi_range1 (by rfl) T.b_range (pa_cons (pe_op op_add pe_int (pe_call (ok_law_take T) (hr.mono (by decide)) (by rfl) T.d_law_take.g T.d_law_take.F.kp T.d_law_take.b .nil pass0 (pa_cons (pv 0) (pa_cons pe_int pa_nil)))) pa_nil)) (pg_name (i := 6) nd rfl (Or.inl rfl)) (pss_one (ps_expr (pe_bm PySem.F.plainAttrs_list PySem.F.slot_list_append PySem.F.type_list_append mt_append (pv 5) (pa_cons (pe_call (ok_law_server T) hr (by rfl) T.d_law_server.g T.d_law_server.F.kp T.d_law_server.b .nil pass0 (pa_cons (pv 0) (pa_cons (pe_bm PySem.F.plainAttrs_list PySem.F.slot_list_pop PySem.F.type_list_pop mt_popAt (pv 4) (pa_cons (pe_call (ok_law_take T) (hr.mono (by decide)) (by rfl) T.d_law_take.g T.d_law_take.F.kp T.d_law_take.b .nil pass0 (pa_cons (pv 0) (pa_cons (pe_callB call_len_seq (by rfl) T.b_len (by decide +kernel) (pa_cons (pv 4) pa_nil)) pa_nil))) pa_nil)) (pa_cons (pv 3) pa_nil)))) pa_nil)))))
        (pss_one (ps_ret (pe_tup (pa_cons pe_str (pa_cons (pe_callTy call_tuple_of (by rfl) T.b_tuple (by decide +kernel) (pa_cons (pv 5) pa_nil)) (pa_cons (pv 1) (pa_cons (pv 2) pa_nil))))))))))), fn_state ((rs_seq (rs_asg (re_if (rt_test (ro rv_eq (RfE.b (rn 1)) (RfE.b (rc_str _)))) (rc_int _) (rc_int _)) (rg_name 3))
        (rs_seq (rs_own 4 (show RfF _ _ (dCL ([PyData.str "a", PyData.str "b", PyData.str "c", PyData.str "d", PyData.str "e", PyData.str "web", PyData.str "abcdefghij"])) from rf_lst (raC (rc_str _) (raC (rc_str _) (raC (rc_str _) (raC (rc_str _) (raC (rc_str _) (raC (rc_str _) (raC (rc_str _) raN)))))))))
        (rs_seq (rs_own 5 (show RfF _ _ (dCL ([])) from rf_lst raN))
        (rs_seq (rs_for (ri_r1 (rbC (RfE.b (ro rv_add (RfE.b (rc_int _)) (RfE.b (re_callS (raC (rc_int _) raN))))) rbN)) (rg_name 6) (rs_appX 5 (rx_callS (rxaC (rx_popAt 4 (re_callS (raC (re_cb ro_len (rbC (rnb 4) rbN)) raN))) (rxaC (rx_of (rn 3)) rxaN)))))
        (rs_ret (re_tup (raC (rc_str _) (raC (re_cb ro_tupOf (rbC (rnb 5) rbN)) (raC (rn 1) (raC (rn 2) raN))))))))))) h (by rw [spS_len F2_len h]; decide) (F2_in fun a0 a1 Qd q => ?_)⟩
  obtain ⟨choice_1, hold_1, G, rfl, rfl, q, hQ⟩ := q
  delta y__law_service at q
  exact (s_seq0 (s_asg (e := PyData.int) (w_ifP (t_val (w_eqS (r := fun (a : Str) (b : Str) => decide (a = b)) (w_name (e := PyData.str) (x := choice_1) rfl) (w_dC (e := PyData.str) (x := (Str.ofString "marks")) rfl) r_S)) (w_dC (e := PyData.int) (x := (8 : Int)) rfl) (w_dC (e := PyData.int) (x := (100 : Int)) rfl)) (fun most_1 : Int => [some En.st, sv (PyData.str choice_1), sv ((eO PyData.int) hold_1), sv (PyData.int most_1), none, none, none]) (fun _ => rfl) (fun most_1 q => (s_seq0 (s_own (e := PyData.str) (l_dCL (e := PyData.str) (xs := [(Str.ofString "a"), (Str.ofString "b"), (Str.ofString "c"), (Str.ofString "d"), (Str.ofString "e"), (Str.ofString "web"), (Str.ofString "abcdefghij")]) rfl) rfl (fun names_1 => [some En.st, sv (PyData.str choice_1), sv ((eO PyData.int) hold_1), sv (PyData.int most_1), so (List.map PyData.str names_1), none, none]) (fun _ => rfl) (fun names_1 q => (s_seq0 (s_own0 rfl (env' := [some En.st, sv (PyData.str choice_1), sv ((eO PyData.int) hold_1), sv (PyData.int most_1), so (List.map PyData.str names_1), so (List.map eSrv ([] : List Srv)), none]) rfl (fun q => (s_seq0 (s_for2 (e := PyData.int) (fun (xs : List Int) (s_1 : (List Str) × (List Srv)) => y__law_service_l1 most_1 G (fun (names_5 : (List Str)) (servers_4 : (List Srv)) => G ((PyData.str (Str.ofString "s")), servers_4, (PyData.str choice_1), ((eO PyData.int) hold_1))) xs s_1.1 s_1.2) (fun (s_1 : (List Str) × (List Srv)) => (fun (names_5 : (List Str)) (servers_4 : (List Srv)) => G ((PyData.str (Str.ofString "s")), servers_4, (PyData.str choice_1), ((eO PyData.int) hold_1))) s_1.1 s_1.2) (fun (s_1 : (List Str) × (List Srv)) (u_4 : Option D) => [some En.st, sv (PyData.str choice_1), sv ((eO PyData.int) hold_1), sv (PyData.int most_1), so (List.map PyData.str s_1.1), so (List.map eSrv s_1.2), (Option.map En.d u_4)]) (names_1, ([] : List Srv)) none rfl (i_r1 (w_I0 (g' := fun i j => i + j) (w_dC (e := PyData.int) (x := (1 : Int)) rfl) (w_take rfl (w_dC (e := PyData.int) (x := (7 : Int)) rfl)) (fun _ _ => rfl))) (fun s_1 u_4 q => (s_ret (e := eSvc) (w_tup4 (w_co (e := PyData.str) (e' := eD) (fun a : Str => ((PyData.str a) : D)) (w_dC (e := PyData.str) (x := (Str.ofString "s")) rfl) (fun _ => rfl)) (w_tupOf (e := eSrv) (w_nameO (e := eSrv) (x := s_1.2) rfl) (fun _ => rfl)) (w_co (e := PyData.str) (e' := eD) (fun a : Str => ((PyData.str a) : D)) (w_name (e := PyData.str) (x := choice_1) rfl) (fun _ => rfl)) (w_co (e := (eO PyData.int)) (e' := eD) (fun a : (Option Int) => (((eO PyData.int) a) : D)) (w_name (e := (eO PyData.int)) (x := hold_1) rfl) (fun _ => rfl))) hQ q)) (fun _ q => q) (fun k_1 r_1 s_1 u_4 N_1 B_1 hN_1 hB_1 q => (gn (env' := [some En.st, sv (PyData.str choice_1), sv ((eO PyData.int) hold_1), sv (PyData.int most_1), so (List.map PyData.str s_1.1), so (List.map eSrv s_1.2), sv (PyData.int k_1)]) rfl (s_appX2 (xs := s_1.2) (ys := s_1.1) (er := eSrv) (e0 := PyData.str) rfl rfl rfl (w_take rfl (w_len (e := PyData.str) (w_nameO (e := PyData.str) (x := s_1.1) rfl) (fun _ => rfl))) (fun names_4 => [some En.st, sv (PyData.str choice_1), sv ((eO PyData.int) hold_1), sv (PyData.int most_1), so (List.map PyData.str names_4), so (List.map eSrv s_1.2), sv (PyData.int k_1)]) (fun _ => rfl) (fun names_4 => (w_name (e := PyData.int) (x := most_1) rfl)) (fun _ => rfl) (fun names_4 servers_3 => [some En.st, sv (PyData.str choice_1), sv ((eO PyData.int) hold_1), sv (PyData.int most_1), so (List.map PyData.str names_4), so (List.map eSrv servers_3), sv (PyData.int k_1)]) (fun _ _ => rfl) (fun names_4 servers_3 q => (hN_1 (names_4, servers_3) (some (PyData.int k_1)) q)) q))) q))) q))) q))) q))
theorem ok_law_eligible (T : Tx K mg w) : FnOk P w K mg base CX0 1 T.ad_law_eligible T.fd_law_eligible ["service"] (spD K (F1 (pr1 eSvc (eL PyData.int) y__law_eligible))) := by
  refine T.d_law_eligible.F.ok x_law_eligible (fun vs H Q E h => spD_len F1_len h) (fun cdv A outer s H vs Q E hr h => ?_)
  have nd := x_law_eligible.nd
  refine ⟨_, (pss_cons (ps_set (i := 1) nd rfl (Or.inl rfl) (pe_lst pa_nil))
        (pss_cons (ps_for PassesOwn.never rfl (pi_range1 (by rfl) T.b_range (pa_cons (pe_callB call_len_seq (by rfl) T.b_len (by decide +kernel) (pa_cons (pe_ix ix_seq (pv 0) pe_int (fun _ _ => rfl)) pa_nil)) pa_nil)) (pg_name (i := 2) nd rfl (Or.inl rfl)) (pss_one (ps_if (PW.pt (pw_and (pt_cmpR (op_eqD hr.units) (pe_ix ix_seq (pe_ix ix_seq (pe_ix ix_seq (pv 0) pe_int (fun _ _ => rfl)) (pv 2) (fun _ _ => rfl)) pe_int (fun _ _ => rfl)) pe_str (nomark _)) (pw_and1 (pt_cmpR op_ge (pe_ix ix_seq (pe_ix ix_seq (pe_ix ix_seq (pv 0) pe_int (fun _ _ => rfl)) (pv 2) (fun _ _ => rfl)) pe_int (fun _ _ => rfl)) pe_int (nomark _))))) (pss_one (ps_expr (pe_bm PySem.F.plainAttrs_list PySem.F.slot_list_append PySem.F.type_list_append mt_append (pv 1) (pa_cons (pv 2) pa_nil)))) pss_nil)))
        (pss_one (ps_ret (pv 1))))), fn_pure ((rs_seq (rs_own 1 (show RfF _ _ (dCL ([])) from rf_lst raN))
        (rs_seq (rs_for (ri_r1 (rbC (RfE.b (re_cb ro_len (rbC (RfE.b (ro rv_ix (RfE.b (rn 0)) (RfE.b (rc_int _)))) rbN))) rbN)) (rg_name 2) (rs_if (rt_and (rt_test (ro rv_eqD (RfE.b (ro rv_ix (RfE.b (ro rv_ix (RfE.b (ro rv_ix (RfE.b (rn 0)) (RfE.b (rc_int _)))) (RfE.b (rn 2)))) (RfE.b (rc_int _)))) (RfE.b (rc_str _)))) (rt_test (ro rv_ge (RfE.b (ro rv_ix (RfE.b (ro rv_ix (RfE.b (ro rv_ix (RfE.b (rn 0)) (RfE.b (rc_int _)))) (RfE.b (rn 2)))) (RfE.b (rc_int _)))) (RfE.b (rc_int _))))) (rs_app 1 (rn 2)) rs_next))
        (rs_frz 1 (rs_ret (rn 1)))))) h (by rw [spD_len F1_len h]; decide) (F1_in fun a0 Qd q => ?_)⟩
  obtain ⟨service_1, G, rfl, q, hQ⟩ := q
  delta y__law_eligible at q
  exact (s_seq0 (s_own0 rfl (env' := [sv (eSvc service_1), so (List.map PyData.int ([] : List Int)), none]) rfl (fun q => (s_seq0 (s_for2 (e := PyData.int) (fun (xs : List Int) (s_1 : (List Int)) => y__law_eligible_l1 service_1 G (fun (found_4 : (List Int)) => G found_4) xs s_1) (fun (s_1 : (List Int)) => (fun (found_4 : (List Int)) => G found_4) s_1) (fun (s_1 : (List Int)) (u_4 : Option D) => [sv (eSvc service_1), so (List.map PyData.int s_1), (Option.map En.d u_4)]) ([] : List Int) none rfl (i_r1 (w_len (e := eSrv) (w_prj (e := eSvc) (e' := (eU eSrv)) 1 (fun p : Svc => p.2.1) (w_name (e := eSvc) (x := service_1) rfl) (fun _ => ⟨_, rfl, dix_nn (by decide) rfl⟩)) (fun _ => rfl))) (fun s_1 u_4 q => (s_frz0 (env' := [sv (eSvc service_1), sv ((eL PyData.int) s_1), (Option.map En.d u_4)]) rfl (s_ret (e := (eL PyData.int)) (w_name (e := (eL PyData.int)) (x := s_1) rfl) hQ q))) (fun _ q => q) (fun k_1 r_1 s_1 u_4 N_1 B_1 hN_1 hB_1 q => (gn (env' := [sv (eSvc service_1), so (List.map PyData.int s_1), sv (PyData.int k_1)]) rfl (s_if (t_and (t_val (w_eqD (w_prj (e := eSrv) (e' := eD) 4 (fun p : Srv => p.2.2.2.2) (w_ix (e := eSrv) (w_prj (e := eSvc) (e' := (eU eSrv)) 1 (fun p : Svc => p.2.1) (w_name (e := eSvc) (x := service_1) rfl) (fun _ => ⟨_, rfl, dix_nn (by decide) rfl⟩)) (w_name (e := PyData.int) (x := k_1) rfl) (fun _ => rfl)) (fun _ => ⟨_, rfl, dix_nn (by decide) rfl⟩)) (w_dC (e := PyData.str) (x := (Str.ofString "up")) rfl))) (t_val (w_I0 (g' := fun i j => decide (j ≤ i)) (w_cast (e := PyData.int) (w_prj (e := eSrv) (e' := eD) 3 (fun p : Srv => p.2.2.2.1) (w_ix (e := eSrv) (w_prj (e := eSvc) (e' := (eU eSrv)) 1 (fun p : Svc => p.2.1) (w_name (e := eSvc) (x := service_1) rfl) (fun _ => ⟨_, rfl, dix_nn (by decide) rfl⟩)) (w_name (e := PyData.int) (x := k_1) rfl) (fun _ => rfl)) (fun _ => ⟨_, rfl, dix_nn (by decide) rfl⟩))) (w_dC (e := PyData.int) (x := (1 : Int)) rfl) (fun _ _ => rfl)))) (fun q => (s_app (xs := s_1) (e := PyData.int) rfl (w_name (e := PyData.int) (x := k_1) rfl) (fun found_3 => [sv (eSvc service_1), so (List.map PyData.int found_3), sv (PyData.int k_1)]) (fun _ => rfl) (fun found_3 q => (hN_1 found_3 (some (PyData.int k_1)) q)) q)) (fun q => (s_next (hN_1 s_1 (some (PyData.int k_1)) q))) q))) q))) q))
theorem ok_law_many (T : Tx K mg w) : FnOk P w K mg base CX0 2 T.ad_law_many T.fd_law_many ["state", "count"] (spS K (F1 (pr1 PyData.int (eU eSrv) y__law_many))) := by
  refine T.d_law_many.F.ok x_law_many (fun vs H Q E h => spS_len F1_len h) (fun cdv A outer s H vs Q E hr h => ?_)
  have nd := x_law_many.nd
  refine ⟨_, (pss_cons (ps_set (i := 2) nd rfl (Or.inl rfl) (pe_lst pa_nil))
        (pss_cons (ps_for PassesOwn.never rfl (pi_range1 (by rfl) T.b_range (pa_cons (pv 1) pa_nil)) (pg_name (i := 3) nd rfl (Or.inl rfl)) (pss_cons (ps_set (i := 4) nd rfl (Or.inl rfl) (pe_op op_mulS (pe_ix ix_str pe_str (pe_op op_mod (pe_callTy call_int1 (by rfl) T.b_int (by decide +kernel) (pa_cons (pv 3) pa_nil)) pe_int) (fun _ _ => rfl)) (pe_op op_add pe_int (pe_op op_fdiv (pv 3) pe_int))))
        (pss_one (ps_expr (pe_bm PySem.F.plainAttrs_list PySem.F.slot_list_append PySem.F.type_list_append mt_append (pv 2) (pa_cons (pe_tup (pa_cons (pv 4) (pa_cons pe_int (pa_cons pe_int (pa_cons (pe_op op_add pe_int (pe_op op_mod (pe_callTy call_int1 (by rfl) T.b_int (by decide +kernel) (pa_cons (pv 3) pa_nil)) pe_int)) (pa_cons (pe_ix ix_seq (pe_lst (pa_cons pe_str (pa_cons pe_str pa_nil))) (pe_call (ok_law_take T) hr (by rfl) T.d_law_take.g T.d_law_take.F.kp T.d_law_take.b .nil pass0 (pa_cons (pv 0) (pa_cons pe_int pa_nil))) (fun _ _ => rfl)) pa_nil)))))) pa_nil))))))
        (pss_one (ps_ret (pe_callTy call_tuple_of (by rfl) T.b_tuple (by decide +kernel) (pa_cons (pv 2) pa_nil)))))), fn_state ((rs_seq (rs_own 2 (show RfF _ _ (dCL ([])) from rf_lst raN))
        (rs_seq (rs_for (ri_r1 (rbC (RfE.b (rn 1)) rbN)) (rg_name 3) (rs_seq (rs_asg (ro rv_mulS (RfE.b (ro rv_ixS (RfE.b (rc_str _)) (RfE.b (ro rv_mod (RfE.b (re_cb ro_int (rbC (RfE.b (rn 3)) rbN))) (RfE.b (rc_int _)))))) (RfE.b (ro rv_add (RfE.b (rc_int _)) (RfE.b (ro rv_fdiv (RfE.b (rn 3)) (RfE.b (rc_int _))))))) (rg_name 4))
        (rs_app 2 (re_tup (raC (rn 4) (raC (rc_int _) (raC (rc_int _) (raC (ro rv_add (RfE.b (rc_int _)) (RfE.b (ro rv_mod (RfE.b (re_cb ro_int (rbC (RfE.b (rn 3)) rbN))) (RfE.b (rc_int _))))) (raC (ro rv_ix (RfE.b (RfF.e (show RfF _ _ (dCL ([PyData.str "up", PyData.str "down"])) from rf_lst (raC (rc_str _) (raC (rc_str _) raN))))) (RfE.b (re_callS (raC (rc_int _) raN)))) raN)))))))))
        (rs_ret (re_cb ro_tupOf (rbC (rnb 2) rbN)))))) h (by rw [spS_len F1_len h]; decide) (F1_in fun a0 Qd q => ?_)⟩
  obtain ⟨count_1, G, rfl, q, hQ⟩ := q
  delta y__law_many at q
  exact (s_seq0 (s_own0 rfl (env' := [some En.st, sv (PyData.int count_1), so (List.map (eT5 PyData.str PyData.int PyData.int PyData.int PyData.str) ([] : List (Str × Int × Int × Int × Str))), none, none]) rfl (fun q => (s_seq0 (s_for2 (e := PyData.int) (fun (xs : List Int) (s_1 : (List (Str × Int × Int × Int × Str))) => y__law_many_l1 G (fun (found_4 : (List (Str × Int × Int × Int × Str))) => G (List.map (fun a : (Str × Int × Int × Int × Str) => ((PyData.str a.1), a.2.1, a.2.2.1, (PyData.int a.2.2.2.1), (PyData.str a.2.2.2.2))) found_4)) xs s_1) (fun (s_1 : (List (Str × Int × Int × Int × Str))) => (fun (found_4 : (List (Str × Int × Int × Int × Str))) => G (List.map (fun a : (Str × Int × Int × Int × Str) => ((PyData.str a.1), a.2.1, a.2.2.1, (PyData.int a.2.2.2.1), (PyData.str a.2.2.2.2))) found_4)) s_1) (fun (s_1 : (List (Str × Int × Int × Int × Str))) (u_7 : Option D × Option D) => [some En.st, sv (PyData.int count_1), so (List.map (eT5 PyData.str PyData.int PyData.int PyData.int PyData.str) s_1), (Option.map En.d u_7.1), (Option.map En.d u_7.2)]) ([] : (List (Str × Int × Int × Int × Str))) (none, none) rfl (i_r1 (w_name (e := PyData.int) (x := count_1) rfl)) (fun s_1 u_7 q => (s_ret (e := (eU eSrv)) (w_tupOf (e := eSrv) (w_co (e := (eL (eT5 PyData.str PyData.int PyData.int PyData.int PyData.str))) (e' := (eL eSrv)) (fun a : (List (Str × Int × Int × Int × Str)) => ((List.map (fun a : (Str × Int × Int × Int × Str) => ((PyData.str a.1), a.2.1, a.2.2.1, (PyData.int a.2.2.2.1), (PyData.str a.2.2.2.2))) a) : (List Srv))) (w_nameO (e := (eT5 PyData.str PyData.int PyData.int PyData.int PyData.str)) (x := s_1) rfl) (co_L (fun a : (Str × Int × Int × Int × Str) => ((PyData.str a.1), a.2.1, a.2.2.1, (PyData.int a.2.2.2.1), (PyData.str a.2.2.2.2))) (fun _ => rfl))) (fun _ => rfl)) hQ q)) (fun _ q => q) (fun k_1 r_1 s_1 u_7 N_1 B_1 hN_1 hB_1 q => (gn (env' := [some En.st, sv (PyData.int count_1), so (List.map (eT5 PyData.str PyData.int PyData.int PyData.int PyData.str) s_1), sv (PyData.int k_1), (Option.map En.d u_7.2)]) rfl (s_seq0 (s_asg (e := PyData.str) (w_mulS (w_ixS (w_dC (e := PyData.str) (x := (Str.ofString "abcdefghijklmnopqrstuvwxyz")) rfl) (w_I (g' := fun i j => i % j) (w_int (w_name (e := PyData.int) (x := k_1) rfl)) (w_dC (e := PyData.int) (x := (26 : Int)) rfl) (fun _ _ => rfl))) (w_I0 (g' := fun i j => i + j) (w_dC (e := PyData.int) (x := (1 : Int)) rfl) (w_I (g' := fun i j => i / j) (w_name (e := PyData.int) (x := k_1) rfl) (w_dC (e := PyData.int) (x := (26 : Int)) rfl) (fun _ _ => rfl)) (fun _ _ => rfl))) (fun name_1 : Str => [some En.st, sv (PyData.int count_1), so (List.map (eT5 PyData.str PyData.int PyData.int PyData.int PyData.str) s_1), sv (PyData.int k_1), sv (PyData.str name_1)]) (fun _ => rfl) (fun name_1 q => (s_app (xs := s_1) (e := (eT5 PyData.str PyData.int PyData.int PyData.int PyData.str)) rfl (w_tup5 (w_name (e := PyData.str) (x := name_1) rfl) (w_dC (e := PyData.int) (x := (1 : Int)) rfl) (w_dC (e := PyData.int) (x := (80 : Int)) rfl) (w_I0 (g' := fun i j => i + j) (w_dC (e := PyData.int) (x := (1 : Int)) rfl) (w_I (g' := fun i j => i % j) (w_int (w_name (e := PyData.int) (x := k_1) rfl)) (w_dC (e := PyData.int) (x := (8 : Int)) rfl) (fun _ _ => rfl)) (fun _ _ => rfl)) (w_ix (e := PyData.str) (w_list (l_dCL (e := PyData.str) (xs := [(Str.ofString "up"), (Str.ofString "down")]) rfl)) (w_take rfl (w_dC (e := PyData.int) (x := (2 : Int)) rfl)) (fun _ => rfl))) (fun found_3 => [some En.st, sv (PyData.int count_1), so (List.map (eT5 PyData.str PyData.int PyData.int PyData.int PyData.str) found_3), sv (PyData.int k_1), sv (PyData.str name_1)]) (fun _ => rfl) (fun found_3 q => (hN_1 found_3 ((some (PyData.int k_1)), (some (PyData.str name_1))) q)) q)) q)))) q))) q))
theorem ok_law_spoilt (T : Tx K mg w) : FnOk P w K mg base CX0 3 T.ad_law_spoilt T.fd_law_spoilt ["state", "service"] (spS K (F1 (pr1 eSvc (eT2 eSvc PyData.str) y__law_spoilt))) := by
  refine T.d_law_spoilt.F.ok x_law_spoilt (fun vs H Q E h => spS_len F1_len h) (fun cdv A outer s H vs Q E hr h => ?_)
  have nd := x_law_spoilt.nd
  refine ⟨_, (pss_cons (ps_asg (pv 1) (pg_tup (n := 4) rfl (pgs_cons (pg_name (i := 2) nd rfl (Or.inl rfl)) (pgs_cons (pg_name (i := 3) nd rfl (Or.inl rfl)) (pgs_cons (pg_name (i := 4) nd rfl (Or.inl rfl)) (pgs_cons (pg_name (i := 5) nd rfl (Or.inl rfl)) pgs_nil))))))
        (pss_cons (ps_set (i := 6) nd rfl (Or.inl rfl) (pe_ifExp (pt_cmpR op_eq (pe_call (ok_law_take T) (hr.mono (by decide)) (by rfl) T.d_law_take.g T.d_law_take.F.kp T.d_law_take.b .nil pass0 (pa_cons (pv 0) (pa_cons pe_int pa_nil))) pe_int (nomark _)) pe_str (pv 4)))
        (pss_cons (ps_set (i := 7) nd rfl (Or.inl rfl) (pe_call (ok_law_take T) (hr.mono (by decide)) (by rfl) T.d_law_take.g T.d_law_take.F.kp T.d_law_take.b .nil pass0 (pa_cons (pv 0) (pa_cons pe_int pa_nil))))
        (pss_cons (ps_set (i := 8) nd rfl (Or.inl rfl) (pe_call (ok_law_take T) (hr.mono (by decide)) (by rfl) T.d_law_take.g T.d_law_take.F.kp T.d_law_take.b .nil pass0 (pa_cons (pv 0) (pa_cons (pe_callB call_len_seq (by rfl) T.b_len (by decide +kernel) (pa_cons (pv 3) pa_nil)) pa_nil))))
        (pss_cons (ps_set (i := 9) nd rfl (Or.inl rfl) (pe_ix ix_seq (pv 3) (pv 8) (fun _ _ => rfl)))
        (pss_cons (ps_if (pt_cmpR op_eq (pv 7) pe_int (nomark _)) (pss_one (ps_ret (pe_tup (pa_cons (pe_tup (pa_cons (pe_ix ix_seq (pe_lst (pa_cons pe_str (pa_cons pe_str (pa_cons pe_str (pa_cons pe_int (pa_cons pe_non pa_nil)))))) (pe_call (ok_law_take T) (hr.mono (by decide)) (by rfl) T.d_law_take.g T.d_law_take.F.kp T.d_law_take.b .nil pass0 (pa_cons (pv 0) (pa_cons pe_int pa_nil))) (fun _ _ => rfl)) (pa_cons (pv 3) (pa_cons (pv 6) (pa_cons (pv 5) pa_nil))))) (pa_cons pe_str pa_nil))))) pss_nil)
        (pss_cons (ps_if (pt_cmpR op_eq (pv 7) pe_int (nomark _)) (pss_one (ps_ret (pe_tup (pa_cons (pe_tup (pa_cons (pv 2) (pa_cons (pv 3) (pa_cons (pe_ix ix_seq (pe_lst (pa_cons pe_str (pa_cons pe_str (pa_cons pe_non (pa_cons pe_str pa_nil))))) (pe_call (ok_law_take T) (hr.mono (by decide)) (by rfl) T.d_law_take.g T.d_law_take.F.kp T.d_law_take.b .nil pass0 (pa_cons (pv 0) (pa_cons pe_int pa_nil))) (fun _ _ => rfl)) (pa_cons (pe_ifExp (pt_cmpR (op_eqD hr.units) (pv 6) pe_str (nomark _)) (pe_un un_neg pe_int) (pv 5)) pa_nil))))) (pa_cons pe_str pa_nil))))) pss_nil)
        (pss_cons (ps_if (pt_cmpR op_eq (pv 7) pe_int (nomark _)) (pss_one (ps_ret (pe_tup (pa_cons (pe_tup (pa_cons (pv 2) (pa_cons (pe_ifExp (pt_cmpR (op_eqD hr.units) (pv 6) pe_str (nomark _)) (pe_tup pa_nil) (pv 3)) (pa_cons (pv 4) (pa_cons (pe_ix ix_seq (pe_lst (pa_cons (pe_un un_neg pe_int) (pa_cons pe_int (pa_cons pe_bl (pa_cons pe_str pa_nil))))) (pe_call (ok_law_take T) (hr.mono (by decide)) (by rfl) T.d_law_take.g T.d_law_take.F.kp T.d_law_take.b .nil pass0 (pa_cons (pv 0) (pa_cons pe_int pa_nil))) (fun _ _ => rfl)) pa_nil))))) (pa_cons pe_str pa_nil))))) pss_nil)
        (pss_cons (ps_if (pt_cmpR op_eq (pv 7) pe_int (nomark _)) (pss_one (ps_ret (pe_tup (pa_cons (pe_tup (pa_cons (pv 2) (pa_cons (pe_ix ix_seq (pe_lst (pa_cons (pe_tup pa_nil) (pa_cons (pe_call (ok_law_many T) hr (by rfl) T.d_law_many.g T.d_law_many.F.kp T.d_law_many.b .nil pass0 (pa_cons (pv 0) (pa_cons pe_int pa_nil))) pa_nil))) (pe_call (ok_law_take T) (hr.mono (by decide)) (by rfl) T.d_law_take.g T.d_law_take.F.kp T.d_law_take.b .nil pass0 (pa_cons (pv 0) (pa_cons pe_int pa_nil))) (fun _ _ => rfl)) (pa_cons (pv 4) (pa_cons (pv 5) pa_nil))))) (pa_cons pe_str pa_nil))))) pss_nil)
        (pss_cons (ps_par (i := 10) (j := 11) (by rfl) nd rfl rfl (by decide) rfl rfl (pa_cons (pv 9) (pa_cons pe_str pa_nil)) (by rfl))
        (pss_cons (ps_if (pt_cmpR op_eq (pv 7) pe_int (nomark _)) (pss_one (ps_set (i := 10) nd rfl (Or.inl rfl) (pe_tup (pa_cons (pe_ix ix_seq (pe_lst (pa_cons pe_str (pa_cons pe_str (pa_cons pe_non pa_nil)))) (pe_call (ok_law_take T) (hr.mono (by decide)) (by rfl) T.d_law_take.g T.d_law_take.F.kp T.d_law_take.b .nil pass0 (pa_cons (pv 0) (pa_cons pe_int pa_nil))) (fun _ _ => rfl)) (pa_cons (pe_ix ix_seq (pv 9) pe_int (fun _ _ => rfl)) (pa_cons (pe_ix ix_seq (pv 9) pe_int (fun _ _ => rfl)) (pa_cons (pe_ifExp (pt_cmpR (op_eqD hr.units) (pv 6) pe_str (nomark _)) (pe_un un_neg pe_int) (pe_ix ix_seq (pv 9) pe_int (fun _ _ => rfl))) (pa_cons (pe_ix ix_seq (pv 9) pe_int (fun _ _ => rfl)) pa_nil)))))))) pss_nil)
        (pss_cons (ps_if (pt_cmpR op_eq (pv 7) pe_int (nomark _)) (pss_cons (ps_set (i := 12) nd rfl (Or.inl rfl) (pe_ifExp (pt_cmpR (op_eqD hr.units) (pv 4) pe_str (nomark _)) pe_int pe_int))
        (pss_one (ps_par (i := 10) (j := 11) (by rfl) nd rfl rfl (by decide) rfl rfl (pa_cons (pe_op op_catA (pe_slice sl_tupA (pv 9) po_none (po_some pe_int)) (pe_tup (pa_cons (pe_ix ix_seq (pe_lst (pa_cons (pe_un un_neg pe_int) (pa_cons (pe_op op_add (pv 12) pe_int) (pa_cons pe_bl (pa_cons pe_str pa_nil))))) (pe_call (ok_law_take T) (hr.mono (by decide)) (by rfl) T.d_law_take.g T.d_law_take.F.kp T.d_law_take.b .nil pass0 (pa_cons (pv 0) (pa_cons pe_int pa_nil))) (fun _ _ => rfl)) (pa_cons (pe_ifExp (pt_cmpR (op_eqD hr.units) (pv 6) pe_str (nomark _)) pe_str pe_str) pa_nil)))) (pa_cons pe_str pa_nil)) (by rfl)))) pss_nil)
        (pss_cons (ps_if (pt_cmpR op_eq (pv 7) pe_int (nomark _)) (pss_one (ps_par (i := 10) (j := 11) (by rfl) nd rfl rfl (by decide) rfl rfl (pa_cons (pe_op op_catA (pe_slice sl_tupA (pv 9) po_none (po_some pe_int)) (pe_tup (pa_cons (pe_ix ix_seq (pe_lst (pa_cons pe_str (pa_cons pe_str (pa_cons pe_non (pa_cons pe_str pa_nil))))) (pe_call (ok_law_take T) (hr.mono (by decide)) (by rfl) T.d_law_take.g T.d_law_take.F.kp T.d_law_take.b .nil pass0 (pa_cons (pv 0) (pa_cons pe_int pa_nil))) (fun _ _ => rfl)) pa_nil))) (pa_cons pe_str pa_nil)) (by rfl))) pss_nil)
        (pss_cons (ps_if (pt_cmpR op_eq (pv 7) pe_int (nomark _)) (pss_one (ps_ret (pe_tup (pa_cons (pe_tup (pa_cons (pv 2) (pa_cons (pe_op op_catA (pe_slice sl_tupA (pv 3) po_none (po_some pe_int)) (pe_tup (pa_cons (pe_ix ix_seq (pv 3) pe_int (fun _ _ => rfl)) pa_nil))) (pa_cons (pv 4) (pa_cons (pv 5) pa_nil))))) (pa_cons pe_str pa_nil))))) pss_nil)
        (pss_one (ps_ret (pe_tup (pa_cons (pe_tup (pa_cons (pv 2) (pa_cons (pe_op op_catA (pe_op op_catA (pe_slice sl_tupA (pv 3) po_none (po_some (pv 8))) (pe_tup (pa_cons (pv 10) pa_nil))) (pe_slice sl_tupA (pv 3) (po_some (pe_op op_add (pv 8) pe_int)) po_none)) (pa_cons (pv 4) (pa_cons (pv 5) pa_nil))))) (pa_cons (pv 11) pa_nil))))))))))))))))))), fn_state ((rs_seq (rs_asg (rn 1) (rg_tup (rg_cons (rg_name 2) (rg_cons (rg_name 3) (rg_cons (rg_name 4) (rg_cons (rg_name 5) rg_nil))))))
        (rs_seq (rs_asg (re_if (rt_test (ro rv_eq (RfE.b (re_callS (raC (rc_int _) raN))) (RfE.b (rc_int _)))) (rc_str _) (rn 4)) (rg_name 6))
        (rs_seq (rs_asg (re_callS (raC (rc_int _) raN)) (rg_name 7))
        (rs_seq (rs_asg (re_callS (raC (re_cb ro_len (rbC (RfE.b (rn 3)) rbN)) raN)) (rg_name 8))
        (rs_seq (rs_asg (ro rv_ix (RfE.b (rn 3)) (RfE.b (rn 8))) (rg_name 9))
        (rs_seq (rs_if (rt_test (ro rv_eq (RfE.b (rn 7)) (RfE.b (rc_int _)))) (rs_ret (re_tup (raC (re_tup (raC (ro rv_ix (RfE.b (RfF.e (show RfF _ _ (dCL ([PyData.str "", PyData.str "A", PyData.str "abcdefghijk", PyData.int 5, PyData.none])) from rf_lst (raC (rc_str _) (raC (rc_str _) (raC (rc_str _) (raC (rc_int _) (raC rc_non raN)))))))) (RfE.b (re_callS (raC (rc_int _) raN)))) (raC (rn 3) (raC (rn 6) (raC (rn 5) raN))))) (raC (rc_str _) raN)))) rs_next)
        (rs_seq (rs_if (rt_test (ro rv_eq (RfE.b (rn 7)) (RfE.b (rc_int _)))) (rs_ret (re_tup (raC (re_tup (raC (rn 2) (raC (rn 3) (raC (ro rv_ix (RfE.b (RfF.e (show RfF _ _ (dCL ([PyData.str "turn", PyData.str "", PyData.none, PyData.str "Least"])) from rf_lst (raC (rc_str _) (raC (rc_str _) (raC rc_non (raC (rc_str _) raN))))))) (RfE.b (re_callS (raC (rc_int _) raN)))) (raC (re_if (rt_test (ro rv_eqD (RfE.b (rn 6)) (RfE.b (rc_str _)))) (ru rv_neg (RfE.b (rc_int _))) (rn 5)) raN))))) (raC (rc_str _) raN)))) rs_next)
        (rs_seq (rs_if (rt_test (ro rv_eq (RfE.b (rn 7)) (RfE.b (rc_int _)))) (rs_ret (re_tup (raC (re_tup (raC (rn 2) (raC (re_if (rt_test (ro rv_eqD (RfE.b (rn 6)) (RfE.b (rc_str _)))) (show RfE _ _ (dC (PyData.tuple [])) from re_tup raN) (rn 3)) (raC (rn 4) (raC (ro rv_ix (RfE.b (RfF.e (show RfF _ _ (dCL ([PyData.int (-1), PyData.int 1000001, PyData.bool true, PyData.str "5"])) from rf_lst (raC (ru rv_neg (RfE.b (rc_int _))) (raC (rc_int _) (raC (rc_bl _) (raC (rc_str _) raN))))))) (RfE.b (re_callS (raC (rc_int _) raN)))) raN))))) (raC (rc_str _) raN)))) rs_next)
        (rs_seq (rs_if (rt_test (ro rv_eq (RfE.b (rn 7)) (RfE.b (rc_int _)))) (rs_ret (re_tup (raC (re_tup (raC (rn 2) (raC (ro rv_ix (RfE.b (RfF.e (rf_lst (raC (show RfE _ _ (dC (PyData.tuple [])) from re_tup raN) (raC (re_callS (raC (rc_int _) raN)) raN))))) (RfE.b (re_callS (raC (rc_int _) raN)))) (raC (rn 4) (raC (rn 5) raN))))) (raC (rc_str _) raN)))) rs_next)
        (rs_seq (rs_par 10 11 (raC (rn 9) (raC (rc_str _) raN)))
        (rs_seq (rs_if (rt_test (ro rv_eq (RfE.b (rn 7)) (RfE.b (rc_int _)))) (rs_asg (re_tup (raC (ro rv_ix (RfE.b (RfF.e (show RfF _ _ (dCL ([PyData.str "", PyData.str "A1", PyData.none])) from rf_lst (raC (rc_str _) (raC (rc_str _) (raC rc_non raN)))))) (RfE.b (re_callS (raC (rc_int _) raN)))) (raC (ro rv_ix (RfE.b (rn 9)) (RfE.b (rc_int _))) (raC (ro rv_ix (RfE.b (rn 9)) (RfE.b (rc_int _))) (raC (re_if (rt_test (ro rv_eqD (RfE.b (rn 6)) (RfE.b (rc_str _)))) (ru rv_neg (RfE.b (rc_int _))) (ro rv_ix (RfE.b (rn 9)) (RfE.b (rc_int _)))) (raC (ro rv_ix (RfE.b (rn 9)) (RfE.b (rc_int _))) raN)))))) (rg_name 10)) rs_next)
        (rs_seq (rs_if (rt_test (ro rv_eq (RfE.b (rn 7)) (RfE.b (rc_int _)))) (rs_seq (rs_asg (re_if (rt_test (ro rv_eqD (RfE.b (rn 4)) (RfE.b (rc_str _)))) (rc_int _) (rc_int _)) (rg_name 12))
        (rs_par 10 11 (raC (ro rv_catT (RfE.b (re_slT (RfE.b (rn 9)) rp_no (rp_some (rc_int _)))) (RfE.b (re_tup (raC (ro rv_ix (RfE.b (RfF.e (rf_lst (raC (ru rv_neg (RfE.b (rc_int _))) (raC (ro rv_add (RfE.b (rn 12)) (RfE.b (rc_int _))) (raC (rc_bl _) (raC (rc_str _) raN))))))) (RfE.b (re_callS (raC (rc_int _) raN)))) (raC (re_if (rt_test (ro rv_eqD (RfE.b (rn 6)) (RfE.b (rc_str _)))) (rc_str _) (rc_str _)) raN))))) (raC (rc_str _) raN)))) rs_next)
        (rs_seq (rs_if (rt_test (ro rv_eq (RfE.b (rn 7)) (RfE.b (rc_int _)))) (rs_par 10 11 (raC (ro rv_catT (RfE.b (re_slT (RfE.b (rn 9)) rp_no (rp_some (rc_int _)))) (RfE.b (re_tup (raC (ro rv_ix (RfE.b (RfF.e (show RfF _ _ (dCL ([PyData.str "", PyData.str "Up", PyData.none, PyData.str "ill"])) from rf_lst (raC (rc_str _) (raC (rc_str _) (raC rc_non (raC (rc_str _) raN))))))) (RfE.b (re_callS (raC (rc_int _) raN)))) raN)))) (raC (rc_str _) raN))) rs_next)
        (rs_seq (rs_if (rt_test (ro rv_eq (RfE.b (rn 7)) (RfE.b (rc_int _)))) (rs_ret (re_tup (raC (re_tup (raC (rn 2) (raC (ro rv_catT (RfE.b (re_slT (RfE.b (rn 3)) rp_no (rp_some (rc_int _)))) (RfE.b (re_tup (raC (ro rv_ix (RfE.b (rn 3)) (RfE.b (rc_int _))) raN)))) (raC (rn 4) (raC (rn 5) raN))))) (raC (rc_str _) raN)))) rs_next)
        (rs_ret (re_tup (raC (re_tup (raC (rn 2) (raC (ro rv_catT (RfE.b (ro rv_catT (RfE.b (re_slT (RfE.b (rn 3)) rp_no (rp_some (rn 8)))) (RfE.b (re_tup (raC (rn 10) raN))))) (RfE.b (re_slT (RfE.b (rn 3)) (rp_some (ro rv_add (RfE.b (rn 8)) (RfE.b (rc_int _)))) rp_no))) (raC (rn 4) (raC (rn 5) raN))))) (raC (rn 11) raN))))))))))))))))))) h (by rw [spS_len F1_len h]; decide) (F1_in fun a0 Qd q => ?_)⟩
  obtain ⟨service_1, G, rfl, q, hQ⟩ := q
  delta y__law_spoilt at q
  exact (s_seq0 (s_pat (e := eSvc) (w_name (e := eSvc) (x := service_1) rfl) (fun p_1 q => (g_tup (gs_cons (gn (env' := [some En.st, sv (eSvc service_1), sv p_1.1, none, none, none, none, none, none, none, none, none, none]) rfl (gs_cons (gn (env' := [some En.st, sv (eSvc service_1), sv p_1.1, sv ((eU eSrv) p_1.2.1), none, none, none, none, none, none, none, none, none]) rfl (gs_cons (gn (env' := [some En.st, sv (eSvc service_1), sv p_1.1, sv ((eU eSrv) p_1.2.1), sv p_1.2.2.1, none, none, none, none, none, none, none, none]) rfl (gs_cons (gn (env' := [some En.st, sv (eSvc service_1), sv p_1.1, sv ((eU eSrv) p_1.2.1), sv p_1.2.2.1, sv p_1.2.2.2, none, none, none, none, none, none, none]) rfl (gs_nil (s_seq0 (s_asg (e := eD) (w_ifP (t_val (w_eqS (r := fun (a : Int) (b : Int) => decide (a = b)) (w_take rfl (w_dC (e := PyData.int) (x := (2 : Int)) rfl)) (w_dC (e := PyData.int) (x := (0 : Int)) rfl) r_I)) (w_co (e := PyData.str) (e' := eD) (fun a : Str => ((PyData.str a) : D)) (w_dC (e := PyData.str) (x := (Str.ofString "late")) rfl) (fun _ => rfl)) (w_name (e := eD) (x := p_1.2.2.1) rfl)) (fun later_1 : D => [some En.st, sv (eSvc service_1), sv p_1.1, sv ((eU eSrv) p_1.2.1), sv p_1.2.2.1, sv p_1.2.2.2, sv later_1, none, none, none, none, none, none]) (fun _ => rfl) (fun later_1 q => (s_seq0 (s_asg (e := PyData.int) (w_take rfl (w_dC (e := PyData.int) (x := (8 : Int)) rfl)) (fun kind_1 : Int => [some En.st, sv (eSvc service_1), sv p_1.1, sv ((eU eSrv) p_1.2.1), sv p_1.2.2.1, sv p_1.2.2.2, sv later_1, sv (PyData.int kind_1), none, none, none, none, none]) (fun _ => rfl) (fun kind_1 q => (s_seq0 (s_asg (e := PyData.int) (w_take rfl (w_len (e := eSrv) (w_name (e := (eU eSrv)) (x := p_1.2.1) rfl) (fun _ => rfl))) (fun at_1 : Int => [some En.st, sv (eSvc service_1), sv p_1.1, sv ((eU eSrv) p_1.2.1), sv p_1.2.2.1, sv p_1.2.2.2, sv later_1, sv (PyData.int kind_1), sv (PyData.int at_1), none, none, none, none]) (fun _ => rfl) (fun at_1 q => (s_seq0 (s_asg (e := eSrv) (w_ix (e := eSrv) (w_name (e := (eU eSrv)) (x := p_1.2.1) rfl) (w_name (e := PyData.int) (x := at_1) rfl) (fun _ => rfl)) (fun one_1 : Srv => [some En.st, sv (eSvc service_1), sv p_1.1, sv ((eU eSrv) p_1.2.1), sv p_1.2.2.1, sv p_1.2.2.2, sv later_1, sv (PyData.int kind_1), sv (PyData.int at_1), sv (eSrv one_1), none, none, none]) (fun _ => rfl) (fun one_1 q => (s_seq0 (s_if (t_val (w_eqS (r := fun (a : Int) (b : Int) => decide (a = b)) (w_name (e := PyData.int) (x := kind_1) rfl) (w_dC (e := PyData.int) (x := (0 : Int)) rfl) r_I)) (fun q => (s_ret (e := (eT2 eSvc PyData.str)) (w_tup2 (w_tup4 (w_ix (e := eD) (w_list (l_dCL (e := eD) (xs := [(PyData.str (Str.ofString "")), (PyData.str (Str.ofString "A")), (PyData.str (Str.ofString "abcdefghijk")), (PyData.int (5 : Int)), (eN ())]) rfl)) (w_take rfl (w_dC (e := PyData.int) (x := (5 : Int)) rfl)) (fun _ => rfl)) (w_name (e := (eU eSrv)) (x := p_1.2.1) rfl) (w_name (e := eD) (x := later_1) rfl) (w_name (e := eD) (x := p_1.2.2.2) rfl)) (w_dC (e := PyData.str) (x := (Str.ofString "name")) rfl)) hQ q)) (fun q => (s_next (s_seq0 (s_if (t_val (w_eqS (r := fun (a : Int) (b : Int) => decide (a = b)) (w_name (e := PyData.int) (x := kind_1) rfl) (w_dC (e := PyData.int) (x := (1 : Int)) rfl) r_I)) (fun q => (s_ret (e := (eT2 eSvc PyData.str)) (w_tup2 (w_tup4 (w_name (e := eD) (x := p_1.1) rfl) (w_name (e := (eU eSrv)) (x := p_1.2.1) rfl) (w_co (e := (eO PyData.str)) (e' := eD) (fun a : (Option Str) => (((eO PyData.str) a) : D)) (w_ix (e := (eO PyData.str)) (w_list (l_dCL (e := (eO PyData.str)) (xs := [(some (Str.ofString "turn")), (some (Str.ofString "")), none, (some (Str.ofString "Least"))]) rfl)) (w_take rfl (w_dC (e := PyData.int) (x := (4 : Int)) rfl)) (fun _ => rfl)) (fun _ => rfl)) (w_ifP (t_val (w_eqD (w_name (e := eD) (x := later_1) rfl) (w_dC (e := PyData.str) (x := (Str.ofString "late")) rfl))) (w_co (e := PyData.int) (e' := eD) (fun a : Int => ((PyData.int a) : D)) (w_neg (w_dC (e := PyData.int) (x := (1 : Int)) rfl)) (fun _ => rfl)) (w_name (e := eD) (x := p_1.2.2.2) rfl))) (w_dC (e := PyData.str) (x := (Str.ofString "choice")) rfl)) hQ q)) (fun q => (s_next (s_seq0 (s_if (t_val (w_eqS (r := fun (a : Int) (b : Int) => decide (a = b)) (w_name (e := PyData.int) (x := kind_1) rfl) (w_dC (e := PyData.int) (x := (2 : Int)) rfl) r_I)) (fun q => (s_ret (e := (eT2 eSvc PyData.str)) (w_tup2 (w_tup4 (w_name (e := eD) (x := p_1.1) rfl) (w_ifP (t_val (w_eqD (w_name (e := eD) (x := later_1) rfl) (w_dC (e := PyData.str) (x := (Str.ofString "late")) rfl))) (w_dC (e := (eU eSrv)) (x := []) rfl) (w_name (e := (eU eSrv)) (x := p_1.2.1) rfl)) (w_name (e := eD) (x := p_1.2.2.1) rfl) (w_ix (e := eD) (w_list (l_dCL (e := eD) (xs := [(PyData.int (-1 : Int)), (PyData.int (1000001 : Int)), (PyData.bool true), (PyData.str (Str.ofString "5"))]) rfl)) (w_take rfl (w_dC (e := PyData.int) (x := (4 : Int)) rfl)) (fun _ => rfl))) (w_dC (e := PyData.str) (x := (Str.ofString "hold")) rfl)) hQ q)) (fun q => (s_next (s_seq0 (s_if (t_val (w_eqS (r := fun (a : Int) (b : Int) => decide (a = b)) (w_name (e := PyData.int) (x := kind_1) rfl) (w_dC (e := PyData.int) (x := (3 : Int)) rfl) r_I)) (fun q => (s_ret (e := (eT2 eSvc PyData.str)) (w_tup2 (w_tup4 (w_name (e := eD) (x := p_1.1) rfl) (w_ix (e := (eU eSrv)) (w_list (l_cons (e := (eU eSrv)) (w_dC (e := (eU eSrv)) (x := []) rfl) (l_cons (e := (eU eSrv)) (w_callS1 rfl (w_dC (e := PyData.int) (x := (33 : Int)) rfl)) (l_nil (e := (eU eSrv)))))) (w_take rfl (w_dC (e := PyData.int) (x := (2 : Int)) rfl)) (fun _ => rfl)) (w_name (e := eD) (x := p_1.2.2.1) rfl) (w_name (e := eD) (x := p_1.2.2.2) rfl)) (w_dC (e := PyData.str) (x := (Str.ofString "servers")) rfl)) hQ q)) (fun q => (s_next (s_seq0 (s_par (e := eSrv) (e' := PyData.str) (w_name (e := eSrv) (x := one_1) rfl) (w_dC (e := PyData.str) (x := (Str.ofString "server")) rfl) (fun bad_1 word_1 => [some En.st, sv (eSvc service_1), sv p_1.1, sv ((eU eSrv) p_1.2.1), sv p_1.2.2.1, sv p_1.2.2.2, sv later_1, sv (PyData.int kind_1), sv (PyData.int at_1), sv (eSrv one_1), sv (eSrv bad_1), sv (PyData.str word_1), none]) (fun _ _ => rfl) (fun bad_1 word_1 q => (s_seq_cut0 (a := _) (fun s_3 : Srv => y__law_spoilt_j3 p_1 later_1 kind_1 at_1 one_1 word_1 G s_3) (fun (s_3 : Srv) (u_4 : Unit) => [some En.st, sv (eSvc service_1), sv p_1.1, sv ((eU eSrv) p_1.2.1), sv p_1.2.2.1, sv p_1.2.2.2, sv later_1, sv (PyData.int kind_1), sv (PyData.int at_1), sv (eSrv one_1), sv (eSrv s_3), sv (PyData.str word_1), none]) (fun s_3 u_4 q => (s_seq_cut0 (a := _) (fun s_2 : Srv × Str => y__law_spoilt_j2 p_1 kind_1 at_1 one_1 G s_2.1 s_2.2) (fun (s_2 : Srv × Str) (u_3 : Option D) => [some En.st, sv (eSvc service_1), sv p_1.1, sv ((eU eSrv) p_1.2.1), sv p_1.2.2.1, sv p_1.2.2.2, sv later_1, sv (PyData.int kind_1), sv (PyData.int at_1), sv (eSrv one_1), sv (eSrv s_2.1), sv (PyData.str s_2.2), (Option.map En.d u_3)]) (fun s_2 u_3 q => (s_seq_cut0 (a := _) (fun s_1 : Srv × Str => y__law_spoilt_j1 p_1 kind_1 at_1 G s_1.1 s_1.2) (fun (s_1 : Srv × Str) (u_2 : Unit) => [some En.st, sv (eSvc service_1), sv p_1.1, sv ((eU eSrv) p_1.2.1), sv p_1.2.2.1, sv p_1.2.2.2, sv later_1, sv (PyData.int kind_1), sv (PyData.int at_1), sv (eSrv one_1), sv (eSrv s_1.1), sv (PyData.str s_1.2), (Option.map En.d u_3)]) (fun s_1 u_2 q => (s_seq0 (s_if (t_val (w_eqS (r := fun (a : Int) (b : Int) => decide (a = b)) (w_name (e := PyData.int) (x := kind_1) rfl) (w_dC (e := PyData.int) (x := (7 : Int)) rfl) r_I)) (fun q => (s_ret (e := (eT2 eSvc PyData.str)) (w_tup2 (w_tup4 (w_name (e := eD) (x := p_1.1) rfl) (w_catU (e := eSrv) (w_slU (e := eSrv) (w_name (e := (eU eSrv)) (x := p_1.2.1) rfl) o_no (o_some (w_dC (e := PyData.int) (x := (31 : Int)) rfl))) (w_co (e := (eT1 eSrv)) (e' := (eU eSrv)) (fun a : (Srv) => ([a] : (List Srv))) (w_tup1 (w_ix (e := eSrv) (w_name (e := (eU eSrv)) (x := p_1.2.1) rfl) (w_dC (e := PyData.int) (x := (0 : Int)) rfl) (fun _ => rfl))) (fun _ => rfl))) (w_name (e := eD) (x := p_1.2.2.1) rfl) (w_name (e := eD) (x := p_1.2.2.2) rfl)) (w_dC (e := PyData.str) (x := (Str.ofString "alike")) rfl)) hQ q)) (fun q => (s_next (s_ret (e := (eT2 eSvc PyData.str)) (w_tup2 (w_tup4 (w_name (e := eD) (x := p_1.1) rfl) (w_catU (e := eSrv) (w_catU (e := eSrv) (w_slU (e := eSrv) (w_name (e := (eU eSrv)) (x := p_1.2.1) rfl) o_no (o_some (w_name (e := PyData.int) (x := at_1) rfl))) (w_co (e := (eT1 eSrv)) (e' := (eU eSrv)) (fun a : (Srv) => ([a] : (List Srv))) (w_tup1 (w_name (e := eSrv) (x := s_1.1) rfl)) (fun _ => rfl))) (w_slU (e := eSrv) (w_name (e := (eU eSrv)) (x := p_1.2.1) rfl) (o_some (w_I0 (g' := fun i j => i + j) (w_name (e := PyData.int) (x := at_1) rfl) (w_dC (e := PyData.int) (x := (1 : Int)) rfl) (fun _ _ => rfl))) o_no)) (w_name (e := eD) (x := p_1.2.2.1) rfl) (w_name (e := eD) (x := p_1.2.2.2) rfl)) (w_name (e := PyData.str) (x := s_1.2) rfl)) hQ q))) q))) (fun N_1 hN_1 => (s_if (t_val (w_eqS (r := fun (a : Int) (b : Int) => decide (a = b)) (w_name (e := PyData.int) (x := kind_1) rfl) (w_dC (e := PyData.int) (x := (6 : Int)) rfl) r_I)) (fun q => (s_par (e := (eT5 eD PyData.int PyData.int eD (eO PyData.str))) (e' := PyData.str) (w_catG (e := (eT4 eD PyData.int PyData.int eD)) (e' := (eT1 (eO PyData.str))) (e3 := (eT5 eD PyData.int PyData.int eD (eO PyData.str))) (fun (x : (D × Int × Int × D)) (y : ((Option Str))) => (x.1, x.2.1, x.2.2.1, x.2.2.2, y)) (w_slG (e := eSrv) (e' := (eT4 eD PyData.int PyData.int eD)) (fun p : Srv => (p.1, p.2.1, p.2.2.1, p.2.2.2.1)) (w_name (e := eSrv) (x := one_1) rfl) o_no (o_some (w_dC (e := PyData.int) (x := (4 : Int)) rfl)) (fun _ => ⟨_, rfl, rfl⟩)) (w_tup1 (w_ix (e := (eO PyData.str)) (w_list (l_dCL (e := (eO PyData.str)) (xs := [(some (Str.ofString "")), (some (Str.ofString "Up")), none, (some (Str.ofString "ill"))]) rfl)) (w_take rfl (w_dC (e := PyData.int) (x := (4 : Int)) rfl)) (fun _ => rfl))) (fun _ _ => ⟨_, _, rfl, rfl, rfl, by show 5 ≤ sizeLine; decide⟩)) (w_dC (e := PyData.str) (x := (Str.ofString "health")) rfl) (fun bad_5 word_4 => [some En.st, sv (eSvc service_1), sv p_1.1, sv ((eU eSrv) p_1.2.1), sv p_1.2.2.1, sv p_1.2.2.2, sv later_1, sv (PyData.int kind_1), sv (PyData.int at_1), sv (eSrv one_1), sv ((eT5 eD PyData.int PyData.int eD (eO PyData.str)) bad_5), sv (PyData.str word_4), (Option.map En.d u_3)]) (fun _ _ => rfl) (fun bad_5 word_4 q => (hN_1 ((bad_5.1, bad_5.2.1, bad_5.2.2.1, bad_5.2.2.2.1, ((eO PyData.str) bad_5.2.2.2.2)), word_4) () q)) q)) (fun q => (s_next (hN_1 (s_2.1, s_2.2) () q))) q)))) (fun N_2 hN_2 => (s_if (t_val (w_eqS (r := fun (a : Int) (b : Int) => decide (a = b)) (w_name (e := PyData.int) (x := kind_1) rfl) (w_dC (e := PyData.int) (x := (5 : Int)) rfl) r_I)) (fun q => (s_seq0 (s_asg (e := PyData.int) (w_ifP (t_val (w_eqD (w_name (e := eD) (x := p_1.2.2.1) rfl) (w_dC (e := PyData.str) (x := (Str.ofString "marks")) rfl))) (w_dC (e := PyData.int) (x := (8 : Int)) rfl) (w_dC (e := PyData.int) (x := (100 : Int)) rfl)) (fun most_1 : Int => [some En.st, sv (eSvc service_1), sv p_1.1, sv ((eU eSrv) p_1.2.1), sv p_1.2.2.1, sv p_1.2.2.2, sv later_1, sv (PyData.int kind_1), sv (PyData.int at_1), sv (eSrv one_1), sv (eSrv s_3), sv (PyData.str word_1), sv (PyData.int most_1)]) (fun _ => rfl) (fun most_1 q => (s_par (e := (eT5 eD PyData.int PyData.int eD PyData.str)) (e' := PyData.str) (w_catG (e := (eT3 eD PyData.int PyData.int)) (e' := (eT2 eD PyData.str)) (e3 := (eT5 eD PyData.int PyData.int eD PyData.str)) (fun (x : (D × Int × Int)) (y : (D × Str)) => (x.1, x.2.1, x.2.2, y.1, y.2)) (w_slG (e := eSrv) (e' := (eT3 eD PyData.int PyData.int)) (fun p : Srv => (p.1, p.2.1, p.2.2.1)) (w_name (e := eSrv) (x := one_1) rfl) o_no (o_some (w_dC (e := PyData.int) (x := (3 : Int)) rfl)) (fun _ => ⟨_, rfl, rfl⟩)) (w_tup2 (w_ix (e := eD) (w_list (l_cons (e := eD) (w_co (e := PyData.int) (e' := eD) (fun a : Int => ((PyData.int a) : D)) (w_neg (w_dC (e := PyData.int) (x := (1 : Int)) rfl)) (fun _ => rfl)) (l_cons (e := eD) (w_co (e := PyData.int) (e' := eD) (fun a : Int => ((PyData.int a) : D)) (w_I0 (g' := fun i j => i + j) (w_name (e := PyData.int) (x := most_1) rfl) (w_dC (e := PyData.int) (x := (1 : Int)) rfl) (fun _ _ => rfl)) (fun _ => rfl)) (l_cons (e := eD) (w_co (e := PyData.bool) (e' := eD) (fun a : Bool => ((PyData.bool a) : D)) (w_dC (e := PyData.bool) (x := true) rfl) (fun _ => rfl)) (l_cons (e := eD) (w_co (e := PyData.str) (e' := eD) (fun a : Str => ((PyData.str a) : D)) (w_dC (e := PyData.str) (x := (Str.ofString "1")) rfl) (fun _ => rfl)) (l_nil (e := eD))))))) (w_take rfl (w_dC (e := PyData.int) (x := (4 : Int)) rfl)) (fun _ => rfl)) (w_ifP (t_val (w_eqD (w_name (e := eD) (x := later_1) rfl) (w_dC (e := PyData.str) (x := (Str.ofString "late")) rfl))) (w_dC (e := PyData.str) (x := (Str.ofString "up")) rfl) (w_dC (e := PyData.str) (x := (Str.ofString "ill")) rfl))) (fun _ _ => ⟨_, _, rfl, rfl, rfl, by show 5 ≤ sizeLine; decide⟩)) (w_dC (e := PyData.str) (x := (Str.ofString "weight")) rfl) (fun bad_6 word_5 => [some En.st, sv (eSvc service_1), sv p_1.1, sv ((eU eSrv) p_1.2.1), sv p_1.2.2.1, sv p_1.2.2.2, sv later_1, sv (PyData.int kind_1), sv (PyData.int at_1), sv (eSrv one_1), sv ((eT5 eD PyData.int PyData.int eD PyData.str) bad_6), sv (PyData.str word_5), sv (PyData.int most_1)]) (fun _ _ => rfl) (fun bad_6 word_5 q => (hN_2 ((bad_6.1, bad_6.2.1, bad_6.2.2.1, bad_6.2.2.2.1, (PyData.str bad_6.2.2.2.2)), word_5) (some (PyData.int most_1)) q)) q)) q))) (fun q => (s_next (hN_2 (s_3, word_1) none q))) q)))) (fun N_3 hN_3 => (s_if (t_val (w_eqS (r := fun (a : Int) (b : Int) => decide (a = b)) (w_name (e := PyData.int) (x := kind_1) rfl) (w_dC (e := PyData.int) (x := (4 : Int)) rfl) r_I)) (fun q => (s_asg (e := (eT5 (eO PyData.str) PyData.int PyData.int eD eD)) (w_tup5 (w_ix (e := (eO PyData.str)) (w_list (l_dCL (e := (eO PyData.str)) (xs := [(some (Str.ofString "")), (some (Str.ofString "A1")), none]) rfl)) (w_take rfl (w_dC (e := PyData.int) (x := (3 : Int)) rfl)) (fun _ => rfl)) (w_prj (e := eSrv) (e' := PyData.int) 1 (fun p : Srv => p.2.1) (w_name (e := eSrv) (x := one_1) rfl) (fun _ => ⟨_, rfl, dix_nn (by decide) rfl⟩)) (w_prj (e := eSrv) (e' := PyData.int) 2 (fun p : Srv => p.2.2.1) (w_name (e := eSrv) (x := one_1) rfl) (fun _ => ⟨_, rfl, dix_nn (by decide) rfl⟩)) (w_ifP (t_val (w_eqD (w_name (e := eD) (x := later_1) rfl) (w_dC (e := PyData.str) (x := (Str.ofString "late")) rfl))) (w_co (e := PyData.int) (e' := eD) (fun a : Int => ((PyData.int a) : D)) (w_neg (w_dC (e := PyData.int) (x := (1 : Int)) rfl)) (fun _ => rfl)) (w_prj (e := eSrv) (e' := eD) 3 (fun p : Srv => p.2.2.2.1) (w_name (e := eSrv) (x := one_1) rfl) (fun _ => ⟨_, rfl, dix_nn (by decide) rfl⟩))) (w_prj (e := eSrv) (e' := eD) 4 (fun p : Srv => p.2.2.2.2) (w_name (e := eSrv) (x := one_1) rfl) (fun _ => ⟨_, rfl, dix_nn (by decide) rfl⟩))) (fun bad_7 : ((Option Str) × Int × Int × D × D) => [some En.st, sv (eSvc service_1), sv p_1.1, sv ((eU eSrv) p_1.2.1), sv p_1.2.2.1, sv p_1.2.2.2, sv later_1, sv (PyData.int kind_1), sv (PyData.int at_1), sv (eSrv one_1), sv ((eT5 (eO PyData.str) PyData.int PyData.int eD eD) bad_7), sv (PyData.str word_1), none]) (fun _ => rfl) (fun bad_7 q => (hN_3 (((eO PyData.str) bad_7.1), bad_7.2.1, bad_7.2.2.1, bad_7.2.2.2.1, bad_7.2.2.2.2) () q)) q)) (fun q => (s_next (hN_3 bad_1 () q))) q)))) q)))) q)))) q)))) q)))) q))) q))) q))) q))) q))))))))))) rfl)) q))
end
/-! equations of the typed layer's operations -/
theorem c_int {a : Int} {G : Int → Prop} : castT PyData.int (.int a) G ↔ G a := ⟨fun ⟨_, e, g⟩ => by cases e; exact g, fun g => ⟨_, rfl, g⟩⟩
theorem c_str {a : Str} {G : Str → Prop} : castT PyData.str (.str a) G ↔ G a := ⟨fun ⟨_, e, g⟩ => by cases e; exact g, fun g => ⟨_, rfl, g⟩⟩
theorem c_bool {a : Bool} {G : Bool → Prop} : castT PyData.bool (.bool a) G ↔ G a := ⟨fun ⟨_, e, g⟩ => by cases e; exact g, fun g => ⟨_, rfl, g⟩⟩
theorem map_eD (ds : List D) : ds.map eD = ds := by
  have : (eD : D → D) = id := rfl
  rw [this, List.map_id]
theorem c_tup {ds : List D} {G : List D → Prop} : castT (eU eD) (.tuple ds) G ↔ G ds := ⟨fun ⟨a, e, g⟩ => by
  have : PyData.tuple ds = PyData.tuple (a.map eD) := e
  rw [map_eD] at this
  cases this; exact g, fun g => ⟨ds, by show PyData.tuple ds = PyData.tuple (ds.map eD); rw [map_eD], g⟩⟩
theorem g_some {α : Type} {a : α} {G : α → Prop} : getT (some a) G ↔ G a := ⟨fun ⟨_, e, g⟩ => by cases e; exact g, fun g => ⟨_, rfl, g⟩⟩
theorem x_0 {α : Type} {a : α} {r : List α} {G : α → Prop} : ixT (a :: r) 0 G ↔ G a := by unfold ixT atI ixN; simp
theorem x_lit {α : Type} {xs : List α} {a : α} {i : Int} {G : α → Prop} (h0 : 0 ≤ i) (h : xs[i.toNat]? = some a) : ixT xs i G ↔ G a := by
  have hl := (List.getElem?_eq_some_iff.mp h).1
  have e : atI xs i = some a := by unfold atI ixN; rw [if_pos h0, if_pos (by omega)]; exact h
  unfold ixT
  rw [e]
  exact ⟨fun ⟨_, e, g⟩ => by cases e; exact g, fun g => ⟨_, rfl, g⟩⟩
theorem x_1 {α : Type} {a b : α} {r : List α} {G : α → Prop} : ixT (a :: b :: r) 1 G ↔ G b := x_lit (by decide) rfl
theorem x_2 {α : Type} {a b c : α} {r : List α} {G : α → Prop} : ixT (a :: b :: c :: r) 2 G ↔ G c := x_lit (by decide) rfl
theorem x_3 {α : Type} {a b c d : α} {r : List α} {G : α → Prop} : ixT (a :: b :: c :: d :: r) 3 G ↔ G d := x_lit (by decide) rfl
theorem x_4 {α : Type} {a b c d e : α} {r : List α} {G : α → Prop} : ixT (a :: b :: c :: d :: e :: r) 4 G ↔ G e := x_lit (by decide) rfl
theorem x_5 {α : Type} {a b c d e f : α} {r : List α} {G : α → Prop} : ixT (a :: b :: c :: d :: e :: f :: r) 5 G ↔ G f := x_lit (by decide) rfl
theorem x_6 {α : Type} {a b c d e f g : α} {r : List α} {G : α → Prop} : ixT (a :: b :: c :: d :: e :: f :: g :: r) 6 G ↔ G g := x_lit (by decide) rfl
theorem s_lit {α : Type} {xs : List α} {a : α} {i : Int} {G : List α → Prop} (h0 : 0 ≤ i) (h : i.toNat < xs.length) : setT xs i a G ↔ G (xs.set i.toNat a) := by
  have e : ixN xs.length i = some i.toNat := by unfold ixN; rw [if_pos h0, if_pos (by omega)]
  unfold setT
  rw [e]
  exact ⟨fun ⟨_, e, g⟩ => by cases e; exact g, fun g => ⟨_, rfl, g⟩⟩
theorem s_1 {α : Type} {a b y : α} {r : List α} {G : List α → Prop} : setT (a :: b :: r) 1 y G ↔ G (a :: y :: r) := s_lit (by decide) (by simp)
theorem s_2 {α : Type} {a b c y : α} {r : List α} {G : List α → Prop} : setT (a :: b :: c :: r) 2 y G ↔ G (a :: b :: y :: r) := s_lit (by decide) (by simp)
theorem s_3 {α : Type} {a b c d y : α} {r : List α} {G : List α → Prop} : setT (a :: b :: c :: d :: r) 3 y G ↔ G (a :: b :: c :: y :: r) := s_lit (by decide) (by simp)
theorem s_4 {α : Type} {a b c d e y : α} {r : List α} {G : List α → Prop} : setT (a :: b :: c :: d :: e :: r) 4 y G ↔ G (a :: b :: c :: d :: y :: r) := s_lit (by decide) (by simp)
theorem s_6 {α : Type} {a b c d e f g y : α} {r : List α} {G : List α → Prop} : setT (a :: b :: c :: d :: e :: f :: g :: r) 6 y G ↔ G (a :: b :: c :: d :: e :: f :: y :: r) := s_lit (by decide) (by simp)
theorem a_p {a b : Bool} {G : Bool → Prop} : andT a (fun G => G b) G ↔ G (a && b) := by unfold andT; cases a <;> simp
theorem o_p {a b : Bool} {G : Bool → Prop} : orT a (fun G => G b) G ↔ G (a || b) := by unfold orT; cases a <;> simp
theorem i_p {α : Type} {k : Bool} {a b : α} {G : α → Prop} : iteT k (fun G => G a) (fun G => G b) G ↔ G (if k = true then a else b) := by unfold iteT; cases k <;> simp
theorem and_t {B : M Bool} {G : Bool → Prop} : andT true B G ↔ B G := by unfold andT; simp
theorem and_f {B : M Bool} {G : Bool → Prop} : andT false B G ↔ G false := by unfold andT; simp
theorem or_t {B : M Bool} {G : Bool → Prop} : orT true B G ↔ G true := by unfold orT; simp
theorem or_f {B : M Bool} {G : Bool → Prop} : orT false B G ↔ B G := by unfold orT; simp
theorem ite_t {α : Type} {A B : M α} {G : α → Prop} : iteT true A B G ↔ A G := by unfold iteT; simp
theorem ite_f {α : Type} {A B : M α} {G : α → Prop} : iteT false A B G ↔ B G := by unfold iteT; simp
theorem c2 {i : Int} : CDiv i 2 ↔ True := ⟨fun _ => trivial, fun _ => ⟨by decide, by decide⟩⟩
theorem c4 {i : Int} : CDiv i 4 ↔ True := ⟨fun _ => trivial, fun _ => ⟨by decide, by decide⟩⟩
theorem c16 {i : Int} : CDiv i 16 ↔ True := ⟨fun _ => trivial, fun _ => ⟨by decide, by decide⟩⟩
theorem cm2 {i : Int} : CMul i 2 ↔ True := ⟨fun _ => trivial, fun _ => .inr ⟨by decide, by decide⟩⟩

/-! what a law draws, comprehensions, sizes: rules used in many laws -/
theorem t0 {m : Int} {Q : Int → Prop} (hm : m < 2 ^ 64) (hm1 : 0 < m) (h : ∀ r, 0 ≤ r → r < m → Q r) : take0T m Q := ⟨hm, fun r h0 h1 => h r h0 (by omega)⟩
theorem t1 {m : Int} {Q : Int → Prop} (hm : m < 2 ^ 64) (hm1 : 0 < m) (h : ∀ r, 0 ≤ r → r < m → Q r) : takeT m Q := ⟨hm1, hm, fun r h0 h1 => h r h0 h1⟩
theorem pk {α : Type} {xs : List α} {Q : α → Prop} (h0 : xs ≠ []) (hl : xs.length ≤ 100000) (h : ∀ a ∈ xs, Q a) : pickT xs Q := ⟨h0, hl, h⟩
theorem nm {lo hi : Int} {Q : Int → Prop} (h0 : lo ≤ hi) (h1 : -(2 ^ 63) ≤ lo) (h2 : hi < 2 ^ 63) (h : ∀ r, lo ≤ r → r ≤ hi → Q r) : numT lo hi Q := ⟨h0, ⟨h1, h2⟩, h⟩
theorem sm_of {d : D} {k w : Nat} (h : Sz d k w) (hk : k ≤ 5) (hw : w ≤ 100000) : smD 5 d = true := sz_sm (h.mono hk (Nat.le_refl _)) hw
theorem same_i {a : Int} : smD 5 (.int a) = true := rfl
theorem same_b {a : Bool} : smD 5 (.bool a) = true := rfl
theorem and_any {a : Bool} {B : M Bool} {K : Bool → Prop} (hB : ∀ K : Bool → Prop, (∀ k, K k) → B K) (h : ∀ k, K k) : andT a B K := by
  unfold andT
  split
  · exact hB _ h
  · exact h _
theorem cmr {i j : Int} (h : -(2 ^ 64) < j ∧ j < 2 ^ 64) : CMul i j := .inr h
theorem cml {i j : Int} (h : -(2 ^ 64) < i ∧ i < 2 ^ 64) : CMul i j := .inl h
theorem cpe {α β : Type} {xs : List α} {B : α → M (Option β)} {f : α → β} {G : List β → Prop} (h : ∀ a ∈ xs, ∀ K, B a K ↔ K (some (f a))) : compT xs B G ↔ xs.length ≤ 100000 ∧ G (xs.map f) := by
  unfold compT
  have : ∀ (xs : List α) (G : List β → Prop), (∀ a ∈ xs, ∀ K, B a K ↔ K (some (f a))) → (lcT B xs G ↔ G (xs.map f)) := by
    intro xs
    induction xs with
    | nil => intro G _; exact Iff.rfl
    | cons a r ih =>
      intro G h
      show B a _ ↔ _
      rw [h a List.mem_cons_self]
      exact ih _ fun b hb => h b (List.mem_cons_of_mem _ hb)
  rw [this xs G h]
theorem cpf {α β : Type} {xs : List α} {B : α → M (Option β)} {t : α → Bool} {f : α → β} {G : List β → Prop} (h : ∀ a ∈ xs, ∀ K, B a K ↔ if t a = true then K (some (f a)) else K none) : compT xs B G ↔ xs.length ≤ 100000 ∧ G ((xs.filter t).map f) := by
  unfold compT
  have : ∀ (xs : List α) (G : List β → Prop), (∀ a ∈ xs, ∀ K, B a K ↔ if t a = true then K (some (f a)) else K none) → (lcT B xs G ↔ G ((xs.filter t).map f)) := by
    intro xs
    induction xs with
    | nil => intro G _; exact Iff.rfl
    | cons a r ih =>
      intro G h
      show B a _ ↔ _
      rw [h a List.mem_cons_self]
      cases ha : t a with
      | true => rw [if_pos rfl, List.filter_cons, ha, if_pos rfl]; exact ih _ fun b hb => h b (List.mem_cons_of_mem _ hb)
      | false => rw [if_neg Bool.false_ne_true, List.filter_cons, ha, if_neg Bool.false_ne_true]; exact ih _ fun b hb => h b (List.mem_cons_of_mem _ hb)
  rw [this xs G h]
/-- a comprehension that draws: of each item something of which P is true -/
theorem cpx {α β : Type} {xs : List α} {B : α → M (Option β)} {P : α → β → Prop} {G : List β → Prop} (hl : xs.length ≤ 100000) (h : ∀ a ∈ xs, ∀ K : Option β → Prop, (∀ b, P a b → K (some b)) → B a K)
    (k : ∀ ys, ys.length = xs.length → (∀ y ∈ ys, ∃ a ∈ xs, P a y) → G ys) : compT xs B G := by
  refine ⟨hl, ?_⟩
  have : ∀ (xs : List α) (G : List β → Prop), (∀ a ∈ xs, ∀ K : Option β → Prop, (∀ b, P a b → K (some b)) → B a K) → (∀ ys, ys.length = xs.length → (∀ y ∈ ys, ∃ a ∈ xs, P a y) → G ys) → lcT B xs G := by
    intro xs
    induction xs with
    | nil => intro G _ k; exact k [] rfl (fun y hy => nomatch hy)
    | cons a r ih =>
      intro G h k
      refine h a List.mem_cons_self _ fun b hb => ih _ (fun b hb => h b (List.mem_cons_of_mem _ hb)) fun ys e hy => k _ (by simp [e]) fun y hy' => ?_
      rcases List.mem_cons.mp hy' with rfl | hy'
      · exact ⟨a, List.mem_cons_self, hb⟩
      · obtain ⟨a', h1, h2⟩ := hy y hy'
        exact ⟨a', List.mem_cons_of_mem _ h1, h2⟩
  exact this xs G h k
theorem rgl (lo : Int) (n : Nat) : (rngT lo n).length = n := by unfold rngT; simp
theorem rgm {lo : Int} {n : Nat} {i : Int} : i ∈ rngT lo n ↔ lo ≤ i ∧ i < lo + n := by
  unfold rngT
  rw [List.mem_map]
  constructor
  · rintro ⟨k, h, rfl⟩
    have := List.mem_range.mp h
    omega
  · rintro ⟨h1, h2⟩
    exact ⟨(i - lo).toNat, List.mem_range.mpr (by omega), by omega⟩
theorem rg0 (lo : Int) : rngT lo 0 = [] := rfl
theorem rgs (lo : Int) (n : Nat) : rngT lo (n + 1) = lo :: rngT (lo + 1) n := by
  unfold rngT
  rw [List.range_succ_eq_map, List.map_cons, List.map_map]
  congr 1
  · simp
  · apply List.map_congr_left
    intro k _
    simp only [Function.comp, Nat.succ_eq_add_one]
    omega
theorem nt {A B : Prop} (h : B) : if (!true) = true then A else B := h
theorem nf {A B : Prop} (h : A) : if (!false) = true then A else B := h
theorem ff {A B : Prop} (h : B) : if false = true then A else B := h
theorem tt {A B : Prop} (h : A) : if true = true then A else B := h
theorem e_self {Q : Prop} : (∃ _ : Unit, Q) ↔ Q := ⟨fun ⟨_, q⟩ => q, fun q => ⟨(), q⟩⟩
theorem ok_s {a : Str} (h : PyData.strOk a = true) : okD (.str a) = true := by simp [okD, SeqAt.shaped, PyData.canLay0, PyData.depth, h]
/-- == of two texts -/
theorem eqs {a b : Str} {G : Bool → Prop} (ha : PyData.strOk a = true) (hb : PyData.strOk b = true) (g : G (decide (a = b))) : eqT (eD (.str a)) (PyData.str b) G :=
  ⟨ok_s ha, ok_s hb, by rw [show PyData.eqv (eD (.str a)) (.str b) = decide (a = b) by by_cases h : a = b <;> simp [eD, PyData.eqv, h]]; exact g⟩
/-- an item of a tuple of plain data -/
theorem d_lit {ds : List D} {a : D} {i : Int} {G : D → Prop} (h0 : 0 ≤ i) (h : ds[i.toNat]? = some a) (g : G a) : ixD (.tuple ds) i G := by
  unfold ixD oIx
  show match dix ds i with | some d => G d | none => False
  rw [dix_nn h0 h]
  exact g
theorem sl_le {n : Nat} (h : n ≤ 1000) : n ≤ sizeLine := Nat.le_trans h (by decide)

/-! rules for the functions z_.. -/
theorem rAll_some : ∀ ds : List D, rAll some ds = some ds
  | [] => rfl
  | d :: r => by unfold rAll; rw [rAll_some r]; rfl
theorem rU_t (ds : List D) : rU some (.tuple ds) = some ds := rAll_some ds
theorem rL_t (ds : List D) : rL some (.list ds) = some ds := rAll_some ds
theorem eU_t {α : Type} (e : α → D) (xs : List α) : eU e xs = .tuple (xs.map e) := rfl
theorem enum_mem {α : Type} : ∀ {xs : List α} {n : Nat} {a : Int × α}, a ∈ enumT n xs → ∃ k : Nat, a.1 = (n : Int) + k ∧ xs[k]? = some a.2
  | [], _, _, h => by cases h
  | x :: r, n, a, h => by
    unfold enumT at h
    rcases List.mem_cons.mp h with rfl | h
    · exact ⟨0, by simp, rfl⟩
    · obtain ⟨k, e1, e2⟩ := enum_mem h
      exact ⟨k + 1, by rw [e1]; omega, by simpa using e2⟩
theorem enum_len {α : Type} : ∀ (xs : List α) (n : Nat), (enumT n xs).length = xs.length
  | [], _ => rfl
  | _ :: r, n => by unfold enumT; simp [enum_len r]
theorem enum_get {α : Type} : ∀ (xs : List α) (n k : Nat) (x : α), xs[k]? = some x → (enumT n xs)[k]? = some ((n : Int) + k, x)
  | x :: r, n, 0, y, h => by cases h; unfold enumT; simp
  | x :: r, n, k + 1, y, h => by
    unfold enumT
    rw [List.getElem?_cons_succ, enum_get r (n + 1) k y (by simpa using h)]
    congr 2
    omega
theorem bnd {α β : Type} {o : Option α} {a : α} {f : α → Option β} (h : o = some a) : o.bind f = f a := by rw [h]; rfl
theorem lc1 (n : Nat) (h : n ≤ 1000) : n ≤ 100000 := by omega
/-- from what a function gives to what is promised -/
theorem zgo {α : Type} {o : Option α} {F : M α} {a : α} {G : α → Prop} (h : Zs o F) (e : o = some a) (g : G a) : F G := h G a e g

theorem bs {α β : Type} {a : α} {f : α → Option β} : (some a).bind f = f a := rfl
abbrev turns := Str.ofString "turns"
abbrev least := Str.ofString "least"
abbrev marks := Str.ofString "marks"
abbrev late := Str.ofString "late"
def C3 (c : Str) : Prop := c = turns ∨ c = least ∨ c = marks
def mostOf (c : Str) : Int := if decide (c = marks) = true then 8 else 100
def H3 (h : Str) : Prop := h = Str.ofString "up" ∨ h = Str.ofString "down" ∨ h = Str.ofString "draining"
abbrev ups : List D := List.map PyData.str [(((Str.ofString "up"), (Str.ofString "down"), (Str.ofString "draining"))).1, (((Str.ofString "up"), (Str.ofString "down"), (Str.ofString "draining"))).2.1, (((Str.ofString "up"), (Str.ofString "down"), (Str.ofString "draining"))).2.2]
abbrev chs : List D := List.map PyData.str [(Str.ofString "turns"), (Str.ofString "least"), (Str.ofString "marks")]
theorem ups_f : ups.all flatD = true := by decide +kernel
theorem chs_f : chs.all flatD = true := by decide +kernel
theorem up_in {h : Str} (hh : H3 h) : flatD (eD (.str h)) = true ∧ inD (eD (.str h)) ups = true := by
  rcases hh with rfl | rfl | rfl <;> decide +kernel
theorem ch_in {c : Str} (hc : C3 c) : flatD (eD (.str c)) = true ∧ inD (eD (.str c)) chs = true := by
  rcases hc with rfl | rfl | rfl <;> decide +kernel
/-- whether a number lies within: of any datum -/
def nw (d : D) (lo hi : Int) : Bool := match d with | .int i => decide (lo ≤ i) && decide (i ≤ hi) | _ => false
theorem zww {d : D} {lo hi : Int} : z_whole_within d lo hi = some (nw d lo hi) := by
  cases d <;> rfl
theorem zfw {w : Str} {b : Bool} {r : List (Str × Bool)} : z_first_wrong ((w, b) :: r) = if b = true then z_first_wrong r else some (some w) := by
  unfold z_first_wrong
  conv => lhs; unfold z_first_wrong_l1
  cases b <;> rfl
theorem zfn : z_first_wrong [] = some none := rfl
/-- a server that has no fault -/
structure GS (most : Int) (v : Srv) : Prop where
  name : ∃ s, v.1 = .str s ∧ z_is_name (.str s) = some true
  weight : nw v.2.2.2.1 0 most = true
  health : ∃ h, H3 h ∧ v.2.2.2.2 = .str h
theorem zsrv {v : Srv} {most : Int} {bn bh : Bool} (hn : z_is_name v.1 = some bn) (hf : flatD (eD v.2.2.2.2) = true) (hh : inD (eD v.2.2.2.2) ups = bh) :
    z__fault_of_server v most = some (if bn = true then (if nw v.2.2.2.1 0 most = true then (if bh = true then none else some (Str.ofString "health")) else some (Str.ofString "weight")) else some (Str.ofString "server")) := by
  unfold z__fault_of_server
  rw [bs, hn, bs, zww, bs, if_pos hf, if_pos ups_f, hh, zfw, zfw, zfw, zfn]
  cases bn
  · rfl
  · cases nw v.2.2.2.1 0 most
    · rfl
    · cases bh <;> rfl
theorem GS.ok {v : Srv} {most : Int} (h : GS most v) : z__fault_of_server v most = some none := by
  obtain ⟨s, e, hn⟩ := h.name
  obtain ⟨u, hu, e2⟩ := h.health
  rw [zsrv (bn := true) (bh := true) (by rw [e]; exact hn) (by rw [e2]; exact (up_in hu).1) (by rw [e2]; exact (up_in hu).2), h.weight]
  rfl
def mt : List (Str × Int) := [((Str.ofString "turns"), (100 : Int)), ((Str.ofString "least"), (100 : Int)), ((Str.ofString "marks"), (8 : Int))]
theorem mt_c {c : Str} (hc : C3 c) : List.lookup c mt = some (mostOf c) := by
  rcases hc with rfl | rfl | rfl <;> decide +kernel
/-- the walk over the servers -/
theorem zwalk {p : Svc} {c : Str} {kn : Option (Option Str)} (hc : C3 c) (e : p.2.2.1 = .str c) : ∀ {sv rest : List Srv}, (∀ v ∈ sv, GS (mostOf c) v) → z__fault_of_service_l1 p kn (sv ++ rest) = z__fault_of_service_l1 p kn rest
  | [], rest, _ => rfl
  | v :: sv, rest, h => by
    show z__fault_of_service_l1 p kn (v :: (sv ++ rest)) = _
    conv => lhs; unfold z__fault_of_service_l1
    have e1 : rS p.2.2.1 = some c := by rw [e]; rfl
    have e2 : List.lookup c [((Str.ofString "turns"), (100 : Int)), ((Str.ofString "least"), (100 : Int)), ((Str.ofString "marks"), (8 : Int))] = some (mostOf c) := mt_c hc
    rw [e1, bs, e2, bs, (h v List.mem_cons_self).ok, bs]
    exact zwalk hc e fun u hu => h u (List.mem_cons_of_mem _ hu)
theorem zstop {p : Svc} {c : Str} {kn : Option (Option Str)} {v : Srv} {rest : List Srv} {w : Str} (hc : C3 c) (e : p.2.2.1 = .str c) (h : z__fault_of_server v (mostOf c) = some (some w)) : z__fault_of_service_l1 p kn (v :: rest) = some (some w) := by
  conv => lhs; unfold z__fault_of_service_l1
  have e1 : rS p.2.2.1 = some c := by rw [e]; rfl
  have e2 : List.lookup c [((Str.ofString "turns"), (100 : Int)), ((Str.ofString "least"), (100 : Int)), ((Str.ofString "marks"), (8 : Int))] = some (mostOf c) := mt_c hc
  rw [e1, bs, e2, bs, h, bs]
  rfl
/-- the names of the servers as the keys of a dict -/
theorem znames : ∀ {sv : List Srv} {acc : List (D × D)}, (∀ v ∈ sv, ∃ s, v.1 = .str s) → dcZ (fun (server_2 : Srv) => ((Option.bind (rS server_2.1) fun c_2 => some (some (PyData.str c_2, PyData.bool true))) : Option (Option (D × D)))) sv acc = some (dkeys (sv.map (·.1)) acc)
  | [], acc, _ => rfl
  | v :: sv, acc, h => by
    obtain ⟨s, e⟩ := h v List.mem_cons_self
    unfold dcZ
    have e1 : rS v.1 = some s := by rw [e]; rfl
    rw [e1, bs, bs]
    dsimp only
    rw [znames fun u hu => h u (List.mem_cons_of_mem _ hu)]
    rw [List.map_cons, e]
    rfl
theorem zalike {sv : List Srv} (hl : sv.length ≤ 32) (h : ∀ v ∈ sv, ∃ s, v.1 = .str s) :
    (Option.bind (dcompZ sv (fun (server_2 : Srv) => ((Option.bind (rS server_2.1) fun c_2 => some (some (PyData.str c_2, PyData.bool true))) : Option (Option (D × D))))) fun names_1 => (Option.bind (lenKZ names_1) fun v_11 => some (if (decide (v_11 = (sv.length : Int))) = true then (none : Option Str) else (some (Str.ofString "alike"))))) =
      some (if decide ((sv.map fun v => keyOf v.1).Nodup) = true then none else some (Str.ofString "alike")) := by
  unfold dcompZ
  rw [if_pos (by omega), znames h]
  show some (if (decide (((dkeys (sv.map (·.1)) []).length : Int) = (sv.length : Int))) = true then _ else _) = _
  have e := dkeys_all (ks := sv.map (·.1))
  rw [List.length_map] at e
  rw [e, List.map_map]
  rfl
def KN (sv : List Srv) : Option (Option Str) := (Option.bind (dcompZ sv (fun (server_2 : Srv) => ((Option.bind (rS server_2.1) fun c_2 => some (some (PyData.str c_2, PyData.bool true))) : Option (Option (D × D))))) fun names_1 => (Option.bind (lenKZ names_1) fun v_11 => some (if (decide (v_11 = (sv.length : Int))) = true then (none : Option Str) else (some (Str.ofString "alike")))))
def okh (h : D) : Bool := isNo h || nw h 0 1000000
def okl (sv : List Srv) : Bool := decide ((1 : Int) ≤ (sv.length : Int)) && decide ((sv.length : Int) ≤ (32 : Int))
theorem zsvc {p : Svc} {E : List D} {bn : Bool} (hn : z_is_name p.1 = some bn) (hf : flatD (eD p.1) = true) (he : (E.map eD).all flatD = true) (hc : flatD (eD p.2.2.1) = true) :
    z__fault_of_service p E = if bn = true then (if inD (eD p.1) (E.map eD) = true then some (some (Str.ofString "twice")) else (if inD (eD p.2.2.1) chs = true then (if okh p.2.2.2 = true then (if okl p.2.1 = true then z__fault_of_service_l1 p (KN p.2.1) p.2.1 else some (some (Str.ofString "servers"))) else some (some (Str.ofString "hold"))) else some (some (Str.ofString "choice")))) else some (some (Str.ofString "name")) := by
  have h3 : (if (isNo p.2.2.2) = true then some true else (Option.bind (z_whole_within p.2.2.2 (0 : Int) (1000000 : Int)) fun v_2 => some v_2)) = some (okh p.2.2.2) := by
    unfold okh
    rw [zww, bs]
    cases isNo p.2.2.2 <;> rfl
  have h4 : z_within (p.2.1.length : Int) 1 32 = some (okl p.2.1) := rfl
  unfold z__fault_of_service
  rw [bs, hn, bs, if_pos hf, if_pos he, if_pos hc, if_pos chs_f, h3, bs, h4, bs, zfw, zfw, zfw, zfw, zfw, zfn]
  cases bn
  · rfl
  · cases inD (eD p.1) (E.map eD)
    · cases inD (eD p.2.2.1) chs
      · rfl
      · cases okh p.2.2.2
        · rfl
        · cases okl p.2.1
          · rfl
          · rfl
    · rfl
/-- a service that has no fault but perhaps in its name -/
structure Gd (sv : List Srv) (c h : D) : Prop where
  c : ∃ s, C3 s ∧ c = .str s ∧ ∀ v ∈ sv, GS (mostOf s) v
  h : okh h = true
  l : 1 ≤ sv.length ∧ sv.length ≤ 32
  nd : (sv.map fun v => keyOf v.1).Nodup
/-- a right name that is none of the earlier ones -/
structure Nm (n : D) (E : List D) : Prop where
  nm : ∃ s, n = .str s ∧ z_is_name (.str s) = some true
  ni : inD (eD n) (E.map eD) = false
  ef : (E.map eD).all flatD = true
theorem okl_t {sv : List Srv} (h : 1 ≤ sv.length ∧ sv.length ≤ 32) : okl sv = true := by
  unfold okl
  rw [decide_eq_true (by omega), decide_eq_true (by omega)]
  rfl
theorem flS (s : Str) : flatD (eD (.str s)) = true := rfl
theorem Gd.ok {n c h : D} {sv : List Srv} {E : List D} (g : Gd sv c h) (m : Nm n E) : z__fault_of_service (n, sv, c, h) E = some none := by
  obtain ⟨s, rfl, hn⟩ := m.nm
  obtain ⟨cs, hc, rfl, hs⟩ := g.c
  rw [zsvc (bn := true) hn (flS s) m.ef (flS cs), if_pos rfl, m.ni, if_neg Bool.false_ne_true, (ch_in hc).2, if_pos rfl, g.h, if_pos rfl, okl_t g.l, if_pos rfl]
  have := zwalk (p := (.str s, sv, .str cs, h)) (kn := KN sv) hc rfl (sv := sv) (rest := []) hs
  rw [List.append_nil] at this
  dsimp only
  rw [this]
  show KN sv = _
  unfold KN
  rw [zalike g.l.2 fun v hv => by obtain ⟨x, e, _⟩ := (hs v hv).name; exact ⟨x, e⟩, decide_eq_true g.nd]
  rfl
/-! what is wrong first -/
theorem bad_name {n c h : D} {sv : List Srv} {E : List D} (hn : z_is_name n = some false) (hf : flatD (eD n) = true) (he : (E.map eD).all flatD = true) (hc : flatD (eD c) = true) : z__fault_of_service (n, sv, c, h) E = some (some (Str.ofString "name")) := by
  rw [zsvc (bn := false) hn hf he hc]
  rfl
theorem bad_twice {s : Str} {c h : D} {sv : List Srv} {E : List D} (hn : z_is_name (.str s) = some true) (he : (E.map eD).all flatD = true) (hi : inD (eD (.str s)) (E.map eD) = true) (hc : flatD (eD c) = true) : z__fault_of_service (.str s, sv, c, h) E = some (some (Str.ofString "twice")) := by
  rw [zsvc (bn := true) hn (flS s) he hc, if_pos rfl, hi]
  rfl
theorem bad_choice {n c h : D} {sv : List Srv} {E : List D} (m : Nm n E) (hc : flatD (eD c) = true) (hi : inD (eD c) chs = false) : z__fault_of_service (n, sv, c, h) E = some (some (Str.ofString "choice")) := by
  obtain ⟨s, rfl, hn⟩ := m.nm
  rw [zsvc (bn := true) hn (flS s) m.ef hc, if_pos rfl, m.ni, if_neg Bool.false_ne_true, hi]
  rfl
theorem bad_hold {n h : D} {c : Str} {sv : List Srv} {E : List D} (m : Nm n E) (hc : C3 c) (hh : okh h = false) : z__fault_of_service (n, sv, .str c, h) E = some (some (Str.ofString "hold")) := by
  obtain ⟨s, rfl, hn⟩ := m.nm
  rw [zsvc (bn := true) hn (flS s) m.ef (flS c), if_pos rfl, m.ni, if_neg Bool.false_ne_true, (ch_in hc).2, if_pos rfl, hh]
  rfl
theorem bad_servers {n h : D} {c : Str} {sv : List Srv} {E : List D} (m : Nm n E) (hc : C3 c) (hh : okh h = true) (hl : okl sv = false) : z__fault_of_service (n, sv, .str c, h) E = some (some (Str.ofString "servers")) := by
  obtain ⟨s, rfl, hn⟩ := m.nm
  rw [zsvc (bn := true) hn (flS s) m.ef (flS c), if_pos rfl, m.ni, if_neg Bool.false_ne_true, (ch_in hc).2, if_pos rfl, hh, if_pos rfl, hl]
  rfl
theorem bad_server {n h : D} {c w : Str} {sv rest : List Srv} {v : Srv} {E : List D} (m : Nm n E) (hc : C3 c) (hh : okh h = true) (hl : okl (sv ++ v :: rest) = true) (hs : ∀ u ∈ sv, GS (mostOf c) u) (hv : z__fault_of_server v (mostOf c) = some (some w)) : z__fault_of_service (n, sv ++ v :: rest, .str c, h) E = some (some w) := by
  obtain ⟨s, rfl, hn⟩ := m.nm
  rw [zsvc (bn := true) hn (flS s) m.ef (flS c), if_pos rfl, m.ni, if_neg Bool.false_ne_true, (ch_in hc).2, if_pos rfl, hh, if_pos rfl, hl, if_pos rfl]
  dsimp only
  rw [zwalk (p := (.str s, sv ++ v :: rest, .str c, h)) hc rfl hs, zstop hc rfl hv]
theorem bad_alike {n h : D} {c : Str} {sv : List Srv} {E : List D} (m : Nm n E) (hc : C3 c) (hh : okh h = true) (hl : 1 ≤ sv.length ∧ sv.length ≤ 32) (hs : ∀ u ∈ sv, GS (mostOf c) u) (nd : ¬ (sv.map fun v => keyOf v.1).Nodup) : z__fault_of_service (n, sv, .str c, h) E = some (some (Str.ofString "alike")) := by
  obtain ⟨s, rfl, hn⟩ := m.nm
  rw [zsvc (bn := true) hn (flS s) m.ef (flS c), if_pos rfl, m.ni, if_neg Bool.false_ne_true, (ch_in hc).2, if_pos rfl, hh, if_pos rfl, okl_t hl, if_pos rfl]
  have := zwalk (p := (.str s, sv, .str c, h)) (kn := KN sv) hc rfl (sv := sv) (rest := []) hs
  rw [List.append_nil] at this
  dsimp only
  rw [this]
  show KN sv = _
  unfold KN
  rw [zalike hl.2 fun v hv => by obtain ⟨x, e, _⟩ := (hs v hv).name; exact ⟨x, e⟩, decide_eq_false nd]
  rfl
/-! all services -/
theorem eDm (ds : List D) : ds.map eD = ds := map_eD ds
theorem cut_le {α : Type} {xs : List α} {k : Nat} (h : k ≤ xs.length) : cutD xs none (some (k : Int)) = xs.take k := by
  unfold cutD
  have e0 : HT.sIx xs.length 0 none = 0 := rfl
  have e1 : HT.sIx xs.length xs.length (some (k : Int)) = k := by
    unfold HT.sIx
    simp
    split <;> omega
  rw [e0, e1, List.drop_zero, Nat.sub_zero]
def fz (R : List Svc) (k : Nat) : List (Int × Svc) → Option (Option (Int × (Option Str))) := z_fault_of_services_l1 R (some none)
theorem fzg {R : List Svc} (hl : R.length ≤ 100000) : ∀ {S rest : List Svc} {k : Nat}, R.drop k = S ++ rest → (∀ j : Nat, ∀ v : Svc, S[j]? = some v → z__fault_of_service v ((R.take (k + j)).map (·.1)) = some none) → z_fault_of_services_l1 R (some none) (enumT k (S ++ rest)) = z_fault_of_services_l1 R (some none) (enumT (k + S.length) rest)
  | [], rest, k, _, _ => rfl
  | v :: S, rest, k, e, h => by
    have hk : k ≤ R.length := by
      have := congrArg List.length e
      rw [List.length_drop] at this
      simp at this
      omega
    have h0 := h 0 v rfl
    rw [Nat.add_zero] at h0
    show z_fault_of_services_l1 R (some none) (enumT k (v :: (S ++ rest))) = _
    conv => lhs; unfold enumT
    conv => lhs; unfold z_fault_of_services_l1
    dsimp only
    rw [cut_le hk, if_pos (by rw [List.length_take]; omega), h0, bs]
    have e2 : R.drop (k + 1) = S ++ rest := by
      have : R.drop (k + 1) = (R.drop k).drop 1 := by rw [List.drop_drop]
      rw [this, e]
      rfl
    have := fzg hl (k := k + 1) e2 fun j u hu => by
      have := h (j + 1) u (by rw [List.getElem?_cons_succ]; exact hu)
      rw [show k + 1 + j = k + (j + 1) by omega]
      exact this
    show z_fault_of_services_l1 R (some none) (enumT (k + 1) (S ++ rest)) = _
    have e3 : k + 1 + S.length = k + (S.length + 1) := by omega
    rw [this, List.length_cons, e3]
/-- none has a fault -/
theorem all_ok {R : List Svc} (hl : R.length ≤ 16) (h : ∀ j : Nat, ∀ v : Svc, R[j]? = some v → z__fault_of_service v ((R.take j).map (·.1)) = some none) : z_fault_of_services R = some none := by
  unfold z_fault_of_services
  rw [if_neg (by rw [decide_eq_false (by omega)]; exact Bool.false_ne_true)]
  have := fzg (R := R) (by omega) (S := R) (rest := []) (k := 0) (by simp) (fun j v hv => by rw [Nat.zero_add]; exact h j v hv)
  rw [List.append_nil] at this
  show z_fault_of_services_l1 R (some none) (enumT (0 : Nat) R) = _
  rw [this]
  rfl
/-- the first that has one -/
theorem one_bad {S rest : List Svc} {b : Svc} {w : Str} (hl : (S ++ b :: rest).length ≤ 16) (h : ∀ j : Nat, ∀ v : Svc, S[j]? = some v → z__fault_of_service v ((S.take j).map (·.1)) = some none) (hb : z__fault_of_service b (S.map (·.1)) = some (some w)) : z_fault_of_services (S ++ b :: rest) = some (some ((S.length : Int), some w)) := by
  unfold z_fault_of_services
  rw [if_neg (by rw [decide_eq_false (by omega)]; exact Bool.false_ne_true)]
  have := fzg (R := S ++ b :: rest) (by omega) (S := S) (rest := b :: rest) (k := 0) rfl (fun j v hv => by
    rw [Nat.zero_add]
    have hj : j < S.length := (List.getElem?_eq_some_iff.mp hv).1
    rw [List.take_append_of_le_length (by omega)]
    exact h j v hv)
  show z_fault_of_services_l1 _ (some none) (enumT (0 : Nat) (S ++ b :: rest)) = _
  rw [this, Nat.zero_add]
  unfold enumT
  conv => lhs; unfold z_fault_of_services_l1
  dsimp only
  rw [cut_le (by simp), if_pos (by rw [List.length_take]; omega), List.take_left', hb, bs]
  · rfl
  · rfl
theorem too_many {R : List Svc} (h : 16 < R.length) : z_fault_of_services R = some (some (16, some (Str.ofString "services"))) := by
  unfold z_fault_of_services
  rw [if_pos (by rw [decide_eq_true (by omega)])]
/-! who may serve -/
abbrev up := Str.ofString "up"
def ebv (v : Srv) : Bool := PyData.eqv v.2.2.2.2 (.str up) && (match v.2.2.2.1 with | .int i => decide ((1 : Int) ≤ i) | _ => false)
theorem okh3 {h : Str} (hh : H3 h) : okD (eD (.str h)) = true ∧ okD (.str up) = true := by rcases hh with rfl | rfl | rfl <;> decide +kernel
theorem nw_int {d : D} {lo hi : Int} (h : nw d lo hi = true) : ∃ i, d = .int i ∧ lo ≤ i ∧ i ≤ hi := by
  cases d with
  | int i =>
    unfold nw at h
    rw [Bool.and_eq_true, decide_eq_true_eq, decide_eq_true_eq] at h
    exact ⟨i, rfl, h⟩
  | _ => cases h
theorem elig1 {v : Srv} {m : Int} (g : GS m v) {β : Type} {K : Bool → Option β} : (Option.bind (eqZ (eD v.2.2.2.2) (PyData.str (Str.ofString "up"))) fun v_7 => (Option.bind (if v_7 = true then (Option.bind (rI v.2.2.2.1) fun c_3 => some (decide ((1 : Int) ≤ c_3))) else some false) K)) = K (ebv v) := by
  obtain ⟨h, hh, e⟩ := g.health
  obtain ⟨i, ei, _⟩ := nw_int g.weight
  have e1 : eqZ (eD v.2.2.2.2) (PyData.str (Str.ofString "up")) = some (PyData.eqv v.2.2.2.2 (.str up)) := by
    rw [e]
    exact if_pos (okh3 hh)
  rw [e1, bs, ei]
  unfold ebv
  rw [ei]
  cases PyData.eqv v.2.2.2.2 (.str up) <;> rfl
def elg (xs : List (Int × Srv)) : List Int := (xs.filter fun p => ebv p.2).map (·.1)
theorem zelig {n c h : D} {sv : List Srv} {m : Int} (hl : sv.length ≤ 32) (hs : ∀ v ∈ sv, GS m v) : z_eligible (n, sv, c, h) = some (elg (enumT 0 sv)) := by
  unfold z_eligible
  dsimp only
  unfold compZ
  rw [if_pos (by rw [enum_len]; omega), lcZ_filter (t := fun p => ebv p.2) (g := fun p => p.1) fun a ha => ?_]
  · rfl
  · obtain ⟨k, _, e⟩ := enum_mem ha
    have g := hs a.2 (List.mem_of_getElem? e)
    rw [elig1 g]
    cases ebv a.2 <;> rfl
theorem zlel {p : Svc} {m : Int} (hs : ∀ v ∈ p.2.1, GS m v) (hl : p.2.1.length ≤ 32) : ∀ {S : List Srv} {k : Nat} {acc : List Int}, p.2.1.drop k = S → acc.length ≤ k → z__law_eligible_l1 p (fun f => some f) (rngT k S.length) acc = some (acc ++ elg (enumT k S))
  | [], k, acc, e, ha => by
    show z__law_eligible_l1 p _ (rngT k 0) acc = _
    rw [rg0]
    show some acc = some (acc ++ [])
    rw [List.append_nil]
  | v :: S, k, acc, e, ha => by
    have hk : p.2.1[k]? = some v := by
      have := List.getElem?_drop (xs := p.2.1) (i := k) (j := 0)
      rw [e, Nat.add_zero] at this
      exact this.symm
    have hlt : k < p.2.1.length := (List.getElem?_eq_some_iff.mp hk).1
    have hat : atI p.2.1 (k : Int) = some v := by
      unfold atI ixN
      have e' : (if (k : Int) < (p.2.1.length : Int) then some (k : Int).toNat else none) = some k := by rw [if_pos (by omega)]; rfl
      rw [if_pos (by omega), e']
      exact hk
    have e2 : p.2.1.drop (k + 1) = S := by
      have : p.2.1.drop (k + 1) = (p.2.1.drop k).drop 1 := by rw [List.drop_drop]
      rw [this, e]
      rfl
    rw [List.length_cons, rgs]
    conv => lhs; unfold z__law_eligible_l1
    rw [hat]
    simp only [bs]
    have g := hs v (List.mem_of_getElem? hk)
    rw [elig1 g]
    have i1 := fun acc => zlel hs hl (S := S) (k := k + 1) (acc := acc) e2
    have e5 : elg (enumT k (v :: S)) = (if ebv v = true then [(k : Int)] else []) ++ elg (enumT (k + 1) S) := by
      show elg (((k : Int), v) :: enumT (k + 1) S) = _
      unfold elg
      rw [List.filter_cons]
      cases ebv v <;> rfl
    rw [e5]
    cases hb : ebv v
    · rw [if_neg Bool.false_ne_true, if_neg Bool.false_ne_true, List.nil_append]
      exact i1 acc (by omega)
    · rw [if_pos rfl, if_pos rfl, ← List.append_assoc]
      have : appZ acc (k : Int) = some (acc ++ [(k : Int)]) := if_pos (by omega)
      rw [this, bs]
      exact i1 _ (by rw [List.length_append]; simp; omega)
theorem zlelig {n c h : D} {sv : List Srv} {m : Int} (hl : sv.length ≤ 32) (hs : ∀ v ∈ sv, GS m v) : z__law_eligible (n, sv, c, h) = some (elg (enumT 0 sv)) := by
  unfold z__law_eligible
  dsimp only
  rw [if_pos (by omega)]
  have := zlel (p := (n, sv, c, h)) hs hl (S := sv) (k := 0) (acc := []) rfl (Nat.le_refl _)
  rw [List.nil_append] at this
  exact this
/-! draws -/
def Mo2 (m : Int) : Prop := m = 8 ∨ m = 100
abbrev nok (s : Str) : Prop := z_is_name (.str s) = some true
theorem pick3 {α : Type} {xs : List α} {v : Int} {G : α → Prop} (h0 : 0 ≤ v) (h1 : v < (xs.length : Int)) (h : ∀ a ∈ xs, G a) : ixT xs v G := by
  have hl : v.toNat < xs.length := by omega
  refine ⟨xs[v.toNat], ?_, h _ (List.getElem_mem hl)⟩
  unfold atI ixN
  have e' : (if v < (xs.length : Int) then some v.toNat else none) = some v.toNat := if_pos h1
  rw [if_pos h0, e']
  exact List.getElem?_eq_getElem hl
theorem nwi {i lo hi : Int} (h0 : lo ≤ i) (h1 : i ≤ hi) : nw (.int i) lo hi = true := by
  show (decide (lo ≤ i) && decide (i ≤ hi)) = true
  rw [decide_eq_true h0, decide_eq_true h1]
  rfl
theorem srv {s : Str} {m : Int} {Q : Srv → Prop} (hm : Mo2 m) (hn : nok s) (H : ∀ v : Srv, v.1 = .str s → GS m v → Q v) : y__law_server s m Q := by
  have hm1 : 8 ≤ m ∧ m ≤ 100 := by rcases hm with rfl | rfl <;> omega
  unfold y__law_server
  refine t1 (by decide) (by decide) fun v1 h10 h11 => pick3 h10 (by simpa using h11) fun he hhe => ?_
  refine t1 (by omega) (by omega) fun v4 h40 h41 => t1 (by decide) (by decide) fun v6 h60 h61 => t1 (by decide) (by decide) fun v7 h70 h71 => pick3 h70 (by simpa using h71) fun w hw => ?_
  refine t1 (by decide) (by decide) fun v10 _ _ => H _ rfl ⟨⟨s, rfl, hn⟩, ?_, ⟨he, ?_, rfl⟩⟩
  · simp only [List.mem_cons, List.not_mem_nil, or_false] at hw
    refine nwi ?_ ?_
    · rcases hw with rfl | rfl | rfl | rfl | rfl <;> omega
    · rcases hw with rfl | rfl | rfl | rfl | rfl <;> omega
  · simp only [List.mem_cons, List.not_mem_nil, or_false] at hhe
    rcases hhe with rfl | rfl | rfl | rfl | rfl
    · exact .inl rfl
    · exact .inl rfl
    · exact .inl rfl
    · exact .inr (.inl rfl)
    · exact .inr (.inr rfl)
def kL (L : List Srv) : List (Option Key) := L.map fun v => keyOf v.1
def kR (R : List Str) : List (Option Key) := R.map fun s => some (Sum.inr s)
theorem er_perm {α : Type} : ∀ {l : List α} {n : Nat} (h : n < l.length), (l[n] :: l.eraseIdx n).Perm l
  | a :: l, 0, h => List.Perm.refl _
  | a :: l, n + 1, h => by
    have ih := er_perm (l := l) (n := n) (by simpa using h)
    show (l[n]'(by simpa using h) :: a :: l.eraseIdx n).Perm (a :: l)
    exact (List.Perm.swap _ _ _).trans (ih.cons a)
theorem svc1 {m : Int} {Q : Svc → Prop} {kn : List Str → List Srv → Prop} (hm : Mo2 m) : ∀ (j : Nat) (lo : Int) (R : List Str) (L : List Srv), j ≤ R.length → R.length ≤ 100 → L.length + j ≤ 100 → (kL L ++ kR R).Nodup → (∀ s ∈ R, nok s) → (∀ v ∈ L, GS m v) →
    (∀ R' L', L'.length = L.length + j → (∀ v ∈ L', GS m v) → (kL L').Nodup → kn R' L') → y__law_service_l1 m Q kn (rngT lo j) R L
  | 0, lo, R, L, hj, hr, hl, nd, hn, hs, H => by
    rw [rg0]
    unfold y__law_service_l1
    exact H R L rfl hs (List.nodup_append.mp nd).1
  | j + 1, lo, R, L, hj, hr, hl, nd, hn, hs, H => by
    rw [rgs]
    unfold y__law_service_l1
    refine t1 (by omega) (by omega) fun v h0 h1 => ?_
    have hlt : v.toNat < R.length := by omega
    refine ⟨by omega, v.toNat, R[v.toNat], ?_, List.getElem?_eq_getElem hlt, ?_⟩
    · unfold ixN
      rw [if_pos h0, if_pos h1]
    · refine srv hm (hn _ (List.getElem_mem hlt)) fun w hw g => ⟨by omega, ?_⟩
      have hp : (kL (L ++ [w]) ++ kR (R.eraseIdx v.toNat)).Perm (kL L ++ kR R) := by
        have e1 : kL (L ++ [w]) = kL L ++ [some (Sum.inr R[v.toNat])] := by
          unfold kL
          rw [List.map_append, List.map_cons, hw]
          rfl
        rw [e1, List.append_assoc]
        refine List.Perm.append_left _ ?_
        have := (er_perm hlt).map (fun s : Str => (some (Sum.inr s) : Option Key))
        exact this
      refine svc1 hm j (lo + 1) _ _ (by rw [List.length_eraseIdx]; simp [hlt]; omega) (by rw [List.length_eraseIdx]; simp [hlt]; omega) ?_ (hp.nodup_iff.mpr nd) (fun s hs => hn s (List.mem_of_mem_eraseIdx hs)) ?_ fun R' L' e g' n' => H R' L' (by rw [e, List.length_append]; simp; omega) g' n'
      · rw [List.length_append]
        simp
        omega
      · intro u hu
        rcases List.mem_append.mp hu with hu | hu
        · exact hs u hu
        · rw [List.mem_singleton.mp hu]; exact g
def nms : List Str := [(Str.ofString "a"), (Str.ofString "b"), (Str.ofString "c"), (Str.ofString "d"), (Str.ofString "e"), (Str.ofString "web"), (Str.ofString "abcdefghij")]
theorem nms_ok : ∀ s ∈ nms, nok s := by decide +kernel
theorem nms_nd : (kR nms).Nodup := by decide +kernel
theorem mo_c {c : Str} : Mo2 (mostOf c) := by
  unfold mostOf
  split
  · exact .inl rfl
  · exact .inr rfl
theorem svc {c : Str} {h : Option Int} {Q : Svc → Prop} (hc : C3 c) (hh : okh (eO PyData.int h) = true) (H : ∀ sv, Gd sv (.str c) (eO PyData.int h) → Q (.str (Str.ofString "s"), sv, .str c, eO PyData.int h)) : y__law_service c h Q := by
  unfold y__law_service
  dsimp only [letT]
  refine t1 (by decide) (by decide) fun v2 h0 h1 => ⟨⟨by omega, by omega⟩, ?_⟩
  refine svc1 (m := mostOf c) mo_c (1 + v2).toNat 0 nms [] (by show (1 + v2).toNat ≤ 7; omega) (by decide) (by show 0 + (1 + v2).toNat ≤ 100; omega) (by show ([] ++ kR nms).Nodup; rw [List.nil_append]; exact nms_nd) nms_ok (fun v hv => nomatch hv) fun R' L' e g nd => ?_
  refine H L' ⟨⟨c, hc, rfl, g⟩, hh, ?_, nd⟩
  rw [e, List.length_nil]
  omega
/-- many servers -/
def lt26 (k : Nat) : Str := ⟨#[97 + k % 26]⟩
def nmk (k : Nat) : Str := Txt.mul (lt26 k) (1 + (k : Int) / 26)
theorem nmk_ok : ∀ k : Fin 33, nok (nmk k.val) ∧ ixSZ (Str.ofString "abcdefghijklmnopqrstuvwxyz") ((k.val : Int) % 26) = some (lt26 k.val) ∧ (lt26 k.val).length ≤ 16 := by decide +kernel
theorem nmk_nd : (kR ((List.range 33).map nmk)).Nodup := by decide +kernel
theorem nmk_nd2 : (kR ((List.range 32).map nmk)).Nodup := by decide +kernel
abbrev Tm := Str × Int × Int × Int × Str
def tmOk (t : Tm) : Prop := nok t.1 ∧ 1 ≤ t.2.2.2.1 ∧ t.2.2.2.1 ≤ 8 ∧ H3 t.2.2.2.2
theorem many1 {Q : List Srv → Prop} {kn : List Tm → Prop} {cnt : Nat} (hc : cnt ≤ 33) : ∀ (j k : Nat) (acc : List Tm), k + j = cnt → acc.length = k → acc.map (·.1) = (List.range k).map nmk → (∀ t ∈ acc, tmOk t) → (∀ fs, fs.length = cnt → fs.map (·.1) = (List.range cnt).map nmk → (∀ t ∈ fs, tmOk t) → kn fs) → y__law_many_l1 Q kn (rngT k j) acc
  | 0, k, acc, hj, hl, he, ho, H => by
    rw [rg0]
    unfold y__law_many_l1
    have : k = cnt := by omega
    subst this
    exact H acc hl he ho
  | j + 1, k, acc, hj, hl, he, ho, H => by
    rw [rgs]
    unfold y__law_many_l1
    have f := nmk_ok ⟨k, by omega⟩
    refine ⟨by decide, zgo zs_ixS f.2.1 ⟨⟨by decide, by decide⟩, f.2.2, ⟨by omega, by omega⟩, by decide, ?_⟩⟩
    refine t1 (by decide) (by decide) fun v4 h0 h1 => pick3 h0 (by simpa using h1) fun he5 hh => ⟨by omega, ?_⟩
    have ok : tmOk (nmk k, (1 : Int), (80 : Int), ((1 : Int) + ((k : Int) % (8 : Int))), he5) := by
      refine ⟨f.1, by show (1 : Int) ≤ 1 + (k : Int) % 8; omega, by show 1 + (k : Int) % 8 ≤ (8 : Int); omega, ?_⟩
      simp only [List.mem_cons, List.not_mem_nil, or_false] at hh
      rcases hh with rfl | rfl
      · exact .inl rfl
      · exact .inr (.inl rfl)
    exact many1 hc j (k + 1) _ (by omega) (by rw [List.length_append]; simp; omega) (by rw [List.map_append, he, List.range_succ, List.map_append]; rfl) (fun t ht => by
      rcases List.mem_append.mp ht with ht | ht
      · exact ho t ht
      · rw [List.mem_singleton.mp ht]; exact ok) H
theorem many {cnt : Nat} (hc : cnt = 32 ∨ cnt = 33) {Q : List Srv → Prop} (H : ∀ sv : List Srv, sv.length = cnt → (∀ m, Mo2 m → ∀ v ∈ sv, GS m v) → (sv.map fun v => keyOf v.1).Nodup → Q sv) : y__law_many (cnt : Int) Q := by
  have hn : (kR ((List.range cnt).map nmk)).Nodup := by rcases hc with rfl | rfl; exact nmk_nd2; exact nmk_nd
  have h33 : cnt ≤ 33 := by omega
  clear hc
  unfold y__law_many
  refine ⟨⟨by omega, by omega⟩, ?_⟩
  rw [Int.toNat_natCast]
  refine many1 h33 cnt 0 [] (by omega) rfl rfl (fun t ht => nomatch ht) fun fs hl he ho => H _ (by rw [List.length_map]; exact hl) (fun m hm v hv => ?_) ?_
  · obtain ⟨t, ht, rfl⟩ := List.mem_map.mp hv
    have o := ho t ht
    refine ⟨⟨_, rfl, o.1⟩, nwi (by have := o.2.1; omega) ?_, ⟨_, o.2.2.2, rfl⟩⟩
    have := o.2.2.1
    rcases hm with rfl | rfl <;> omega
  · rw [List.map_map]
    have : (fs.map ((fun v : Srv => keyOf v.1) ∘ fun a : Tm => ((PyData.str a.1), a.2.1, a.2.2.1, (PyData.int a.2.2.2.1), (PyData.str a.2.2.2.2)))) = kR (fs.map (·.1)) := by
      unfold kR
      rw [List.map_map]
      rfl
    rw [this, he]
    exact hn
/-! what is spoilt -/
theorem cut_ge {α : Type} {xs : List α} {k : Nat} : cutD xs (some (k : Int)) none = xs.drop k := by
  unfold cutD
  have e1 : HT.sIx xs.length xs.length none = xs.length := rfl
  have e0 : HT.sIx xs.length 0 (some (k : Int)) = min k xs.length := by
    unfold HT.sIx
    simp
    intro hh
    omega
  rw [e0, e1, ← List.length_drop, List.take_length]
  rcases Nat.le_total k xs.length with q | q
  · rw [Nat.min_eq_left q]
  · rw [Nat.min_eq_right q, List.drop_length, List.drop_of_length_le q]
theorem okc {c : Str} (hc : C3 c ∨ c = late) : okD (eD (.str c)) = true := by
  rcases hc with (rfl | rfl | rfl) | rfl <;> decide +kernel
theorem okc2 : okD (.str late) = true ∧ okD (.str marks) = true := by decide +kernel
theorem mk_c {c : Str} (hc : C3 c) : PyData.eqv (eD (.str c)) (.str marks) = decide (c = marks) := by
  rcases hc with rfl | rfl | rfl <;> decide +kernel
structure Sp (n : D) (b : Svc) (w : Str) : Prop where
  f : ∀ E, Nm n E → z__fault_of_service b E = some (some w)
  s : (PyData.strOk w && decide (w.cps.size ≤ 40)) = true
theorem j1 {n h : D} {c w : Str} {sv : List Srv} {bad : Srv} {kd : Int} {a : Nat} {Q : Svc × Str → Prop} (hc : C3 c) (g : Gd sv (.str c) h) (hs : ∀ v ∈ sv, GS (mostOf c) v) (ha : a < sv.length) (hk : kd ≠ 7) (hb : z__fault_of_server bad (mostOf c) = some (some w)) (hw : (PyData.strOk w && decide (w.cps.size ≤ 40)) = true) (H : ∀ b w, Sp n b w → Q (b, w)) : y__law_spoilt_j1 (n, sv, .str c, h) kd (a : Int) Q bad w := by
  have e2 : cutD sv (some ((a : Int) + 1)) none = sv.drop (a + 1) := cut_ge (k := a + 1)
  have hl := g.l
  unfold y__law_spoilt_j1
  rw [if_neg (by rw [decide_eq_false hk]; exact Bool.false_ne_true)]
  dsimp only
  rw [cut_le (by omega), e2]
  refine ⟨sl_le (by rw [List.length_take]; simp; omega), sl_le (by rw [List.length_append, List.length_take, List.length_drop]; simp; omega), H _ _ ⟨fun E m => ?_, hw⟩⟩
  rw [List.append_assoc]
  show z__fault_of_service (n, sv.take a ++ bad :: sv.drop (a + 1), .str c, h) E = _
  refine bad_server m hc g.h (okl_t ?_) (fun u hu => hs u (List.mem_of_mem_take hu)) hb
  rw [List.length_append, List.length_take, List.length_cons, List.length_drop]
  omega
theorem j17 {n h : D} {c w : Str} {sv : List Srv} {bad : Srv} {a : Int} {Q : Svc × Str → Prop} (hc : C3 c) (g : Gd sv (.str c) h) (hs : ∀ v ∈ sv, GS (mostOf c) v) (H : ∀ b w, Sp n b w → Q (b, w)) : y__law_spoilt_j1 (n, sv, .str c, h) 7 a Q bad w := by
  have hl := g.l
  unfold y__law_spoilt_j1
  rw [if_pos (by decide)]
  dsimp only
  cases sv with
  | nil => simp at hl
  | cons v0 sv =>
    have e : cutD (v0 :: sv) none (some (31 : Int)) = (v0 :: sv).take 31 := by
      unfold cutD
      have e0 : HT.sIx (v0 :: sv).length 0 none = 0 := rfl
      rw [e0, List.drop_zero, Nat.sub_zero]
      have e1 : HT.sIx (v0 :: sv).length (v0 :: sv).length (some (31 : Int)) = min 31 (v0 :: sv).length := by
        unfold HT.sIx
        simp
      rw [e1]
      rcases Nat.le_total 31 (v0 :: sv).length with q | q
      · rw [Nat.min_eq_left q]
      · rw [Nat.min_eq_right q, List.take_length, List.take_of_length_le q]
    refine x_0.mpr ?_
    rw [e]
    refine ⟨sl_le (by rw [List.length_take]; simp; omega), H _ _ ⟨fun E m => ?_, by decide +kernel⟩⟩
    refine bad_alike m hc g.h ?_ (fun u hu => ?_) (fun nd => ?_)
    · rw [List.length_append, List.length_take]; simp; omega
    · rcases List.mem_append.mp hu with hu | hu
      · exact hs u (List.mem_of_mem_take hu)
      · rw [List.mem_singleton.mp hu]; exact hs _ List.mem_cons_self
    · rw [List.map_append] at nd
      exact (List.nodup_append.mp nd).2.2 (keyOf v0.1) (List.mem_map_of_mem (by rw [List.take_succ_cons]; exact List.mem_cons_self)) (keyOf v0.1) (by simp) rfl
theorem j2e {p : Svc} {kd a : Int} {one bad : Srv} {w : Str} {Q : Svc × Str → Prop} (hk : kd ≠ 6) (h : y__law_spoilt_j1 p kd a Q bad w) : y__law_spoilt_j2 p kd a one Q bad w := by
  unfold y__law_spoilt_j2
  rw [if_neg (by rw [decide_eq_false hk]; exact Bool.false_ne_true)]
  exact h
theorem j3e {p : Svc} {l : D} {kd a : Int} {one bad : Srv} {w : Str} {Q : Svc × Str → Prop} (hk : kd ≠ 5) (h : y__law_spoilt_j2 p kd a one Q bad w) : y__law_spoilt_j3 p l kd a one w Q bad := by
  unfold y__law_spoilt_j3
  rw [if_neg (by rw [decide_eq_false hk]; exact Bool.false_ne_true)]
  exact h
theorem badn : ∀ d ∈ [PyData.str (Str.ofString ""), .str (Str.ofString "A"), .str (Str.ofString "abcdefghijk"), .int (5 : Int), eN ()], z_is_name d = some false ∧ flatD (eD d) = true := by
  intro d hd
  simp only [List.mem_cons, List.not_mem_nil, or_false] at hd
  rcases hd with rfl | rfl | rfl | rfl | rfl <;> decide +kernel
theorem badn2 : ∀ d ∈ [some (Str.ofString ""), some (Str.ofString "A1"), none], z_is_name (eO PyData.str d) = some false := by
  intro d hd
  simp only [List.mem_cons, List.not_mem_nil, or_false] at hd
  rcases hd with rfl | rfl | rfl <;> decide +kernel
theorem badc : ∀ d ∈ [some (Str.ofString "turn"), some (Str.ofString ""), none, some (Str.ofString "Least")], flatD (eD (eO PyData.str d)) = true ∧ inD (eD (eO PyData.str d)) chs = false := by
  intro d hd
  simp only [List.mem_cons, List.not_mem_nil, or_false] at hd
  rcases hd with rfl | rfl | rfl | rfl <;> decide +kernel
theorem badh : ∀ d ∈ [PyData.int (-1 : Int), .int (1000001 : Int), .bool true, .str (Str.ofString "5")], okh d = false := by
  intro d hd
  simp only [List.mem_cons, List.not_mem_nil, or_false] at hd
  rcases hd with rfl | rfl | rfl | rfl <;> decide +kernel
theorem badw {m : Int} (hm : Mo2 m) : ∀ d ∈ [PyData.int (-(1 : Int)), .int (m + (1 : Int)), .bool true, .str (Str.ofString "1")], nw d 0 m = false := by
  intro d hd
  simp only [List.mem_cons, List.not_mem_nil, or_false] at hd
  rcases hm with rfl | rfl <;> rcases hd with rfl | rfl | rfl | rfl <;> decide +kernel
theorem bade : ∀ d ∈ [some (Str.ofString ""), some (Str.ofString "Up"), none, some (Str.ofString "ill")], flatD (eD (eO PyData.str d)) = true ∧ inD (eD (eO PyData.str d)) ups = false := by
  intro d hd
  simp only [List.mem_cons, List.not_mem_nil, or_false] at hd
  rcases hd with rfl | rfl | rfl | rfl <;> decide +kernel
theorem f_name {m : Int} {d w : D} {a b : Int} {u : D} (h : z_is_name d = some false) (hf : flatD (eD u) = true) : z__fault_of_server (d, a, b, w, u) m = some (some (Str.ofString "server")) := by
  rw [zsrv (bn := false) (bh := inD (eD u) ups) h hf rfl]
  rfl
theorem f_weight {m : Int} {d w : D} {a b : Int} {u : D} (h : z_is_name d = some true) (hw : nw w 0 m = false) (hf : flatD (eD u) = true) : z__fault_of_server (d, a, b, w, u) m = some (some (Str.ofString "weight")) := by
  rw [zsrv (bn := true) (bh := inD (eD u) ups) h hf rfl]
  dsimp only
  rw [hw]
  rfl
theorem f_health {m : Int} {d w : D} {a b : Int} {u : D} (h : z_is_name d = some true) (hw : nw w 0 m = true) (hf : flatD (eD u) = true) (hu : inD (eD u) ups = false) : z__fault_of_server (d, a, b, w, u) m = some (some (Str.ofString "health")) := by
  rw [zsrv (bn := true) (bh := false) h hf hu]
  dsimp only
  rw [hw]
  rfl
theorem spoil {n h : D} {c : Str} {sv : List Srv} {Q : Svc × Str → Prop} (hc : C3 c) (g : Gd sv (.str c) h) (hs : ∀ v ∈ sv, GS (mostOf c) v) (H : ∀ b w, Sp n b w → Q (b, w)) : y__law_spoilt (n, sv, .str c, h) Q := by
  have hl := g.l
  unfold y__law_spoilt
  dsimp only [letT]
  refine t1 (by decide) (by decide) fun v1 _ _ => t1 (by decide) (by decide) fun kd k0 k1 => t1 (by omega) (by omega) fun a a0 a1 => ?_
  obtain ⟨l, hll, el⟩ : ∃ l : Str, (C3 l ∨ l = late) ∧ (if decide (v1 = 0) = true then PyData.str late else PyData.str c) = .str l := by
    split
    · exact ⟨late, .inr rfl, rfl⟩
    · exact ⟨c, .inl hc, rfl⟩
  have elt : ∀ {G : Bool → Prop}, (∀ b, G b) → eqT (eD (PyData.str l)) (PyData.str (Str.ofString "late")) G := fun h => ⟨okc hll, okc2.1, h _⟩
  obtain ⟨k, rfl⟩ : ∃ k : Nat, a = k := ⟨a.toNat, by omega⟩
  have hlt : k < sv.length := by omega
  have hat : atI sv (k : Int) = some sv[k] := by
    unfold atI ixN
    have e' : (if (k : Int) < (sv.length : Int) then some (k : Int).toNat else none) = some k := by rw [if_pos a1]; rfl
    rw [if_pos a0, e']
    exact List.getElem?_eq_getElem hlt
  refine ⟨_, hat, ?_⟩
  dsimp only
  rw [el]
  have go := hs _ (List.getElem_mem hlt)
  obtain ⟨os, eos, hos⟩ := go.name
  obtain ⟨oh, hoh, eoh⟩ := go.health
  have hof : flatD (eD sv[k].2.2.2.2) = true := by rw [eoh]; exact flS oh
  have hon : z_is_name sv[k].1 = some true := by rw [eos]; exact hos
  rcases (by omega : kd = 0 ∨ kd = 1 ∨ kd = 2 ∨ kd = 3 ∨ kd = 4 ∨ kd = 5 ∨ kd = 6 ∨ kd = 7) with rfl | rfl | rfl | rfl | rfl | rfl | rfl | rfl
  · rw [if_pos (by decide)]
    refine t1 (by decide) (by decide) fun v5 b0 b1 => pick3 b0 (by simpa using b1) fun d hd => H _ _ ⟨fun E m => ?_, by decide +kernel⟩
    exact bad_name (badn d hd).1 (badn d hd).2 m.ef (flS l)
  · rw [if_neg (by decide), if_pos (by decide)]
    refine t1 (by decide) (by decide) fun v5 b0 b1 => pick3 b0 (by simpa using b1) fun d hd => elt fun bb => H _ _ ⟨fun E m => ?_, by decide +kernel⟩
    exact bad_choice m (badc d hd).1 (badc d hd).2
  · rw [if_neg (by decide), if_neg (by decide), if_pos (by decide)]
    refine elt fun bb => t1 (by decide) (by decide) fun v5 b0 b1 => pick3 b0 (by simpa using b1) fun d hd => H _ _ ⟨fun E m => ?_, by decide +kernel⟩
    exact bad_hold m hc (badh d hd)
  · rw [if_neg (by decide), if_neg (by decide), if_neg (by decide), if_pos (by decide)]
    refine many (cnt := 33) (.inr rfl) fun sm hsm _ _ => t1 (by decide) (by decide) fun v5 b0 b1 => pick3 b0 (by simpa using b1) fun d hd => H _ _ ⟨fun E m => ?_, by decide +kernel⟩
    refine bad_servers m hc g.h ?_
    simp only [List.mem_cons, List.not_mem_nil, or_false] at hd
    rcases hd with rfl | rfl
    · rfl
    · unfold okl
      rw [decide_eq_false (show ¬ (d.length : Int) ≤ 32 by omega), Bool.and_false]
  · rw [if_neg (by decide), if_neg (by decide), if_neg (by decide), if_neg (by decide), if_pos (by decide)]
    refine t1 (by decide) (by decide) fun v5 b0 b1 => pick3 b0 (by simpa using b1) fun d hd => elt fun bb => j3e (by decide) (j2e (by decide) ?_)
    exact j1 hc g hs hlt (by decide) (f_name (badn2 d hd) hof) (by decide +kernel) H
  · rw [if_neg (by decide), if_neg (by decide), if_neg (by decide), if_neg (by decide), if_neg (by decide)]
    unfold y__law_spoilt_j3
    rw [if_pos (by decide)]
    refine ⟨okc (.inl hc), okc2.2, ?_⟩
    dsimp only [letT]
    rw [mk_c hc]
    refine t1 (by decide) (by decide) fun v5 b0 b1 => pick3 b0 (by simpa using b1) fun d hd => elt fun bb => j2e (by decide) ?_
    exact j1 hc g hs hlt (by decide) (f_weight hon (badw (mo_c (c := c)) d hd) (flS _)) (by decide +kernel) H
  · rw [if_neg (by decide), if_neg (by decide), if_neg (by decide), if_neg (by decide), if_neg (by decide)]
    refine j3e (by decide) ?_
    unfold y__law_spoilt_j2
    rw [if_pos (by decide)]
    refine t1 (by decide) (by decide) fun v5 b0 b1 => pick3 b0 (by simpa using b1) fun d hd => ?_
    dsimp only [letT]
    exact j1 hc g hs hlt (by decide) (f_health hon go.weight (bade d hd).1 (bade d hd).2) (by decide +kernel) H
  · rw [if_neg (by decide), if_neg (by decide), if_neg (by decide), if_neg (by decide), if_neg (by decide)]
    exact j3e (by decide) (j2e (by decide) (j17 hc g hs H))
/-! the law -/
def ltr (k : Nat) : Str := ⟨#[97 + k]⟩
def nmz (j : Nat) : List D := (List.range j).map fun i => PyData.str (ltr i)
abbrev full := Str.ofString "full"
theorem nz1 : ∀ j : Fin 17, ((nmz j.val).map eD).all flatD = true ∧ inD (eD (.str full)) ((nmz j.val).map eD) = false ∧ (0 < j.val → inD (eD (.str (ltr 0))) ((nmz j.val).map eD) = true) := by decide +kernel
theorem nz2 : ∀ j : Fin 16, nok (ltr j.val) ∧ inD (eD (.str (ltr j.val))) ((nmz j.val).map eD) = false ∧ ixSZ (Str.ofString "abcdefghijklmnop") (j.val : Int) = some (ltr j.val) := by decide +kernel
theorem nfull : nok full := by decide +kernel
abbrev S4 := Str × (List Srv) × D × D
def eS (a : S4) : Svc := ((PyData.str a.1), a.2.1, a.2.2.1, a.2.2.2)
def Gs (sv : List Srv) (c h : D) : Prop := ∃ cs, C3 cs ∧ c = .str cs ∧ Gd sv (.str cs) h ∧ ∀ v ∈ sv, GS (mostOf cs) v
structure SI (S : List S4) : Prop where
  l : S.length ≤ 16
  r : ∀ j a, S[j]? = some a → a.1 = ltr j ∧ Gs a.2.1 a.2.2.1 a.2.2.2
theorem SI.names {S : List S4} (h : SI S) {j : Nat} (hj : j ≤ S.length) : ((S.take j).map eS).map (·.1) = nmz j := by
  apply List.ext_getElem?
  intro i
  rw [List.map_map, List.getElem?_map, List.getElem?_take]
  unfold nmz
  rw [List.getElem?_map]
  by_cases hi : i < j
  · rw [if_pos hi, List.getElem?_range hi, List.getElem?_eq_getElem (by omega : i < S.length)]
    have := (h.r i _ (List.getElem?_eq_getElem (by omega : i < S.length))).1
    show some (PyData.str _) = some (PyData.str _)
    rw [this]
  · rw [if_neg hi, List.getElem?_eq_none (by rw [List.length_range]; omega)]
    rfl
theorem SI.nm {S : List S4} (h : SI S) {j : Nat} (hj : j < 16) : Nm (.str (ltr j)) (nmz j) := by
  have a := nz2 ⟨j, hj⟩
  exact ⟨⟨_, rfl, a.1⟩, a.2.1, (nz1 ⟨j, by omega⟩).1⟩
theorem full_nm {j : Nat} (hj : j ≤ 16) : Nm (.str full) (nmz j) := ⟨⟨_, rfl, nfull⟩, (nz1 ⟨j, by omega⟩).2.1, (nz1 ⟨j, by omega⟩).1⟩
theorem SI.row {S : List S4} (h : SI S) {k : Nat} {R : List Svc} (hR : R = (S.take k).map eS) : ∀ j : Nat, ∀ v : Svc, R[j]? = some v → z__fault_of_service v ((R.take j).map (·.1)) = some none := by
  intro j v hv
  subst hR
  rw [List.getElem?_map, List.getElem?_take] at hv
  split at hv
  · rename_i hj
    cases e : S[j]? with
    | none => rw [e] at hv; cases hv
    | some a =>
      rw [e] at hv
      cases hv
      have hl := (List.getElem?_eq_some_iff.mp e).1
      have := h.l
      obtain ⟨e1, cs, hc, e2, g, _⟩ := h.r j a e
      rw [← List.map_take, List.take_take, Nat.min_eq_left (by omega), h.names (by omega)]
      unfold eS
      rw [e1, e2]
      exact g.ok (h.nm (by omega))
  · cases hv
theorem SI.all {S : List S4} (h : SI S) : z_fault_of_services (S.map eS) = some none := by
  refine all_ok (by rw [List.length_map]; exact h.l) (h.row (k := S.length) (by rw [List.take_length]))
theorem ll1 {Q : Bool → Prop} {kn : List S4 → Prop} : ∀ (j k : Nat) (S : List S4), k + j ≤ 16 → S.length = k → SI S → (∀ S', SI S' → kn S') → y_law_l1 [turns, least, marks] Q kn (rngT k j) S
  | 0, k, S, hj, hl, hs, H => by
    rw [rg0]
    unfold y_law_l1
    exact H S hs
  | j + 1, k, S, hj, hl, hs, H => by
    rw [rgs]
    unfold y_law_l1
    refine t1 (by decide) (by decide) fun v4 a0 a1 => pick3 a0 (by simpa using a1) fun c hc => ?_
    refine t1 (by decide) (by decide) fun v7 b0 b1 => t1 (by decide) (by decide) fun v8 d0 d1 => pick3 d0 (by simpa using d1) fun h hh => ?_
    have hc3 : C3 c := by
      simp only [List.mem_cons, List.not_mem_nil, or_false] at hc
      exact hc
    have hok : okh (eO PyData.int h) = true := by
      simp only [List.mem_cons, List.not_mem_nil, or_false] at hh
      rcases hh with rfl | rfl | rfl | rfl
      · rfl
      · rfl
      · rfl
      · show (false || nw (.int v7) 0 1000000) = true
        rw [nwi b0 (by omega)]
        rfl
    refine svc hc3 hok fun sv g => zgo zs_ixS (nz2 ⟨k, by omega⟩).2.2 ⟨by omega, ?_⟩
    refine ll1 j (k + 1) _ (by omega) (by rw [List.length_append]; simp; omega) ⟨by rw [List.length_append]; simp; omega, fun i a ha => ?_⟩ H
    rw [List.getElem?_append] at ha
    split at ha
    · exact hs.r i a ha
    · rename_i hi
      have : i = k := by
        have := (List.getElem?_eq_some_iff.mp ha).1
        simp at this
        omega
      subst this
      have e0 : i - S.length = 0 := by omega
      rw [e0] at ha
      cases ha
      obtain ⟨cs, hcs, e, hg⟩ := g.c
      cases e
      exact ⟨rfl, c, hcs, rfl, g, hg⟩
theorem eqL {f : Int → D} (hf : f = PyData.int) {xs : List Int} : PyData.eqvAll (xs.map f) (xs.map f) = true := by
  subst hf
  induction xs with
  | nil => rfl
  | cons x xs ih =>
    show (PyData.eqv (.int x) (.int x) && PyData.eqvAll (xs.map PyData.int) (xs.map PyData.int)) = true
    rw [ih]
    show ((x == x) && true) = true
    simp
theorem ll2 {Q : Bool → Prop} {kn : Prop} (hk : kn) : ∀ {S : List S4}, (∀ a ∈ S, Gs a.2.1 a.2.2.1 a.2.2.2) → y_law_l2 Q kn S
  | [], _ => by
    unfold y_law_l2
    exact hk
  | a :: S, h => by
    obtain ⟨cs, hc, e, g, hs⟩ := h a List.mem_cons_self
    have hl := g.l
    unfold y_law_l2
    refine zgo (zs_eligible _) (zelig hl.2 hs) (zgo (zs__law_eligible _) (zlelig hl.2 hs) ?_)
    have ok : okD ((eL PyData.int) (elg (enumT 0 a.2.1))) = true := by
      refine Sz.ok (k := 1) (w := 32 * 41) (sL (k := 0) (w := 40) (n := 32) (fun d hd => ?_) ?_)
      · obtain ⟨i, hi, rfl⟩ := List.mem_map.mp hd
        unfold elg at hi
        obtain ⟨p, hp, rfl⟩ := List.mem_map.mp hi
        obtain ⟨k, e1, e2⟩ := enum_mem (List.mem_filter.mp hp).1
        have := (List.getElem?_eq_some_iff.mp e2).1
        exact sI (by omega) (by omega)
      · rw [List.length_map]
        unfold elg
        rw [List.length_map]
        refine Nat.le_trans (List.length_filter_le _ _) ?_
        rw [enum_len]
        exact hl.2
    refine ⟨ok, ok, ?_⟩
    have : PyData.eqv ((eL PyData.int) (elg (enumT 0 a.2.1))) ((eL PyData.int) (elg (enumT 0 a.2.1))) = true := eqL rfl
    rw [this]
    exact ll2 hk fun b hb => h b (List.mem_cons_of_mem _ hb)
theorem eqW {i : Int} {w : Str} (h0 : 0 ≤ i) (h1 : i ≤ 100) (hw : (PyData.strOk w && decide (w.cps.size ≤ 40)) = true) {G : Bool → Prop} (h : G true) : eqT ((eO (eT2 PyData.int (eO PyData.str))) (some (i, some w))) ((eT2 PyData.int PyData.str) (i, w)) G := by
  have ok : okD (.tuple [.int i, .str w]) = true := Sz.ok (k := 1) (w := 82) (sT (k := 0) (w := 40) (n := 2) (szc (sI (by omega) (by omega)) (szc (sS hw) szn)) (Nat.le_refl _))
  refine ⟨ok, ok, ?_⟩
  have : PyData.eqv (.tuple [.int i, .str w]) (.tuple [.int i, .str w]) = true := by
    show ((i == i) && ((w == w) && true)) = true
    simp
  show G (PyData.eqv (.tuple [.int i, .str w]) (.tuple [.int i, .str w]))
  rw [this]
  exact h
theorem lj4 {S : List S4} (hs : SI S) {at1 : Nat} (hat : at1 ≤ S.length) {b : Svc} {w : Str} {Q : Bool → Prop} {go : Prop} (hgo : go) (hw : (PyData.strOk w && decide (w.cps.size ≤ 40)) = true) (hb : z__fault_of_service b (nmz at1) = some (some w)) {rest : List Svc} :
    y_law_j4 S (at1 : Int) w Q go ((S.take at1).map eS ++ b :: rest) := by
  have hl := hs.l
  have fin : y_fault_of_services (S.map eS) fun v_33 => if (!v_33.isNone) = true then (Q false) else go := zgo (zs_fault_of_services _) hs.all hgo
  unfold y_law_j4 andT
  by_cases hr : ((((S.take at1).map eS ++ b :: rest).length : Int)) < 17
  · rw [decide_eq_true hr, if_pos rfl]
    have e : ((S.take at1).map eS).length = at1 := by rw [List.length_map, List.length_take]; omega
    have z := one_bad (S := (S.take at1).map eS) (rest := rest) (b := b) (w := w) (by omega) (hs.row rfl) (by rw [hs.names hat]; exact hb)
    rw [e] at z
    show y_fault_of_services _ _
    refine zgo (zs_fault_of_services _) z ?_
    exact eqW (by omega) (by omega) hw fin
  · rw [decide_eq_false hr, if_neg Bool.false_ne_true]
    exact fin
theorem at_ofk {α : Type} {xs : List α} {k : Nat} (h : k < xs.length) : atI xs (k : Int) = some xs[k] := by
  unfold atI ixN
  have e' : (if (k : Int) < (xs.length : Int) then some (k : Int).toNat else none) = some k := by rw [if_pos (by omega)]; rfl
  rw [if_pos (by omega), e']
  exact List.getElem?_eq_getElem h
theorem at_of {α : Type} {xs : List α} (h : 0 < xs.length) : atI xs (0 : Int) = some xs[0] := at_ofk h
theorem lj5 {S : List S4} (hs : SI S) {at1 : Nat} (hat : at1 ≤ S.length) {b : Svc} {w : Str} {Q : Bool → Prop} {go : Prop} (hgo : go) (hw : (PyData.strOk w && decide (w.cps.size ≤ 40)) = true) (hb : z__fault_of_service b (nmz at1) = some (some w)) : y_law_j5 S (at1 : Int) Q go b w := by
  have hl := hs.l
  have e2 : cutD S (some ((at1 : Int) + 1)) none = S.drop (at1 + 1) := cut_ge (k := at1 + 1)
  have j4 := fun rest => lj4 hs hat (Q := Q) hgo hw hb (rest := rest)
  unfold y_law_j5
  rw [cut_le hat, e2]
  refine ⟨sl_le (by rw [List.length_map, List.length_take]; simp; omega), sl_le (by rw [List.length_append, List.length_map, List.length_map, List.length_take, List.length_drop]; simp; omega), ?_⟩
  show andT _ _ _
  have e3 : ∀ (X Y : List Svc), (X ++ [b]) ++ Y = X ++ b :: Y := fun X Y => by rw [List.append_assoc]; rfl
  have main : ∀ v : Bool, (if v = true then (((((List.map (fun a : (Str × (List Srv) × D × D) => ((PyData.str a.1), a.2.1, a.2.2.1, a.2.2.2)) (S.take at1)) ++ [b]) ++ (List.map (fun a : (Str × (List Srv) × D × D) => ((PyData.str a.1), a.2.1, a.2.2.1, a.2.2.2)) (S.drop (at1 + 1)))) : List Svc).length + ([((PyData.str ((((Str.ofString ""), (), (Str.ofString "late"), (-1 : Int))).1)), [], (PyData.str ((((Str.ofString ""), (), (Str.ofString "late"), (-1 : Int))).2.2.1)), (PyData.int ((((Str.ofString ""), (), (Str.ofString "late"), (-1 : Int))).2.2.2)))] : (List Svc)).length ≤ sizeLine ∧ (letT (((((List.map (fun a : (Str × (List Srv) × D × D) => ((PyData.str a.1), a.2.1, a.2.2.1, a.2.2.2)) (S.take at1)) ++ [b]) ++ (List.map (fun a : (Str × (List Srv) × D × D) => ((PyData.str a.1), a.2.1, a.2.2.1, a.2.2.2)) (S.drop (at1 + 1)))) ++ [((PyData.str ((((Str.ofString ""), (), (Str.ofString "late"), (-1 : Int))).1)), [], (PyData.str ((((Str.ofString ""), (), (Str.ofString "late"), (-1 : Int))).2.2.1)), (PyData.int ((((Str.ofString ""), (), (Str.ofString "late"), (-1 : Int))).2.2.2)))]) : (List Svc)) fun rows_3 => y_law_j4 S at1 w Q go rows_3)) else (y_law_j4 S at1 w Q go (((List.map (fun a : (Str × (List Srv) × D × D) => ((PyData.str a.1), a.2.1, a.2.2.1, a.2.2.2)) (S.take at1)) ++ [b]) ++ (List.map (fun a : (Str × (List Srv) × D × D) => ((PyData.str a.1), a.2.1, a.2.2.1, a.2.2.2)) (S.drop (at1 + 1)))))) := by
    intro v
    split
    · refine ⟨sl_le (by rw [List.length_append, List.length_append, List.length_map, List.length_map, List.length_take, List.length_drop]; simp; omega), ?_⟩
      show y_law_j4 S at1 w Q go _
      rw [e3, List.append_assoc]
      exact j4 _
    · rw [e3]
      exact j4 _
  unfold andT
  split
  · exact t1 (by decide) (by decide) fun r _ _ => main _
  · exact main _
theorem ll3 {S : List S4} (hs : SI S) {fs : List Srv} {c : Str} (hc : C3 c) (g : Gd fs (.str c) .none) (hg : ∀ v ∈ fs, GS (mostOf c) v) {Q : Bool → Prop} {kn : Prop} (hk : kn) : ∀ xs : List Int, y_law_l3 S (full, fs, c, ()) Q kn xs
  | [] => by
    unfold y_law_l3
    exact hk
  | x :: xs => by
    have ih := ll3 hs hc g hg (Q := Q) hk xs
    have hl := hs.l
    unfold y_law_l3
    refine t1 (by omega) (by omega) fun a a0 a1 => ?_
    obtain ⟨k, rfl⟩ : ∃ k : Nat, a = k := ⟨a.toNat, by omega⟩
    have hk1 : k ≤ S.length := by omega
    have tail : ∀ (nm : Str) (sv : List Srv) (cs : Str) (h : D), C3 cs → Gd sv (.str cs) h → (∀ v ∈ sv, GS (mostOf cs) v) → Nm (.str nm) (nmz k) → y__law_spoilt (.str nm, sv, .str cs, h) fun p_1 => andT (decide ((0 : Int) < (k : Int))) (fun G => takeT (5 : Int) fun v_36 => G (decide (v_36 = (0 : Int)))) fun v_37 => if v_37 = true then (ixT S (0 : Int) fun v_38 => letT ((v_38.1, (), (Str.ofString "late"), (-(1 : Int))) : (Str × Unit × Str × Int)) fun bad_2 => letT ((Str.ofString "twice") : Str) fun word_2 => y_law_j5 S k Q (y_law_l3 S (full, fs, c, ()) Q kn xs) ((PyData.str bad_2.1), [], (PyData.str bad_2.2.2.1), (PyData.int bad_2.2.2.2)) word_2) else (y_law_j5 S k Q (y_law_l3 S (full, fs, c, ()) Q kn xs) p_1.1 p_1.2) := by
      intro nm sv cs h hcs g1 g2 m
      refine spoil hcs g1 g2 fun b w hsp => ?_
      have no : y_law_j5 S k Q (y_law_l3 S (full, fs, c, ()) Q kn xs) b w := lj5 hs hk1 ih hsp.s (hsp.f _ m)
      unfold andT
      by_cases h0 : (0 : Int) < (k : Int)
      · rw [decide_eq_true h0, if_pos rfl]
        refine t1 (by decide) (by decide) fun r _ _ => ?_
        dsimp only [letT]
        split
        · have hS : 0 < S.length := by omega
          refine ⟨S[0], at_of hS, ?_⟩
          have e := (hs.r 0 _ (List.getElem?_eq_getElem hS)).1
          show y_law_j5 S k Q _ (PyData.str S[0].1, [], PyData.str late, PyData.int (-1)) (Str.ofString "twice")
          rw [e]
          have z := nz1 ⟨k, by omega⟩
          exact lj5 hs hk1 ih (by decide +kernel) (bad_twice (nz2 0).1 z.1 (z.2.2 (by show 0 < k; omega)) (flS _))
        · exact no
      · rw [decide_eq_false h0, if_neg Bool.false_ne_true]
        exact ff no
    unfold iteT
    by_cases hlt : (k : Int) < (S.length : Int)
    · rw [decide_eq_true hlt, if_pos rfl]
      have hk2 : k < S.length := by omega
      obtain ⟨e1, cs, hcs, e2, g1, g2⟩ := hs.r k _ (List.getElem?_eq_getElem hk2)
      refine ⟨S[k], at_ofk hk2, ?_⟩
      have := tail (ltr k) S[k].2.1 cs S[k].2.2.2 hcs g1 g2 (hs.nm (by omega))
      dsimp only
      rw [e1, e2]
      exact this
    · rw [decide_eq_false hlt, if_neg Bool.false_ne_true]
      exact tail full fs c .none hc g hg (full_nm (by omega))
def mna (k : Nat) : Str := if k < 10 then Txt.mul (Str.ofString "a") ((k : Int) + 1) else Txt.mul (Str.ofString "b") ((k : Int) - 9)
def mnz (j : Nat) : List D := (List.range j).map fun i => PyData.str (mna i)
theorem mn1 : ∀ j : Fin 17, nok (mna j.val) ∧ inD (eD (.str (mna j.val))) ((mnz j.val).map eD) = false ∧ ((mnz j.val).map eD).all flatD = true := by decide +kernel
theorem mn2 : (Str.ofString "a").length ≤ 16 ∧ (Str.ofString "b").length ≤ 16 := by decide +kernel
theorem many_ok {fs : List Srv} {c : Str} (g : Gd fs (.str c) .none) : z_fault_of_services ((List.range 16).map fun k => ((PyData.str (mna k), fs, .str c, .none) : Svc)) = some none := by
  refine all_ok (by simp) fun j v hv => ?_
  rw [List.getElem?_map] at hv
  have hj : j < 16 := by
    cases e : (List.range 16)[j]? with
    | none => rw [e] at hv; cases hv
    | some x =>
      have := (List.getElem?_eq_some_iff.mp e).1
      simpa using this
  rw [List.getElem?_range hj] at hv
  cases hv
  have e : (((List.range 16).map fun k => ((PyData.str (mna k), fs, .str c, .none) : Svc)).take j).map (·.1) = mnz j := by
    rw [← List.map_take, List.map_map, List.take_range, Nat.min_eq_left (by omega)]
    rfl
  rw [e]
  have m := mn1 ⟨j, by omega⟩
  exact g.ok ⟨⟨_, rfl, m.1⟩, m.2.1, m.2.2⟩
def mrow (fs : List Srv) (c : Str) (k : Int) : Str × (List Srv) × Str × Unit := (if k < 10 then Txt.mul (Str.ofString "a") (k + 1) else Txt.mul (Str.ofString "b") (k - 9), fs, c, ())
theorem law_ok : y_law (fun b => b = true) := by
  unfold y_law y_empty_state
  show empV _ _ = true ∧ _
  refine ⟨by decide +kernel, ff ?_⟩
  dsimp only [letT]
  refine t1 (by decide) (by decide) fun v3 h0 h1 => ⟨⟨by omega, by omega⟩, ?_⟩
  refine ll1 v3.toNat 0 [] (by omega) rfl ⟨by decide, fun j a ha => by cases j <;> cases ha⟩ fun S hs => ?_
  refine zgo (zs_fault_of_services _) hs.all ?_
  refine ff ?_
  refine ll2 ?_ fun a ha => ?_
  · refine many (cnt := 32) (.inl rfl) fun fs hfs g nd => t1 (by decide) (by decide) fun v18 b0 b1 => pick3 b0 (by simpa using b1) fun c hc => ?_
    have hc3 : C3 c := by
      simp only [List.mem_cons, List.not_mem_nil, or_false] at hc
      exact hc
    have gd : Gd fs (.str c) .none := ⟨⟨c, hc3, rfl, g _ mo_c⟩, rfl, by omega, nd⟩
    refine ⟨⟨by decide, by decide⟩, ?_⟩
    refine (cpe (f := mrow fs c) fun a ha K => ?_).mpr ⟨by decide, ?_⟩
    · have hb := rgm.mp ha
      have hb2 : (0 : Int) ≤ a ∧ a < 17 := by
        have : ((17 : Int).toNat : Int) = 17 := rfl
        omega
      unfold iteT mrow
      by_cases h10 : a < 10
      · rw [decide_eq_true h10, if_pos rfl, if_pos h10]
        exact ⟨fun z => z.2.2, fun z => ⟨mn2.1, ⟨by omega, by omega⟩, z⟩⟩
      · rw [decide_eq_false h10, if_neg Bool.false_ne_true, if_neg h10]
        exact ⟨fun z => z.2.2, fun z => ⟨mn2.2, ⟨by omega, by omega⟩, z⟩⟩
    · have hR : (List.map (fun a : (Str × (List Srv) × Str × Unit) => (((PyData.str a.1), a.2.1, (PyData.str a.2.2.1), (eN a.2.2.2)) : Svc)) (List.map (mrow fs c) (rngT 0 (17 : Int).toNat))) = (List.range 17).map fun k => ((PyData.str (mna k), fs, .str c, .none) : Svc) := rfl
      have hR2 : (List.map (fun a : (Str × (List Srv) × Str × Unit) => (((PyData.str a.1), a.2.1, (PyData.str a.2.2.1), (eN a.2.2.2)) : Svc)) (cutD (List.map (mrow fs c) (rngT 0 (17 : Int).toNat)) none (some (16 : Int)))) = (List.range 16).map fun k => ((PyData.str (mna k), fs, .str c, .none) : Svc) := rfl
      refine zgo (zs_fault_of_services _) (by rw [hR]; exact too_many (by simp)) ?_
      refine eqW (by decide) (by decide) (by decide +kernel) ?_
      refine or_f.mpr ?_
      refine zgo (zs_fault_of_services _) (by rw [hR2]; exact many_ok gd) ?_
      refine ff ⟨⟨by decide, by decide⟩, ?_⟩
      exact ll3 hs hc3 gd (g _ mo_c) rfl _
  · obtain ⟨j, hj⟩ := List.mem_iff_getElem?.mp ha
    exact (hs.r j a hj).2

section
variable {P : Program} {w : World} {K : PySem.W.Frag} {mg : Str → Option Value} {base : Heap}
theorem ok_law (T : Tx K mg w) : FnG P w K mg base 6 T.ad_law T.fd_law ["script"] (spLaw K) := by
  refine okG T.d_law.F x_law (fun vs H Q E h => spLaw_len h) (fun cdv A outer s H vs Q E hr gd h => ?_)
  have nd := x_law.nd
  refine ⟨_, (pss_cons (ps_set (i := 1) nd rfl (Or.inl rfl) (pe_call (ok_law_state T) (hr.mono (by decide)) (by rfl) T.d_law_state.g T.d_law_state.F.kp T.d_law_state.b .nil pass0 (pa_cons (pv 0) pa_nil)))
        (pss_cons (ps_if (pt_cmpR (op_neKN (Nat.lt_of_le_of_lt (Nat.add_le_add_left (by decide : 8 ≤ 65) _) (Room.u65 hr))) (pe_call0 (ok_empty_state T) (hr.mono (by decide)) (by rfl) T.d_empty_state.g T.d_empty_state.F.kp T.d_empty_state.b .nil pass0) (pe_disp (pps_cons pe_str pe_dnewK (pps_cons pe_str pe_dnewK (pps_cons pe_str pe_dnewK (pps_cons pe_str pe_dnewK pps_nil)))) rfl rfl (by intro z; cases z) (by decide)) (nomark _)) (pss_one (ps_ret pe_bl)) pss_nil)
        (pss_cons (ps_set (i := 2) nd rfl (Or.inl rfl) (pe_lst (pa_cons pe_str (pa_cons pe_str (pa_cons pe_str pa_nil)))))
        (pss_cons (ps_set (i := 3) nd rfl (Or.inl rfl) (pe_lst pa_nil))
        (pss_cons (ps_for PassesOwn.never rfl (pi_range1 (by rfl) T.b_range (pa_cons (pe_call (ok_law_take T) (hr.mono (by decide)) (by rfl) T.d_law_take.g T.d_law_take.F.kp T.d_law_take.b .nil pass0 (pa_cons (pv 1) (pa_cons pe_int pa_nil))) pa_nil)) (pg_name (i := 4) nd rfl (Or.inl rfl)) (pss_cons (ps_set (i := 5) nd rfl (Or.inl rfl) (pe_call (ok_law_service T) (hr.mono (by decide)) (by rfl) T.d_law_service.g T.d_law_service.F.kp T.d_law_service.b .nil pass0 (pa_cons (pv 1) (pa_cons (pe_ix ix_seq (pv 2) (pe_call (ok_law_take T) (hr.mono (by decide)) (by rfl) T.d_law_take.g T.d_law_take.F.kp T.d_law_take.b .nil pass0 (pa_cons (pv 1) (pa_cons pe_int pa_nil))) (fun _ _ => rfl)) (pa_cons (pe_ix ix_seq (pe_lst (pa_cons pe_non (pa_cons pe_int (pa_cons pe_int (pa_cons (pe_call (ok_law_take T) (hr.mono (by decide)) (by rfl) T.d_law_take.g T.d_law_take.F.kp T.d_law_take.b .nil pass0 (pa_cons (pv 1) (pa_cons pe_int pa_nil))) pa_nil))))) (pe_call (ok_law_take T) (hr.mono (by decide)) (by rfl) T.d_law_take.g T.d_law_take.F.kp T.d_law_take.b .nil pass0 (pa_cons (pv 1) (pa_cons pe_int pa_nil))) (fun _ _ => rfl)) pa_nil)))))
        (pss_one (ps_expr (pe_bm PySem.F.plainAttrs_list PySem.F.slot_list_append PySem.F.type_list_append mt_append (pv 3) (pa_cons (pe_op op_catA (pe_tup (pa_cons (pe_ix ix_str pe_str (pv 4) (fun _ _ => rfl)) pa_nil)) (pe_slice sl_tupA (pv 5) (po_some pe_int) po_none)) pa_nil))))))
        (pss_cons (ps_if (pt_cmpR op_notN (pe_call (ok_fault_of_services T) hr (by rfl) T.d_fault_of_services.g T.d_fault_of_services.F.kp T.d_fault_of_services.b .nil pass0 (pa_cons (pe_callTy call_tuple_of (by rfl) T.b_tuple (by decide +kernel) (pa_cons (pv 3) pa_nil)) pa_nil)) pe_non (nomark _)) (pss_one (ps_ret pe_bl)) pss_nil)
        (pss_cons (ps_for PassesOwn.never rfl (pi_list (pv 3)) (pg_name (i := 6) nd rfl (Or.inl rfl)) (pss_one (ps_if (pt_cmpR (op_neD hr.units) (pe_call (ok_eligible T) (hr.mono (by decide)) (by rfl) T.d_eligible.g T.d_eligible.F.kp T.d_eligible.b .nil pass0 (pa_cons (pv 6) pa_nil)) (pe_call (ok_law_eligible T) (hr.mono (by decide)) (by rfl) T.d_law_eligible.g T.d_law_eligible.F.kp T.d_law_eligible.b .nil pass0 (pa_cons (pv 6) pa_nil)) (nomark _)) (pss_one (ps_ret pe_bl)) pss_nil)))
        (pss_cons (ps_set (i := 7) nd rfl (Or.inr rfl) (pe_tup (pa_cons pe_str (pa_cons (pe_call (ok_law_many T) (hr.mono (by decide)) (by rfl) T.d_law_many.g T.d_law_many.F.kp T.d_law_many.b .nil pass0 (pa_cons (pv 1) (pa_cons pe_int pa_nil))) (pa_cons (pe_ix ix_seq (pv 2) (pe_call (ok_law_take T) (hr.mono (by decide)) (by rfl) T.d_law_take.g T.d_law_take.F.kp T.d_law_take.b .nil pass0 (pa_cons (pv 1) (pa_cons pe_int pa_nil))) (fun _ _ => rfl)) (pa_cons pe_non pa_nil))))))
        (pss_cons (ps_set (i := 8) nd rfl (Or.inl rfl) (pe_callTy call_tuple_of (by rfl) T.b_tuple (by decide +kernel) (pa_cons (pe_lc (own := [("k", 4)]) (g := (gName 4)) rfl nd (pi_range1 (by rfl) T.b_range (pa_cons pe_int pa_nil)) (blkOk_by (own := [("k", 4)]) (N := Ns_law) (sc := defScope s_law) (by decide +kernel)) (fun _ _ _ _ _ => (pg_name (i := 4) nd rfl (Or.inl rfl))) (fun _ _ _ _ _ => pts_nil) (fun _ _ _ _ _ => (pe_op (r := rCatA K) op_catA (pe_tup (pa_cons (pe_ifExp (pt_cmpR op_lt (pv 4) pe_int (nomark _)) (pe_op op_mulS pe_str (pe_op op_add (pv 4) pe_int)) (pe_op op_mulS pe_str (pe_op op_sub (pv 4) pe_int))) pa_nil)) (pe_slice (r := rSlA K) sl_tupA (pv 7) (po_some pe_int) po_none)))) pa_nil)))
        (pss_cons (ps_if (PW.pt (pw_or (pt_cmpR (op_neD hr.units) (pe_call (ok_fault_of_services T) hr (by rfl) T.d_fault_of_services.g T.d_fault_of_services.F.kp T.d_fault_of_services.b .nil pass0 (pa_cons (pv 8) pa_nil)) (pe_tup (pa_cons pe_int (pa_cons pe_str pa_nil))) (nomark _)) (pw_or1 (pt_cmpR op_notN (pe_call (ok_fault_of_services T) hr (by rfl) T.d_fault_of_services.g T.d_fault_of_services.F.kp T.d_fault_of_services.b .nil pass0 (pa_cons (pe_slice sl_tupA (pv 8) po_none (po_some pe_int)) pa_nil)) pe_non (nomark _))))) (pss_one (ps_ret pe_bl)) pss_nil)
        (pss_cons (ps_for PassesOwn.never rfl (pi_range1 (by rfl) T.b_range (pa_cons pe_int pa_nil)) (pg_name (i := 9) nd rfl (Or.inl rfl)) (pss_cons (ps_set (i := 10) nd rfl (Or.inl rfl) (pe_call (ok_law_take T) (hr.mono (by decide)) (by rfl) T.d_law_take.g T.d_law_take.F.kp T.d_law_take.b .nil pass0 (pa_cons (pv 1) (pa_cons (pe_op op_add (pe_callB call_len_seq (by rfl) T.b_len (by decide +kernel) (pa_cons (pv 3) pa_nil)) pe_int) pa_nil))))
        (pss_cons (ps_set (i := 11) nd rfl (Or.inl rfl) (pe_ifExp (pt_cmpR op_lt (pv 10) (pe_callB call_len_seq (by rfl) T.b_len (by decide +kernel) (pa_cons (pv 3) pa_nil)) (nomark _)) (pe_ix ix_seq (pv 3) (pv 10) (fun _ _ => rfl)) (pv 7)))
        (pss_cons (ps_asg (pe_call (ok_law_spoilt T) (hr.mono (by decide)) (by rfl) T.d_law_spoilt.g T.d_law_spoilt.F.kp T.d_law_spoilt.b .nil pass0 (pa_cons (pv 1) (pa_cons (pv 11) pa_nil))) (pg_tup (n := 2) rfl (pgs_cons (pg_name (i := 12) nd rfl (Or.inl rfl)) (pgs_cons (pg_name (i := 13) nd rfl (Or.inl rfl)) pgs_nil))))
        (pss_cons (ps_if (PW.pt (pw_and (pt_cmpR op_gt (pv 10) pe_int (nomark _)) (pw_and1 (pt_cmpR op_eq (pe_call (ok_law_take T) (hr.mono (by decide)) (by rfl) T.d_law_take.g T.d_law_take.F.kp T.d_law_take.b .nil pass0 (pa_cons (pv 1) (pa_cons pe_int pa_nil))) pe_int (nomark _))))) (pss_one (ps_par (i := 12) (j := 13) (by rfl) nd rfl rfl (by decide) rfl rfl (pa_cons (pe_tup (pa_cons (pe_ix ix_seq (pe_ix ix_seq (pv 3) pe_int (fun _ _ => rfl)) pe_int (fun _ _ => rfl)) (pa_cons (pe_tup pa_nil) (pa_cons pe_str (pa_cons (pe_un un_neg pe_int) pa_nil))))) (pa_cons pe_str pa_nil)) (by rfl))) pss_nil)
        (pss_cons (ps_set (i := 14) nd rfl (Or.inl rfl) (pe_op op_cat (pe_op op_cat (pe_slice sl_list (pv 3) po_none (po_some (pv 10))) (pe_lst (pa_cons (pv 12) pa_nil))) (pe_slice sl_list (pv 3) (po_some (pe_op op_add (pv 10) pe_int)) po_none)))
        (pss_cons (ps_if (PW.pt (pw_and (pt_cmpR op_lt (pe_callB call_len_seq (by rfl) T.b_len (by decide +kernel) (pa_cons (pv 14) pa_nil)) pe_int (nomark _)) (pw_and1 (pt_cmpR op_eq (pe_call (ok_law_take T) (hr.mono (by decide)) (by rfl) T.d_law_take.g T.d_law_take.F.kp T.d_law_take.b .nil pass0 (pa_cons (pv 1) (pa_cons pe_int pa_nil))) pe_int (nomark _))))) (pss_one (ps_set (i := 14) nd rfl (Or.inl rfl) (pe_op op_cat (pv 14) (pe_lst (pa_cons (pe_tup (pa_cons pe_str (pa_cons (pe_tup pa_nil) (pa_cons pe_str (pa_cons (pe_un un_neg pe_int) pa_nil))))) pa_nil))))) pss_nil)
        (pss_cons (ps_if (PW.pt (pw_and (pt_cmpR op_lt (pe_callB call_len_seq (by rfl) T.b_len (by decide +kernel) (pa_cons (pv 14) pa_nil)) pe_int (nomark _)) (pw_and1 (pt_cmpR (op_neD hr.units) (pe_call (ok_fault_of_services T) hr (by rfl) T.d_fault_of_services.g T.d_fault_of_services.F.kp T.d_fault_of_services.b .nil pass0 (pa_cons (pe_callTy call_tuple_of (by rfl) T.b_tuple (by decide +kernel) (pa_cons (pv 14) pa_nil)) pa_nil)) (pe_tup (pa_cons (pv 10) (pa_cons (pv 13) pa_nil))) (nomark _))))) (pss_one (ps_ret pe_bl)) pss_nil)
        (pss_one (ps_if (pt_cmpR op_notN (pe_call (ok_fault_of_services T) hr (by rfl) T.d_fault_of_services.g T.d_fault_of_services.F.kp T.d_fault_of_services.b .nil pass0 (pa_cons (pe_callTy call_tuple_of (by rfl) T.b_tuple (by decide +kernel) (pa_cons (pv 3) pa_nil)) pa_nil)) pe_non (nomark _)) (pss_one (ps_ret pe_bl)) pss_nil))))))))))
        (pss_one (ps_ret pe_bl))))))))))))), law_run (i := 1) ((rs_seq (rs_if (rt_test (ro rv_neKN (RfE.b (re_call raN)) (RfE.b (RfK.e (rk_disp (rp_str _ re_dnew (rp_str _ re_dnew (rp_str _ re_dnew (rp_str _ re_dnew rp_nil)))) (by decide +kernel) (by decide)))))) (rs_ret (rc_bl _)) rs_next)
        (rs_seq (rs_asg (RfF.e (show RfF _ _ (dCL ([PyData.str "turns", PyData.str "least", PyData.str "marks"])) from rf_lst (raC (rc_str _) (raC (rc_str _) (raC (rc_str _) raN))))) (rg_name 2))
        (rs_seq (rs_own 3 (show RfF _ _ (dCL ([])) from rf_lst raN))
        (rs_seq (rs_for (ri_r1 (rbC (RfE.b (re_callS (raC (rc_int _) raN))) rbN)) (rg_name 4) (rs_seq (rs_asg (re_callS (raC (ro rv_ix (RfE.b (rn 2)) (RfE.b (re_callS (raC (rc_int _) raN)))) (raC (ro rv_ix (RfE.b (RfF.e (rf_lst (raC rc_non (raC (rc_int _) (raC (rc_int _) (raC (re_callS (raC (rc_int _) raN)) raN))))))) (RfE.b (re_callS (raC (rc_int _) raN)))) raN))) (rg_name 5))
        (rs_app 3 (ro rv_catT (RfE.b (re_tup (raC (ro rv_ixS (RfE.b (rc_str _)) (RfE.b (rn 4))) raN))) (RfE.b (re_slT (RfE.b (rn 5)) (rp_some (rc_int _)) rp_no))))))
        (rs_seq (rs_if (rt_test (ro rv_notN (RfE.b (re_call (raC (re_cb ro_tupOf (rbC (rnb 3) rbN)) raN))) (RfE.b rc_non))) (rs_ret (rc_bl _)) rs_next)
        (rs_seq (rs_frz 3 (rs_for (ri_list (rn 3)) (rg_name 6) (rs_if (rt_test (ro rv_neD (RfE.b (re_call (raC (rn 6) raN))) (RfE.b (re_call (raC (rn 6) raN))))) (rs_ret (rc_bl _)) rs_next)))
        (rs_seq (rs_asg (re_tup (raC (rc_str _) (raC (re_callS (raC (rc_int _) raN)) (raC (ro rv_ix (RfE.b (rn 2)) (RfE.b (re_callS (raC (rc_int _) raN)))) (raC rc_non raN))))) (rg_name 7))
        (rs_seq (rs_asg (re_cb ro_tupOf (rbC (RfE.b (RfF.e (rf_lc (ri_r1 (rbC (RfE.b (rc_int _)) rbN)) (rg_name 4) rt_yes (ro rv_catT (RfE.b (re_tup (raC (re_if (rt_test (ro rv_lt (RfE.b (rn 4)) (RfE.b (rc_int _)))) (ro rv_mulS (RfE.b (rc_str _)) (RfE.b (ro rv_add (RfE.b (rn 4)) (RfE.b (rc_int _))))) (ro rv_mulS (RfE.b (rc_str _)) (RfE.b (ro rv_sub (RfE.b (rn 4)) (RfE.b (rc_int _)))))) raN))) (RfE.b (re_slT (RfE.b (rn 7)) (rp_some (rc_int _)) rp_no)))))) rbN)) (rg_name 8))
        (rs_seq (rs_if (rt_or (rt_test (ro rv_neD (RfE.b (re_call (raC (rn 8) raN))) (RfE.b (show RfE _ _ (dC (PyData.tuple [PyData.int 16, PyData.str "services"])) from re_tup (raC (rc_int _) (raC (rc_str _) raN)))))) (rt_test (ro rv_notN (RfE.b (re_call (raC (re_slT (RfE.b (rn 8)) rp_no (rp_some (rc_int _))) raN))) (RfE.b rc_non)))) (rs_ret (rc_bl _)) rs_next)
        (rs_seq (rs_for (ri_r1 (rbC (RfE.b (rc_int _)) rbN)) (rg_name 9) (rs_seq (rs_asg (re_callS (raC (ro rv_add (RfE.b (re_cb ro_len (rbC (rnb 3) rbN))) (RfE.b (rc_int _))) raN)) (rg_name 10))
        (rs_seq (rs_asg (re_if (rt_test (ro rv_lt (RfE.b (rn 10)) (RfE.b (re_cb ro_len (rbC (rnb 3) rbN))))) (ro rv_ix (rnb 3) (RfE.b (rn 10))) (rn 7)) (rg_name 11))
        (rs_seq (rs_asg (re_callS (raC (rn 11) raN)) (rg_tup (rg_cons (rg_name 12) (rg_cons (rg_name 13) rg_nil))))
        (rs_seq (rs_if (rt_and (rt_test (ro rv_gt (RfE.b (rn 10)) (RfE.b (rc_int _)))) (rt_test (ro rv_eq (RfE.b (re_callS (raC (rc_int _) raN))) (RfE.b (rc_int _))))) (rs_par 12 13 (raC (re_tup (raC (ro rv_ix (RfE.b (ro rv_ix (rnb 3) (RfE.b (rc_int _)))) (RfE.b (rc_int _))) (raC (show RfE _ _ (dC (PyData.tuple [])) from re_tup raN) (raC (rc_str _) (raC (ru rv_neg (RfE.b (rc_int _))) raN))))) (raC (rc_str _) raN))) rs_next)
        (rs_seq (rs_asg (ro rv_cat (RfE.b (ro rv_cat (RfE.b (RfF.e (rf_slL (rnb 3) rp_no (rp_some (rn 10))))) (RfE.b (RfF.e (rf_lst (raC (rn 12) raN)))))) (RfE.b (RfF.e (rf_slL (rnb 3) (rp_some (ro rv_add (RfE.b (rn 10)) (RfE.b (rc_int _)))) rp_no)))) (rg_name 14))
        (rs_seq (rs_if (rt_and (rt_test (ro rv_lt (RfE.b (re_cb ro_len (rbC (RfE.b (rn 14)) rbN))) (RfE.b (rc_int _)))) (rt_test (ro rv_eq (RfE.b (re_callS (raC (rc_int _) raN))) (RfE.b (rc_int _))))) (rs_asg (ro rv_cat (RfE.b (rn 14)) (RfE.b (RfF.e (show RfF _ _ (dCL ([PyData.tuple [PyData.str "", PyData.tuple [], PyData.str "late", PyData.int (-1)]])) from rf_lst (raC (show RfE _ _ (dC (PyData.tuple [PyData.str "", PyData.tuple [], PyData.str "late", PyData.int (-1)])) from re_tup (raC (rc_str _) (raC (show RfE _ _ (dC (PyData.tuple [])) from re_tup raN) (raC (rc_str _) (raC (ru rv_neg (RfE.b (rc_int _))) raN))))) raN))))) (rg_name 14)) rs_next)
        (rs_seq (rs_if (rt_and (rt_test (ro rv_lt (RfE.b (re_cb ro_len (rbC (RfE.b (rn 14)) rbN))) (RfE.b (rc_int _)))) (rt_test (ro rv_neD (RfE.b (re_call (raC (re_cb ro_tupOf (rbC (RfE.b (rn 14)) rbN)) raN))) (RfE.b (re_tup (raC (rn 10) (raC (rn 13) raN))))))) (rs_ret (rc_bl _)) rs_next)
        (rs_if (rt_test (ro rv_notN (RfE.b (re_call (raC (re_cb ro_tupOf (rbC (rnb 3) rbN)) raN))) (RfE.b rc_non))) (rs_ret (rc_bl _)) rs_next)))))))))
        (rs_ret (rc_bl _))))))))))))) h (by decide) (by decide) ?_⟩
  have q := law_ok
  unfold y_law at q
  have hQ : ∀ r : Bool, r = true → PyData.bool r = PyData.bool true := fun r h => by rw [h]
  exact (s_seq0 (s_if (t_val (w_neKN (w_call0) (w_disp (wp_str w_dnew (wp_str w_dnew (wp_str w_dnew (wp_str w_dnew wp_nil))))))) (fun q => (s_ret (e := PyData.bool) (w_dC (e := PyData.bool) (x := false) rfl) hQ q)) (fun q => (s_next (s_seq0 (s_asg (e := (eL PyData.str)) (w_list (l_dCL (e := PyData.str) (xs := [(Str.ofString "turns"), (Str.ofString "least"), (Str.ofString "marks")]) rfl)) (fun choices_1 : (List Str) => [none, some En.st, sv ((eL PyData.str) choices_1), none, none, none, none, none, none, none, none, none, none, none, none]) (fun _ => rfl) (fun choices_1 q => (s_seq0 (s_own0 rfl (env' := [none, some En.st, sv ((eL PyData.str) choices_1), so (List.map (eT4 PyData.str (eU eSrv) eD eD) ([] : List (Str × (List Srv) × D × D))), none, none, none, none, none, none, none, none, none, none, none]) rfl (fun q => (s_seq0 (s_for2 (e := PyData.int) (fun (xs : List Int) (s_5 : (List (Str × (List Srv) × D × D))) => y_law_l1 choices_1 (fun b : Bool => b = true) (fun (services_4 : (List (Str × (List Srv) × D × D))) => y_fault_of_services (List.map (fun a : (Str × (List Srv) × D × D) => ((PyData.str a.1), a.2.1, a.2.2.1, a.2.2.2)) services_4) fun v_13 => if (!v_13.isNone) = true then ((fun b : Bool => b = true) false) else (y_law_l2 (fun b : Bool => b = true) (y__law_many (32 : Int) fun v_17 => takeT (3 : Int) fun v_18 => ixT choices_1 v_18 fun v_19 => letT (((Str.ofString "full"), v_17, v_19, ()) : (Str × (List Srv) × Str × Unit)) fun full_1 => (-(2 ^ 62) ≤ (17 : Int) ∧ (17 : Int) < 2 ^ 62) ∧ (compT (rngT 0 (17 : Int).toNat) (fun (k_2 : Int) (Go : Option (Str × (List Srv) × Str × Unit) → Prop) => iteT (decide (k_2 < (10 : Int))) (fun G => (Str.ofString "a").length ≤ 16 ∧ ((-(2 ^ 63) ≤ (k_2 + (1 : Int)) ∧ (k_2 + (1 : Int)) ≤ 1048576) ∧ (G (Txt.mul (Str.ofString "a") (k_2 + (1 : Int)))))) (fun G => (Str.ofString "b").length ≤ 16 ∧ ((-(2 ^ 63) ≤ (k_2 - (9 : Int)) ∧ (k_2 - (9 : Int)) ≤ 1048576) ∧ (G (Txt.mul (Str.ofString "b") (k_2 - (9 : Int)))))) fun v_20 => Go (some (v_20, full_1.2.1, full_1.2.2.1, full_1.2.2.2))) fun many_1 => y_fault_of_services (List.map (fun a : (Str × (List Srv) × Str × Unit) => ((PyData.str a.1), a.2.1, (PyData.str a.2.2.1), (eN a.2.2.2))) many_1) fun v_22 => eqT ((eO (eT2 PyData.int (eO PyData.str))) v_22) ((eT2 PyData.int PyData.str) ((16 : Int), (Str.ofString "services"))) fun v_23 => orT (!v_23) (fun G => y_fault_of_services (List.map (fun a : (Str × (List Srv) × Str × Unit) => ((PyData.str a.1), a.2.1, (PyData.str a.2.2.1), (eN a.2.2.2))) (cutD many_1 none (some (16 : Int)))) fun v_24 => G (!v_24.isNone)) fun v_25 => if v_25 = true then ((fun b : Bool => b = true) false) else ((-(2 ^ 62) ≤ (3 : Int) ∧ (3 : Int) < 2 ^ 62) ∧ (y_law_l3 services_4 full_1 (fun b : Bool => b = true) ((fun b : Bool => b = true) true) (rngT 0 (3 : Int).toNat))))) services_4)) xs s_5) (fun (s_5 : (List (Str × (List Srv) × D × D))) => (fun (services_4 : (List (Str × (List Srv) × D × D))) => y_fault_of_services (List.map (fun a : (Str × (List Srv) × D × D) => ((PyData.str a.1), a.2.1, a.2.2.1, a.2.2.2)) services_4) fun v_13 => if (!v_13.isNone) = true then ((fun b : Bool => b = true) false) else (y_law_l2 (fun b : Bool => b = true) (y__law_many (32 : Int) fun v_17 => takeT (3 : Int) fun v_18 => ixT choices_1 v_18 fun v_19 => letT (((Str.ofString "full"), v_17, v_19, ()) : (Str × (List Srv) × Str × Unit)) fun full_1 => (-(2 ^ 62) ≤ (17 : Int) ∧ (17 : Int) < 2 ^ 62) ∧ (compT (rngT 0 (17 : Int).toNat) (fun (k_2 : Int) (Go : Option (Str × (List Srv) × Str × Unit) → Prop) => iteT (decide (k_2 < (10 : Int))) (fun G => (Str.ofString "a").length ≤ 16 ∧ ((-(2 ^ 63) ≤ (k_2 + (1 : Int)) ∧ (k_2 + (1 : Int)) ≤ 1048576) ∧ (G (Txt.mul (Str.ofString "a") (k_2 + (1 : Int)))))) (fun G => (Str.ofString "b").length ≤ 16 ∧ ((-(2 ^ 63) ≤ (k_2 - (9 : Int)) ∧ (k_2 - (9 : Int)) ≤ 1048576) ∧ (G (Txt.mul (Str.ofString "b") (k_2 - (9 : Int)))))) fun v_20 => Go (some (v_20, full_1.2.1, full_1.2.2.1, full_1.2.2.2))) fun many_1 => y_fault_of_services (List.map (fun a : (Str × (List Srv) × Str × Unit) => ((PyData.str a.1), a.2.1, (PyData.str a.2.2.1), (eN a.2.2.2))) many_1) fun v_22 => eqT ((eO (eT2 PyData.int (eO PyData.str))) v_22) ((eT2 PyData.int PyData.str) ((16 : Int), (Str.ofString "services"))) fun v_23 => orT (!v_23) (fun G => y_fault_of_services (List.map (fun a : (Str × (List Srv) × Str × Unit) => ((PyData.str a.1), a.2.1, (PyData.str a.2.2.1), (eN a.2.2.2))) (cutD many_1 none (some (16 : Int)))) fun v_24 => G (!v_24.isNone)) fun v_25 => if v_25 = true then ((fun b : Bool => b = true) false) else ((-(2 ^ 62) ≤ (3 : Int) ∧ (3 : Int) < 2 ^ 62) ∧ (y_law_l3 services_4 full_1 (fun b : Bool => b = true) ((fun b : Bool => b = true) true) (rngT 0 (3 : Int).toNat))))) services_4)) s_5) (fun (s_5 : (List (Str × (List Srv) × D × D))) (u_32 : Option D × Option D) => [none, some En.st, sv ((eL PyData.str) choices_1), so (List.map (eT4 PyData.str (eU eSrv) eD eD) s_5), (Option.map En.d u_32.1), (Option.map En.d u_32.2), none, none, none, none, none, none, none, none, none]) ([] : (List (Str × (List Srv) × D × D))) (none, none) rfl (i_r1 (w_take rfl (w_dC (e := PyData.int) (x := (17 : Int)) rfl))) (fun s_5 u_32 q => (s_seq0 (s_if (t_val (w_notN (r := fun a : (Option (Int × (Option Str))) => a.isNone) (w_call1 (w_tupOf (e := eSvc) (w_co (e := (eL (eT4 PyData.str (eU eSrv) eD eD))) (e' := (eL eSvc)) (fun a : (List (Str × (List Srv) × D × D)) => ((List.map (fun a : (Str × (List Srv) × D × D) => ((PyData.str a.1), a.2.1, a.2.2.1, a.2.2.2)) a) : (List Svc))) (w_nameO (e := (eT4 PyData.str (eU eSrv) eD eD)) (x := s_5) rfl) (co_L (fun a : (Str × (List Srv) × D × D) => ((PyData.str a.1), a.2.1, a.2.2.1, a.2.2.2)) (fun _ => rfl))) (fun _ => rfl))) (n_O (fun _ => rfl)))) (fun q => (s_ret (e := PyData.bool) (w_dC (e := PyData.bool) (x := false) rfl) hQ q)) (fun q => (s_next (s_seq0 (s_frz0 (env' := [none, some En.st, sv ((eL PyData.str) choices_1), sv ((eL (eT4 PyData.str (eU eSrv) eD eD)) s_5), (Option.map En.d u_32.1), (Option.map En.d u_32.2), none, none, none, none, none, none, none, none, none]) rfl (s_for2 (e := (eT4 PyData.str (eU eSrv) eD eD)) (fun (xs : List (Str × (List Srv) × D × D)) (s_4 : Unit) => y_law_l2 (fun b : Bool => b = true) (y__law_many (32 : Int) fun v_17 => takeT (3 : Int) fun v_18 => ixT choices_1 v_18 fun v_19 => letT (((Str.ofString "full"), v_17, v_19, ()) : (Str × (List Srv) × Str × Unit)) fun full_1 => (-(2 ^ 62) ≤ (17 : Int) ∧ (17 : Int) < 2 ^ 62) ∧ (compT (rngT 0 (17 : Int).toNat) (fun (k_2 : Int) (Go : Option (Str × (List Srv) × Str × Unit) → Prop) => iteT (decide (k_2 < (10 : Int))) (fun G => (Str.ofString "a").length ≤ 16 ∧ ((-(2 ^ 63) ≤ (k_2 + (1 : Int)) ∧ (k_2 + (1 : Int)) ≤ 1048576) ∧ (G (Txt.mul (Str.ofString "a") (k_2 + (1 : Int)))))) (fun G => (Str.ofString "b").length ≤ 16 ∧ ((-(2 ^ 63) ≤ (k_2 - (9 : Int)) ∧ (k_2 - (9 : Int)) ≤ 1048576) ∧ (G (Txt.mul (Str.ofString "b") (k_2 - (9 : Int)))))) fun v_20 => Go (some (v_20, full_1.2.1, full_1.2.2.1, full_1.2.2.2))) fun many_1 => y_fault_of_services (List.map (fun a : (Str × (List Srv) × Str × Unit) => ((PyData.str a.1), a.2.1, (PyData.str a.2.2.1), (eN a.2.2.2))) many_1) fun v_22 => eqT ((eO (eT2 PyData.int (eO PyData.str))) v_22) ((eT2 PyData.int PyData.str) ((16 : Int), (Str.ofString "services"))) fun v_23 => orT (!v_23) (fun G => y_fault_of_services (List.map (fun a : (Str × (List Srv) × Str × Unit) => ((PyData.str a.1), a.2.1, (PyData.str a.2.2.1), (eN a.2.2.2))) (cutD many_1 none (some (16 : Int)))) fun v_24 => G (!v_24.isNone)) fun v_25 => if v_25 = true then ((fun b : Bool => b = true) false) else ((-(2 ^ 62) ≤ (3 : Int) ∧ (3 : Int) < 2 ^ 62) ∧ (y_law_l3 s_5 full_1 (fun b : Bool => b = true) ((fun b : Bool => b = true) true) (rngT 0 (3 : Int).toNat))))) xs) (fun (s_4 : Unit) => (y__law_many (32 : Int) fun v_17 => takeT (3 : Int) fun v_18 => ixT choices_1 v_18 fun v_19 => letT (((Str.ofString "full"), v_17, v_19, ()) : (Str × (List Srv) × Str × Unit)) fun full_1 => (-(2 ^ 62) ≤ (17 : Int) ∧ (17 : Int) < 2 ^ 62) ∧ (compT (rngT 0 (17 : Int).toNat) (fun (k_2 : Int) (Go : Option (Str × (List Srv) × Str × Unit) → Prop) => iteT (decide (k_2 < (10 : Int))) (fun G => (Str.ofString "a").length ≤ 16 ∧ ((-(2 ^ 63) ≤ (k_2 + (1 : Int)) ∧ (k_2 + (1 : Int)) ≤ 1048576) ∧ (G (Txt.mul (Str.ofString "a") (k_2 + (1 : Int)))))) (fun G => (Str.ofString "b").length ≤ 16 ∧ ((-(2 ^ 63) ≤ (k_2 - (9 : Int)) ∧ (k_2 - (9 : Int)) ≤ 1048576) ∧ (G (Txt.mul (Str.ofString "b") (k_2 - (9 : Int)))))) fun v_20 => Go (some (v_20, full_1.2.1, full_1.2.2.1, full_1.2.2.2))) fun many_1 => y_fault_of_services (List.map (fun a : (Str × (List Srv) × Str × Unit) => ((PyData.str a.1), a.2.1, (PyData.str a.2.2.1), (eN a.2.2.2))) many_1) fun v_22 => eqT ((eO (eT2 PyData.int (eO PyData.str))) v_22) ((eT2 PyData.int PyData.str) ((16 : Int), (Str.ofString "services"))) fun v_23 => orT (!v_23) (fun G => y_fault_of_services (List.map (fun a : (Str × (List Srv) × Str × Unit) => ((PyData.str a.1), a.2.1, (PyData.str a.2.2.1), (eN a.2.2.2))) (cutD many_1 none (some (16 : Int)))) fun v_24 => G (!v_24.isNone)) fun v_25 => if v_25 = true then ((fun b : Bool => b = true) false) else ((-(2 ^ 62) ≤ (3 : Int) ∧ (3 : Int) < 2 ^ 62) ∧ (y_law_l3 s_5 full_1 (fun b : Bool => b = true) ((fun b : Bool => b = true) true) (rngT 0 (3 : Int).toNat)))))) (fun (s_4 : Unit) (u_31 : Option D) => [none, some En.st, sv ((eL PyData.str) choices_1), sv ((eL (eT4 PyData.str (eU eSrv) eD eD)) s_5), (Option.map En.d u_32.1), (Option.map En.d u_32.2), (Option.map En.d u_31), none, none, none, none, none, none, none, none]) () none rfl (i_list (e := (eT4 PyData.str (eU eSrv) eD eD)) (w_name (e := (eL (eT4 PyData.str (eU eSrv) eD eD))) (x := s_5) rfl)) (fun s_4 u_31 q => (s_seq0 (s_asg (e := (eT4 PyData.str (eU eSrv) PyData.str eN)) (w_tup4 (w_dC (e := PyData.str) (x := (Str.ofString "full")) rfl) (w_callS1 rfl (w_dC (e := PyData.int) (x := (32 : Int)) rfl)) (w_ix (e := PyData.str) (w_name (e := (eL PyData.str)) (x := choices_1) rfl) (w_take rfl (w_dC (e := PyData.int) (x := (3 : Int)) rfl)) (fun _ => rfl)) (w_dC (e := eN) (x := ()) rfl)) (fun full_1 : (Str × (List Srv) × Str × Unit) => [none, some En.st, sv ((eL PyData.str) choices_1), sv ((eL (eT4 PyData.str (eU eSrv) eD eD)) s_5), (Option.map En.d u_32.1), (Option.map En.d u_32.2), (Option.map En.d u_31), sv ((eT4 PyData.str (eU eSrv) PyData.str eN) full_1), none, none, none, none, none, none, none]) (fun _ => rfl) (fun full_1 q => (s_seq0 (s_asg (e := (eU (eT4 PyData.str (eU eSrv) PyData.str eN))) (w_tupOf (e := (eT4 PyData.str (eU eSrv) PyData.str eN)) (w_list (l_lc (e := PyData.int) (e' := (eT4 PyData.str (eU eSrv) PyData.str eN)) (B := (fun (k_2 : Int) (Go : Option (Str × (List Srv) × Str × Unit) → Prop) => iteT (decide (k_2 < (10 : Int))) (fun G => (Str.ofString "a").length ≤ 16 ∧ ((-(2 ^ 63) ≤ (k_2 + (1 : Int)) ∧ (k_2 + (1 : Int)) ≤ 1048576) ∧ (G (Txt.mul (Str.ofString "a") (k_2 + (1 : Int)))))) (fun G => (Str.ofString "b").length ≤ 16 ∧ ((-(2 ^ 63) ≤ (k_2 - (9 : Int)) ∧ (k_2 - (9 : Int)) ≤ 1048576) ∧ (G (Txt.mul (Str.ofString "b") (k_2 - (9 : Int)))))) fun v_20 => Go (some (v_20, full_1.2.1, full_1.2.2.1, full_1.2.2.2)))) (i_r1 (w_dC (e := PyData.int) (x := (17 : Int)) rfl)) (by cases u_32.1 <;> rfl) (fun k_2 R Go hR f => (gn (env' := [none, some En.st, sv ((eL PyData.str) choices_1), sv ((eL (eT4 PyData.str (eU eSrv) eD eD)) s_5), sv (PyData.int k_2), (Option.map En.d u_32.2), (Option.map En.d u_31), sv ((eT4 PyData.str (eU eSrv) PyData.str eN) full_1), none, none, none, none, none, none, none]) rfl (b_all (w_catG (e := (eT1 PyData.str)) (e' := (eT3 (eU eSrv) PyData.str eN)) (e3 := (eT4 PyData.str (eU eSrv) PyData.str eN)) (fun (x : (Str)) (y : ((List Srv) × Str × Unit)) => (x, y.1, y.2.1, y.2.2)) (w_tup1 (w_if (t_val (w_I0 (g' := fun i j => decide (i < j)) (w_name (e := PyData.int) (x := k_2) rfl) (w_dC (e := PyData.int) (x := (10 : Int)) rfl) (fun _ _ => rfl))) (w_mulS (w_dC (e := PyData.str) (x := (Str.ofString "a")) rfl) (w_I0 (g' := fun i j => i + j) (w_name (e := PyData.int) (x := k_2) rfl) (w_dC (e := PyData.int) (x := (1 : Int)) rfl) (fun _ _ => rfl))) (w_mulS (w_dC (e := PyData.str) (x := (Str.ofString "b")) rfl) (w_I0 (g' := fun i j => i - j) (w_name (e := PyData.int) (x := k_2) rfl) (w_dC (e := PyData.int) (x := (9 : Int)) rfl) (fun _ _ => rfl))))) (w_slG (e := (eT4 PyData.str (eU eSrv) PyData.str eN)) (e' := (eT3 (eU eSrv) PyData.str eN)) (fun p : (Str × (List Srv) × Str × Unit) => (p.2.1, p.2.2.1, p.2.2.2)) (w_name (e := (eT4 PyData.str (eU eSrv) PyData.str eN)) (x := full_1) rfl) (o_some (w_dC (e := PyData.int) (x := (1 : Int)) rfl)) o_no (fun _ => ⟨_, rfl, rfl⟩)) (fun _ _ => ⟨_, _, rfl, rfl, rfl, by show 4 ≤ sizeLine; decide⟩)) hR f))))) (fun _ => rfl)) (fun many_1 : (List (Str × (List Srv) × Str × Unit)) => [none, some En.st, sv ((eL PyData.str) choices_1), sv ((eL (eT4 PyData.str (eU eSrv) eD eD)) s_5), (Option.map En.d u_32.1), (Option.map En.d u_32.2), (Option.map En.d u_31), sv ((eT4 PyData.str (eU eSrv) PyData.str eN) full_1), sv ((eU (eT4 PyData.str (eU eSrv) PyData.str eN)) many_1), none, none, none, none, none, none]) (fun _ => rfl) (fun many_1 q => (s_seq0 (s_if (t_or (t_val (w_neD (w_call1 (w_co (e := (eU (eT4 PyData.str (eU eSrv) PyData.str eN))) (e' := (eU eSvc)) (fun a : (List (Str × (List Srv) × Str × Unit)) => ((List.map (fun a : (Str × (List Srv) × Str × Unit) => ((PyData.str a.1), a.2.1, (PyData.str a.2.2.1), (eN a.2.2.2))) a) : (List Svc))) (w_name (e := (eU (eT4 PyData.str (eU eSrv) PyData.str eN))) (x := many_1) rfl) (co_U (fun a : (Str × (List Srv) × Str × Unit) => ((PyData.str a.1), a.2.1, (PyData.str a.2.2.1), (eN a.2.2.2))) (fun _ => rfl)))) (w_dC (e := (eT2 PyData.int PyData.str)) (x := ((16 : Int), (Str.ofString "services"))) rfl))) (t_val (w_notN (r := fun a : (Option (Int × (Option Str))) => a.isNone) (w_call1 (w_co (e := (eU (eT4 PyData.str (eU eSrv) PyData.str eN))) (e' := (eU eSvc)) (fun a : (List (Str × (List Srv) × Str × Unit)) => ((List.map (fun a : (Str × (List Srv) × Str × Unit) => ((PyData.str a.1), a.2.1, (PyData.str a.2.2.1), (eN a.2.2.2))) a) : (List Svc))) (w_slU (e := (eT4 PyData.str (eU eSrv) PyData.str eN)) (w_name (e := (eU (eT4 PyData.str (eU eSrv) PyData.str eN))) (x := many_1) rfl) o_no (o_some (w_dC (e := PyData.int) (x := (16 : Int)) rfl))) (co_U (fun a : (Str × (List Srv) × Str × Unit) => ((PyData.str a.1), a.2.1, (PyData.str a.2.2.1), (eN a.2.2.2))) (fun _ => rfl)))) (n_O (fun _ => rfl))))) (fun q => (s_ret (e := PyData.bool) (w_dC (e := PyData.bool) (x := false) rfl) hQ q)) (fun q => (s_next (s_seq0 (s_for2 (e := PyData.int) (fun (xs : List Int) (s_3 : Unit) => y_law_l3 s_5 full_1 (fun b : Bool => b = true) ((fun b : Bool => b = true) true) xs) (fun (s_3 : Unit) => ((fun b : Bool => b = true) true)) (fun (s_3 : Unit) (u_30 : Option D × Option D × Option D × Option D × Option D × Option D) => [none, some En.st, sv ((eL PyData.str) choices_1), sv ((eL (eT4 PyData.str (eU eSrv) eD eD)) s_5), (Option.map En.d u_32.1), (Option.map En.d u_32.2), (Option.map En.d u_31), sv ((eT4 PyData.str (eU eSrv) PyData.str eN) full_1), sv ((eU (eT4 PyData.str (eU eSrv) PyData.str eN)) many_1), (Option.map En.d u_30.1), (Option.map En.d u_30.2.1), (Option.map En.d u_30.2.2.1), (Option.map En.d u_30.2.2.2.1), (Option.map En.d u_30.2.2.2.2.1), (Option.map En.d u_30.2.2.2.2.2)]) () (none, none, none, none, none, none) rfl (i_r1 (w_dC (e := PyData.int) (x := (3 : Int)) rfl)) (fun s_3 u_30 q => (s_ret (e := PyData.bool) (w_dC (e := PyData.bool) (x := true) rfl) hQ q)) (fun _ q => q) (fun turn_1 r_3 s_3 u_30 N_3 B_3 hN_3 hB_3 q => (gn (env' := [none, some En.st, sv ((eL PyData.str) choices_1), sv ((eL (eT4 PyData.str (eU eSrv) eD eD)) s_5), (Option.map En.d u_32.1), (Option.map En.d u_32.2), (Option.map En.d u_31), sv ((eT4 PyData.str (eU eSrv) PyData.str eN) full_1), sv ((eU (eT4 PyData.str (eU eSrv) PyData.str eN)) many_1), sv (PyData.int turn_1), (Option.map En.d u_30.2.1), (Option.map En.d u_30.2.2.1), (Option.map En.d u_30.2.2.2.1), (Option.map En.d u_30.2.2.2.2.1), (Option.map En.d u_30.2.2.2.2.2)]) rfl (s_seq0 (s_asg (e := PyData.int) (w_take rfl (w_I0 (g' := fun i j => i + j) (w_len (e := (eT4 PyData.str (eU eSrv) eD eD)) (w_nameB (e := (eL (eT4 PyData.str (eU eSrv) eD eD))) (x := s_5) rfl) (fun _ => rfl)) (w_dC (e := PyData.int) (x := (1 : Int)) rfl) (fun _ _ => rfl))) (fun at_1 : Int => [none, some En.st, sv ((eL PyData.str) choices_1), sv ((eL (eT4 PyData.str (eU eSrv) eD eD)) s_5), (Option.map En.d u_32.1), (Option.map En.d u_32.2), (Option.map En.d u_31), sv ((eT4 PyData.str (eU eSrv) PyData.str eN) full_1), sv ((eU (eT4 PyData.str (eU eSrv) PyData.str eN)) many_1), sv (PyData.int turn_1), sv (PyData.int at_1), (Option.map En.d u_30.2.2.1), (Option.map En.d u_30.2.2.2.1), (Option.map En.d u_30.2.2.2.2.1), (Option.map En.d u_30.2.2.2.2.2)]) (fun _ => rfl) (fun at_1 q => (s_seq0 (s_asg (e := (eT4 PyData.str (eU eSrv) eD eD)) (w_if (t_val (w_I0 (g' := fun i j => decide (i < j)) (w_name (e := PyData.int) (x := at_1) rfl) (w_len (e := (eT4 PyData.str (eU eSrv) eD eD)) (w_nameB (e := (eL (eT4 PyData.str (eU eSrv) eD eD))) (x := s_5) rfl) (fun _ => rfl)) (fun _ _ => rfl))) (w_ix (e := (eT4 PyData.str (eU eSrv) eD eD)) (w_nameB (e := (eL (eT4 PyData.str (eU eSrv) eD eD))) (x := s_5) rfl) (w_name (e := PyData.int) (x := at_1) rfl) (fun _ => rfl)) (w_co (e := (eT4 PyData.str (eU eSrv) PyData.str eN)) (e' := (eT4 PyData.str (eU eSrv) eD eD)) (fun a : (Str × (List Srv) × Str × Unit) => ((a.1, a.2.1, (PyData.str a.2.2.1), (eN a.2.2.2)) : (Str × (List Srv) × D × D))) (w_name (e := (eT4 PyData.str (eU eSrv) PyData.str eN)) (x := full_1) rfl) (fun _ => rfl))) (fun good_1 : (Str × (List Srv) × D × D) => [none, some En.st, sv ((eL PyData.str) choices_1), sv ((eL (eT4 PyData.str (eU eSrv) eD eD)) s_5), (Option.map En.d u_32.1), (Option.map En.d u_32.2), (Option.map En.d u_31), sv ((eT4 PyData.str (eU eSrv) PyData.str eN) full_1), sv ((eU (eT4 PyData.str (eU eSrv) PyData.str eN)) many_1), sv (PyData.int turn_1), sv (PyData.int at_1), sv ((eT4 PyData.str (eU eSrv) eD eD) good_1), (Option.map En.d u_30.2.2.2.1), (Option.map En.d u_30.2.2.2.2.1), (Option.map En.d u_30.2.2.2.2.2)]) (fun _ => rfl) (fun good_1 q => (s_seq0 (s_pat (e := (eT2 eSvc PyData.str)) (w_callS1 rfl (w_co (e := (eT4 PyData.str (eU eSrv) eD eD)) (e' := eSvc) (fun a : (Str × (List Srv) × D × D) => (((PyData.str a.1), a.2.1, a.2.2.1, a.2.2.2) : Svc)) (w_name (e := (eT4 PyData.str (eU eSrv) eD eD)) (x := good_1) rfl) (fun _ => rfl))) (fun p_1 q => (g_tup (gs_cons (gn (env' := [none, some En.st, sv ((eL PyData.str) choices_1), sv ((eL (eT4 PyData.str (eU eSrv) eD eD)) s_5), (Option.map En.d u_32.1), (Option.map En.d u_32.2), (Option.map En.d u_31), sv ((eT4 PyData.str (eU eSrv) PyData.str eN) full_1), sv ((eU (eT4 PyData.str (eU eSrv) PyData.str eN)) many_1), sv (PyData.int turn_1), sv (PyData.int at_1), sv ((eT4 PyData.str (eU eSrv) eD eD) good_1), sv (eSvc p_1.1), (Option.map En.d u_30.2.2.2.2.1), (Option.map En.d u_30.2.2.2.2.2)]) rfl (gs_cons (gn (env' := [none, some En.st, sv ((eL PyData.str) choices_1), sv ((eL (eT4 PyData.str (eU eSrv) eD eD)) s_5), (Option.map En.d u_32.1), (Option.map En.d u_32.2), (Option.map En.d u_31), sv ((eT4 PyData.str (eU eSrv) PyData.str eN) full_1), sv ((eU (eT4 PyData.str (eU eSrv) PyData.str eN)) many_1), sv (PyData.int turn_1), sv (PyData.int at_1), sv ((eT4 PyData.str (eU eSrv) eD eD) good_1), sv (eSvc p_1.1), sv (PyData.str p_1.2), (Option.map En.d u_30.2.2.2.2.2)]) rfl (gs_nil (s_seq_cut0 (a := _) (fun s_2 : Svc × Str => y_law_j5 s_5 at_1 (fun b : Bool => b = true) (y_law_l3 s_5 full_1 (fun b : Bool => b = true) ((fun b : Bool => b = true) true) r_3) s_2.1 s_2.2) (fun (s_2 : Svc × Str) (u_23 : Unit) => [none, some En.st, sv ((eL PyData.str) choices_1), sv ((eL (eT4 PyData.str (eU eSrv) eD eD)) s_5), (Option.map En.d u_32.1), (Option.map En.d u_32.2), (Option.map En.d u_31), sv ((eT4 PyData.str (eU eSrv) PyData.str eN) full_1), sv ((eU (eT4 PyData.str (eU eSrv) PyData.str eN)) many_1), sv (PyData.int turn_1), sv (PyData.int at_1), sv ((eT4 PyData.str (eU eSrv) eD eD) good_1), sv (eSvc s_2.1), sv (PyData.str s_2.2), (Option.map En.d u_30.2.2.2.2.2)]) (fun s_2 u_23 q => (s_seq0 (s_asg (e := (eL eSvc)) (w_cat (e := eSvc) (w_cat (e := eSvc) (w_co (e := (eL (eT4 PyData.str (eU eSrv) eD eD))) (e' := (eL eSvc)) (fun a : (List (Str × (List Srv) × D × D)) => ((List.map (fun a : (Str × (List Srv) × D × D) => ((PyData.str a.1), a.2.1, a.2.2.1, a.2.2.2)) a) : (List Svc))) (w_list (w_slL (e := (eT4 PyData.str (eU eSrv) eD eD)) (w_nameB (e := (eL (eT4 PyData.str (eU eSrv) eD eD))) (x := s_5) rfl) o_no (o_some (w_name (e := PyData.int) (x := at_1) rfl)))) (co_L (fun a : (Str × (List Srv) × D × D) => ((PyData.str a.1), a.2.1, a.2.2.1, a.2.2.2)) (fun _ => rfl))) (w_list (l_cons (e := eSvc) (w_name (e := eSvc) (x := s_2.1) rfl) (l_nil (e := eSvc))))) (w_co (e := (eL (eT4 PyData.str (eU eSrv) eD eD))) (e' := (eL eSvc)) (fun a : (List (Str × (List Srv) × D × D)) => ((List.map (fun a : (Str × (List Srv) × D × D) => ((PyData.str a.1), a.2.1, a.2.2.1, a.2.2.2)) a) : (List Svc))) (w_list (w_slL (e := (eT4 PyData.str (eU eSrv) eD eD)) (w_nameB (e := (eL (eT4 PyData.str (eU eSrv) eD eD))) (x := s_5) rfl) (o_some (w_I0 (g' := fun i j => i + j) (w_name (e := PyData.int) (x := at_1) rfl) (w_dC (e := PyData.int) (x := (1 : Int)) rfl) (fun _ _ => rfl))) o_no)) (co_L (fun a : (Str × (List Srv) × D × D) => ((PyData.str a.1), a.2.1, a.2.2.1, a.2.2.2)) (fun _ => rfl)))) (fun rows_1 : (List Svc) => [none, some En.st, sv ((eL PyData.str) choices_1), sv ((eL (eT4 PyData.str (eU eSrv) eD eD)) s_5), (Option.map En.d u_32.1), (Option.map En.d u_32.2), (Option.map En.d u_31), sv ((eT4 PyData.str (eU eSrv) PyData.str eN) full_1), sv ((eU (eT4 PyData.str (eU eSrv) PyData.str eN)) many_1), sv (PyData.int turn_1), sv (PyData.int at_1), sv ((eT4 PyData.str (eU eSrv) eD eD) good_1), sv (eSvc s_2.1), sv (PyData.str s_2.2), sv ((eL eSvc) rows_1)]) (fun _ => rfl) (fun rows_1 q => (s_seq_cut0 (a := _) (fun s_1 : (List Svc) => y_law_j4 s_5 at_1 s_2.2 (fun b : Bool => b = true) (y_law_l3 s_5 full_1 (fun b : Bool => b = true) ((fun b : Bool => b = true) true) r_3) s_1) (fun (s_1 : (List Svc)) (u_22 : Unit) => [none, some En.st, sv ((eL PyData.str) choices_1), sv ((eL (eT4 PyData.str (eU eSrv) eD eD)) s_5), (Option.map En.d u_32.1), (Option.map En.d u_32.2), (Option.map En.d u_31), sv ((eT4 PyData.str (eU eSrv) PyData.str eN) full_1), sv ((eU (eT4 PyData.str (eU eSrv) PyData.str eN)) many_1), sv (PyData.int turn_1), sv (PyData.int at_1), sv ((eT4 PyData.str (eU eSrv) eD eD) good_1), sv (eSvc s_2.1), sv (PyData.str s_2.2), sv ((eL eSvc) s_1)]) (fun s_1 u_22 q => (s_seq0 (s_if (t_and (t_val (w_I0 (g' := fun i j => decide (i < j)) (w_len (e := eSvc) (w_name (e := (eL eSvc)) (x := s_1) rfl) (fun _ => rfl)) (w_dC (e := PyData.int) (x := (17 : Int)) rfl) (fun _ _ => rfl))) (t_val (w_neD (w_call1 (w_tupOf (e := eSvc) (w_name (e := (eL eSvc)) (x := s_1) rfl) (fun _ => rfl))) (w_tup2 (w_name (e := PyData.int) (x := at_1) rfl) (w_name (e := PyData.str) (x := s_2.2) rfl))))) (fun q => (s_ret (e := PyData.bool) (w_dC (e := PyData.bool) (x := false) rfl) hQ q)) (fun q => (s_next (s_if (t_val (w_notN (r := fun a : (Option (Int × (Option Str))) => a.isNone) (w_call1 (w_tupOf (e := eSvc) (w_co (e := (eL (eT4 PyData.str (eU eSrv) eD eD))) (e' := (eL eSvc)) (fun a : (List (Str × (List Srv) × D × D)) => ((List.map (fun a : (Str × (List Srv) × D × D) => ((PyData.str a.1), a.2.1, a.2.2.1, a.2.2.2)) a) : (List Svc))) (w_nameB (e := (eL (eT4 PyData.str (eU eSrv) eD eD))) (x := s_5) rfl) (co_L (fun a : (Str × (List Srv) × D × D) => ((PyData.str a.1), a.2.1, a.2.2.1, a.2.2.2)) (fun _ => rfl))) (fun _ => rfl))) (n_O (fun _ => rfl)))) (fun q => (s_ret (e := PyData.bool) (w_dC (e := PyData.bool) (x := false) rfl) hQ q)) (fun q => (s_next (hN_3 () ((some (PyData.int turn_1)), (some (PyData.int at_1)), (some ((eT4 PyData.str (eU eSrv) eD eD) good_1)), (some (eSvc s_2.1)), (some (PyData.str s_2.2)), (some ((eL eSvc) s_1))) q))) q))) q))) (fun N_4 hN_4 => (s_if (t_and (t_val (w_I0 (g' := fun i j => decide (i < j)) (w_len (e := eSvc) (w_name (e := (eL eSvc)) (x := rows_1) rfl) (fun _ => rfl)) (w_dC (e := PyData.int) (x := (16 : Int)) rfl) (fun _ _ => rfl))) (t_val (w_eqS (r := fun (a : Int) (b : Int) => decide (a = b)) (w_take rfl (w_dC (e := PyData.int) (x := (3 : Int)) rfl)) (w_dC (e := PyData.int) (x := (0 : Int)) rfl) r_I))) (fun q => (s_asg (e := (eL eSvc)) (w_cat (e := eSvc) (w_name (e := (eL eSvc)) (x := rows_1) rfl) (w_list (l_dCL (e := eSvc) (xs := [((PyData.str ((((Str.ofString ""), (), (Str.ofString "late"), (-1 : Int))).1)), [], (PyData.str ((((Str.ofString ""), (), (Str.ofString "late"), (-1 : Int))).2.2.1)), (PyData.int ((((Str.ofString ""), (), (Str.ofString "late"), (-1 : Int))).2.2.2)))]) rfl))) (fun rows_3 : (List Svc) => [none, some En.st, sv ((eL PyData.str) choices_1), sv ((eL (eT4 PyData.str (eU eSrv) eD eD)) s_5), (Option.map En.d u_32.1), (Option.map En.d u_32.2), (Option.map En.d u_31), sv ((eT4 PyData.str (eU eSrv) PyData.str eN) full_1), sv ((eU (eT4 PyData.str (eU eSrv) PyData.str eN)) many_1), sv (PyData.int turn_1), sv (PyData.int at_1), sv ((eT4 PyData.str (eU eSrv) eD eD) good_1), sv (eSvc s_2.1), sv (PyData.str s_2.2), sv ((eL eSvc) rows_3)]) (fun _ => rfl) (fun rows_3 q => (hN_4 rows_3 () q)) q)) (fun q => (s_next (hN_4 rows_1 () q))) q)))) q))) (fun N_5 hN_5 => (s_if (t_and (t_val (w_I0 (g' := fun i j => decide (j < i)) (w_name (e := PyData.int) (x := at_1) rfl) (w_dC (e := PyData.int) (x := (0 : Int)) rfl) (fun _ _ => rfl))) (t_val (w_eqS (r := fun (a : Int) (b : Int) => decide (a = b)) (w_take rfl (w_dC (e := PyData.int) (x := (5 : Int)) rfl)) (w_dC (e := PyData.int) (x := (0 : Int)) rfl) r_I))) (fun q => (s_par (e := (eT4 PyData.str eT0 PyData.str PyData.int)) (e' := PyData.str) (w_tup4 (w_prj (e := (eT4 PyData.str (eU eSrv) eD eD)) (e' := PyData.str) 0 (fun p : (Str × (List Srv) × D × D) => p.1) (w_ix (e := (eT4 PyData.str (eU eSrv) eD eD)) (w_nameB (e := (eL (eT4 PyData.str (eU eSrv) eD eD))) (x := s_5) rfl) (w_dC (e := PyData.int) (x := (0 : Int)) rfl) (fun _ => rfl)) (fun _ => ⟨_, rfl, dix_nn (by decide) rfl⟩)) (w_dC (e := eT0) (x := ()) rfl) (w_dC (e := PyData.str) (x := (Str.ofString "late")) rfl) (w_neg (w_dC (e := PyData.int) (x := (1 : Int)) rfl))) (w_dC (e := PyData.str) (x := (Str.ofString "twice")) rfl) (fun bad_2 word_2 => [none, some En.st, sv ((eL PyData.str) choices_1), sv ((eL (eT4 PyData.str (eU eSrv) eD eD)) s_5), (Option.map En.d u_32.1), (Option.map En.d u_32.2), (Option.map En.d u_31), sv ((eT4 PyData.str (eU eSrv) PyData.str eN) full_1), sv ((eU (eT4 PyData.str (eU eSrv) PyData.str eN)) many_1), sv (PyData.int turn_1), sv (PyData.int at_1), sv ((eT4 PyData.str (eU eSrv) eD eD) good_1), sv ((eT4 PyData.str eT0 PyData.str PyData.int) bad_2), sv (PyData.str word_2), (Option.map En.d u_30.2.2.2.2.2)]) (fun _ _ => rfl) (fun bad_2 word_2 q => (hN_5 (((PyData.str bad_2.1), [], (PyData.str bad_2.2.2.1), (PyData.int bad_2.2.2.2)), word_2) () q)) q)) (fun q => (s_next (hN_5 (p_1.1, p_1.2) () q))) q)))))))) rfl)) q))) q))) q)))) q)))) q))) q))) q))) (fun _ q => q) (fun service_1 r_2 s_4 u_31 N_2 B_2 hN_2 hB_2 q => (gn (env' := [none, some En.st, sv ((eL PyData.str) choices_1), sv ((eL (eT4 PyData.str (eU eSrv) eD eD)) s_5), (Option.map En.d u_32.1), (Option.map En.d u_32.2), sv ((eT4 PyData.str (eU eSrv) eD eD) service_1), none, none, none, none, none, none, none, none]) rfl (s_if (t_val (w_neD (w_call1 (w_co (e := (eT4 PyData.str (eU eSrv) eD eD)) (e' := eSvc) (fun a : (Str × (List Srv) × D × D) => (((PyData.str a.1), a.2.1, a.2.2.1, a.2.2.2) : Svc)) (w_name (e := (eT4 PyData.str (eU eSrv) eD eD)) (x := service_1) rfl) (fun _ => rfl))) (w_call1 (w_co (e := (eT4 PyData.str (eU eSrv) eD eD)) (e' := eSvc) (fun a : (Str × (List Srv) × D × D) => (((PyData.str a.1), a.2.1, a.2.2.1, a.2.2.2) : Svc)) (w_name (e := (eT4 PyData.str (eU eSrv) eD eD)) (x := service_1) rfl) (fun _ => rfl))))) (fun q => (s_ret (e := PyData.bool) (w_dC (e := PyData.bool) (x := false) rfl) hQ q)) (fun q => (s_next (hN_2 () (some ((eT4 PyData.str (eU eSrv) eD eD) service_1)) q))) q))) q))))) q))) (fun _ q => q) (fun k_1 r_1 s_5 u_32 N_1 B_1 hN_1 hB_1 q => (gn (env' := [none, some En.st, sv ((eL PyData.str) choices_1), so (List.map (eT4 PyData.str (eU eSrv) eD eD) s_5), sv (PyData.int k_1), (Option.map En.d u_32.2), none, none, none, none, none, none, none, none, none]) rfl (s_seq0 (s_asg (e := eSvc) (w_callS2 rfl (w_ix (e := PyData.str) (w_name (e := (eL PyData.str)) (x := choices_1) rfl) (w_take rfl (w_dC (e := PyData.int) (x := (3 : Int)) rfl)) (fun _ => rfl)) (w_ix (e := (eO PyData.int)) (w_list (l_cons (e := (eO PyData.int)) (w_co (e := eN) (e' := (eO PyData.int)) (fun a : Unit => (none : (Option Int))) (w_dC (e := eN) (x := ()) rfl) (fun _ => rfl)) (l_cons (e := (eO PyData.int)) (w_co (e := PyData.int) (e' := (eO PyData.int)) (fun a : Int => ((some a) : (Option Int))) (w_dC (e := PyData.int) (x := (0 : Int)) rfl) (fun _ => rfl)) (l_cons (e := (eO PyData.int)) (w_co (e := PyData.int) (e' := (eO PyData.int)) (fun a : Int => ((some a) : (Option Int))) (w_dC (e := PyData.int) (x := (1000000 : Int)) rfl) (fun _ => rfl)) (l_cons (e := (eO PyData.int)) (w_co (e := PyData.int) (e' := (eO PyData.int)) (fun a : Int => ((some a) : (Option Int))) (w_take rfl (w_dC (e := PyData.int) (x := (99 : Int)) rfl)) (fun _ => rfl)) (l_nil (e := (eO PyData.int)))))))) (w_take rfl (w_dC (e := PyData.int) (x := (4 : Int)) rfl)) (fun _ => rfl))) (fun one_1 : Svc => [none, some En.st, sv ((eL PyData.str) choices_1), so (List.map (eT4 PyData.str (eU eSrv) eD eD) s_5), sv (PyData.int k_1), sv (eSvc one_1), none, none, none, none, none, none, none, none, none]) (fun _ => rfl) (fun one_1 q => (s_app (xs := s_5) (e := (eT4 PyData.str (eU eSrv) eD eD)) rfl (w_catG (e := (eT1 PyData.str)) (e' := (eT3 (eU eSrv) eD eD)) (e3 := (eT4 PyData.str (eU eSrv) eD eD)) (fun (x : (Str)) (y : ((List Srv) × D × D)) => (x, y.1, y.2.1, y.2.2)) (w_tup1 (w_ixS (w_dC (e := PyData.str) (x := (Str.ofString "abcdefghijklmnop")) rfl) (w_name (e := PyData.int) (x := k_1) rfl))) (w_slG (e := eSvc) (e' := (eT3 (eU eSrv) eD eD)) (fun p : Svc => (p.2.1, p.2.2.1, p.2.2.2)) (w_name (e := eSvc) (x := one_1) rfl) (o_some (w_dC (e := PyData.int) (x := (1 : Int)) rfl)) o_no (fun _ => ⟨_, rfl, rfl⟩)) (fun _ _ => ⟨_, _, rfl, rfl, rfl, by show 4 ≤ sizeLine; decide⟩)) (fun services_3 => [none, some En.st, sv ((eL PyData.str) choices_1), so (List.map (eT4 PyData.str (eU eSrv) eD eD) services_3), sv (PyData.int k_1), sv (eSvc one_1), none, none, none, none, none, none, none, none, none]) (fun _ => rfl) (fun services_3 q => (hN_1 services_3 ((some (PyData.int k_1)), (some (eSvc one_1))) q)) q)) q)))) q))) q))) q)))) q))
end
theorem all_mk {l : PySem.W.OpenLaw} {w : World} {K : PySem.W.Frag} {h : Heap} {mg : Str → Option Value} {fa f0 f1 f2 f3 f4 f5 f6 f7 f8 f9 f10 f11 f12 f13 f14 f15 f16 f17 : Addr} (X : K.In h) (G : h.Ns mainGlobals mg) (hfa : mg "law" = some (.ref fa))
    {od0 an0 od1 an1 od2 an2 od3 an3 od4 an4 od5 an5 od6 an6 od7 an7 od8 an8 od9 an9 od10 an10 od11 an11 od12 an12 od13 an13 od14 an14 od15 an15 od16 an16 od17 an17 : Option Addr} {sl0 sl1 sl2 sl3 sl4 sl5 sl6 sl7 sl8 sl9 sl10 sl11 sl12 sl13 sl14 sl15 sl16 sl17 : Array (Option Value)} {oc0 kV0 dc0 pm0 cd0 ct0 oc1 kV1 dc1 pm1 cd1 ct1 oc2 kV2 dc2 pm2 cd2 ct2 oc3 kV3 dc3 pm3 cd3 ct3 oc4 kV4 dc4 pm4 cd4 ct4 oc5 kV5 dc5 pm5 cd5 ct5 oc6 kV6 dc6 pm6 cd6 ct6 oc7 kV7 dc7 pm7 cd7 ct7 oc8 kV8 dc8 pm8 cd8 ct8 oc9 kV9 dc9 pm9 cd9 ct9 oc10 kV10 dc10 pm10 cd10 ct10 oc11 kV11 dc11 pm11 cd11 ct11 oc12 kV12 dc12 pm12 cd12 ct12 oc13 kV13 dc13 pm13 cd13 ct13 oc14 kV14 dc14 pm14 cd14 ct14 oc15 kV15 dc15 pm15 cd15 ct15 oc16 kV16 dc16 pm16 cd16 ct16 oc17 kV17 dc17 pm17 cd17 ct17 : Value} {t_LETTERS t_MOST_SERVICES t_MOST_SERVERS t_MOST_HOLD : Tok}
    (a0 : PySem.W.nsIn K mainGlobals "is_number" = some (some (.ref f0))) (l0 : K.lookup f0 = some ⟨oc0, od0, .func (PySem.W.fnOf "is_number" "is_number" (defArgs s_is_number) (defBody s_is_number) (defScope s_is_number) .none kV0 dc0 pm0 an0 cd0 ct0), sl0⟩) (c0 : PySem.W.codeIn K cd0 "is_number" = true) (k0 : PySem.W.keepIn K (.ref f0) = true)
    (a1 : PySem.W.nsIn K mainGlobals "within" = some (some (.ref f1))) (l1 : K.lookup f1 = some ⟨oc1, od1, .func (PySem.W.fnOf "within" "within" (defArgs s_within) (defBody s_within) (defScope s_within) .none kV1 dc1 pm1 an1 cd1 ct1), sl1⟩) (c1 : PySem.W.codeIn K cd1 "within" = true) (k1 : PySem.W.keepIn K (.ref f1) = true)
    (a2 : PySem.W.nsIn K mainGlobals "whole_within" = some (some (.ref f2))) (l2 : K.lookup f2 = some ⟨oc2, od2, .func (PySem.W.fnOf "whole_within" "whole_within" (defArgs s_whole_within) (defBody s_whole_within) (defScope s_whole_within) .none kV2 dc2 pm2 an2 cd2 ct2), sl2⟩) (c2 : PySem.W.codeIn K cd2 "whole_within" = true) (k2 : PySem.W.keepIn K (.ref f2) = true)
    (a3 : PySem.W.nsIn K mainGlobals "first_wrong" = some (some (.ref f3))) (l3 : K.lookup f3 = some ⟨oc3, od3, .func (PySem.W.fnOf "first_wrong" "first_wrong" (defArgs s_first_wrong) (defBody s_first_wrong) (defScope s_first_wrong) .none kV3 dc3 pm3 an3 cd3 ct3), sl3⟩) (c3 : PySem.W.codeIn K cd3 "first_wrong" = true) (k3 : PySem.W.keepIn K (.ref f3) = true)
    (a4 : PySem.W.nsIn K mainGlobals "is_name" = some (some (.ref f4))) (l4 : K.lookup f4 = some ⟨oc4, od4, .func (PySem.W.fnOf "is_name" "is_name" (defArgs s_is_name) (defBody s_is_name) (defScope s_is_name) .none kV4 dc4 pm4 an4 cd4 ct4), sl4⟩) (c4 : PySem.W.codeIn K cd4 "is_name" = true) (k4 : PySem.W.keepIn K (.ref f4) = true)
    (a5 : PySem.W.nsIn K mainGlobals "fault_of_services" = some (some (.ref f5))) (l5 : K.lookup f5 = some ⟨oc5, od5, .func (PySem.W.fnOf "fault_of_services" "fault_of_services" (defArgs s_fault_of_services) (defBody s_fault_of_services) (defScope s_fault_of_services) .none kV5 dc5 pm5 an5 cd5 ct5), sl5⟩) (c5 : PySem.W.codeIn K cd5 "fault_of_services" = true) (k5 : PySem.W.keepIn K (.ref f5) = true)
    (a6 : PySem.W.nsIn K mainGlobals "_fault_of_service" = some (some (.ref f6))) (l6 : K.lookup f6 = some ⟨oc6, od6, .func (PySem.W.fnOf "_fault_of_service" "_fault_of_service" (defArgs s_fault_of_service) (defBody s_fault_of_service) (defScope s_fault_of_service) .none kV6 dc6 pm6 an6 cd6 ct6), sl6⟩) (c6 : PySem.W.codeIn K cd6 "_fault_of_service" = true) (k6 : PySem.W.keepIn K (.ref f6) = true)
    (a7 : PySem.W.nsIn K mainGlobals "_fault_of_server" = some (some (.ref f7))) (l7 : K.lookup f7 = some ⟨oc7, od7, .func (PySem.W.fnOf "_fault_of_server" "_fault_of_server" (defArgs s_fault_of_server) (defBody s_fault_of_server) (defScope s_fault_of_server) .none kV7 dc7 pm7 an7 cd7 ct7), sl7⟩) (c7 : PySem.W.codeIn K cd7 "_fault_of_server" = true) (k7 : PySem.W.keepIn K (.ref f7) = true)
    (a8 : PySem.W.nsIn K mainGlobals "eligible" = some (some (.ref f8))) (l8 : K.lookup f8 = some ⟨oc8, od8, .func (PySem.W.fnOf "eligible" "eligible" (defArgs s_eligible) (defBody s_eligible) (defScope s_eligible) .none kV8 dc8 pm8 an8 cd8 ct8), sl8⟩) (c8 : PySem.W.codeIn K cd8 "eligible" = true) (k8 : PySem.W.keepIn K (.ref f8) = true)
    (a9 : PySem.W.nsIn K mainGlobals "empty_state" = some (some (.ref f9))) (l9 : K.lookup f9 = some ⟨oc9, od9, .func (PySem.W.fnOf "empty_state" "empty_state" (defArgs s_empty_state) (defBody s_empty_state) (defScope s_empty_state) .none kV9 dc9 pm9 an9 cd9 ct9), sl9⟩) (c9 : PySem.W.codeIn K cd9 "empty_state" = true) (k9 : PySem.W.keepIn K (.ref f9) = true)
    (a10 : PySem.W.nsIn K mainGlobals "_law_state" = some (some (.ref f10))) (l10 : K.lookup f10 = some ⟨oc10, od10, .func (PySem.W.fnOf "_law_state" "_law_state" (defArgs s_law_state) (defBody s_law_state) (defScope s_law_state) .none kV10 dc10 pm10 an10 cd10 ct10), sl10⟩) (c10 : PySem.W.codeIn K cd10 "_law_state" = true) (k10 : PySem.W.keepIn K (.ref f10) = true)
    (a11 : PySem.W.nsIn K mainGlobals "_law_take" = some (some (.ref f11))) (l11 : K.lookup f11 = some ⟨oc11, od11, .func (PySem.W.fnOf "_law_take" "_law_take" (defArgs s_law_take) (defBody s_law_take) (defScope s_law_take) .none kV11 dc11 pm11 an11 cd11 ct11), sl11⟩) (c11 : PySem.W.codeIn K cd11 "_law_take" = true) (k11 : PySem.W.keepIn K (.ref f11) = true)
    (a12 : PySem.W.nsIn K mainGlobals "_law_server" = some (some (.ref f12))) (l12 : K.lookup f12 = some ⟨oc12, od12, .func (PySem.W.fnOf "_law_server" "_law_server" (defArgs s_law_server) (defBody s_law_server) (defScope s_law_server) .none kV12 dc12 pm12 an12 cd12 ct12), sl12⟩) (c12 : PySem.W.codeIn K cd12 "_law_server" = true) (k12 : PySem.W.keepIn K (.ref f12) = true)
    (a13 : PySem.W.nsIn K mainGlobals "_law_service" = some (some (.ref f13))) (l13 : K.lookup f13 = some ⟨oc13, od13, .func (PySem.W.fnOf "_law_service" "_law_service" (defArgs s_law_service) (defBody s_law_service) (defScope s_law_service) .none kV13 dc13 pm13 an13 cd13 ct13), sl13⟩) (c13 : PySem.W.codeIn K cd13 "_law_service" = true) (k13 : PySem.W.keepIn K (.ref f13) = true)
    (a14 : PySem.W.nsIn K mainGlobals "_law_eligible" = some (some (.ref f14))) (l14 : K.lookup f14 = some ⟨oc14, od14, .func (PySem.W.fnOf "_law_eligible" "_law_eligible" (defArgs s_law_eligible) (defBody s_law_eligible) (defScope s_law_eligible) .none kV14 dc14 pm14 an14 cd14 ct14), sl14⟩) (c14 : PySem.W.codeIn K cd14 "_law_eligible" = true) (k14 : PySem.W.keepIn K (.ref f14) = true)
    (a15 : PySem.W.nsIn K mainGlobals "_law_many" = some (some (.ref f15))) (l15 : K.lookup f15 = some ⟨oc15, od15, .func (PySem.W.fnOf "_law_many" "_law_many" (defArgs s_law_many) (defBody s_law_many) (defScope s_law_many) .none kV15 dc15 pm15 an15 cd15 ct15), sl15⟩) (c15 : PySem.W.codeIn K cd15 "_law_many" = true) (k15 : PySem.W.keepIn K (.ref f15) = true)
    (a16 : PySem.W.nsIn K mainGlobals "_law_spoilt" = some (some (.ref f16))) (l16 : K.lookup f16 = some ⟨oc16, od16, .func (PySem.W.fnOf "_law_spoilt" "_law_spoilt" (defArgs s_law_spoilt) (defBody s_law_spoilt) (defScope s_law_spoilt) .none kV16 dc16 pm16 an16 cd16 ct16), sl16⟩) (c16 : PySem.W.codeIn K cd16 "_law_spoilt" = true) (k16 : PySem.W.keepIn K (.ref f16) = true)
    (a17 : PySem.W.nsIn K mainGlobals "law" = some (some (.ref f17))) (l17 : K.lookup f17 = some ⟨oc17, od17, .func (PySem.W.fnOf "law" "law" (defArgs s_law) (defBody s_law) (defScope s_law) .none kV17 dc17 pm17 an17 cd17 ct17), sl17⟩) (c17 : PySem.W.codeIn K cd17 "law" = true) (k17 : PySem.W.keepIn K (.ref f17) = true)
    (z_isinstance : PySem.W.nsIn K mainGlobals "isinstance" = some none)
    (z_int : PySem.W.nsIn K mainGlobals "int" = some none)
    (z_bool : PySem.W.nsIn K mainGlobals "bool" = some none)
    (z_all : PySem.W.nsIn K mainGlobals "all" = some none)
    (z_str : PySem.W.nsIn K mainGlobals "str" = some none)
    (z_len : PySem.W.nsIn K mainGlobals "len" = some none)
    (z_enumerate : PySem.W.nsIn K mainGlobals "enumerate" = some none)
    (z_abs : PySem.W.nsIn K mainGlobals "abs" = some none)
    (z_range : PySem.W.nsIn K mainGlobals "range" = some none)
    (z_tuple : PySem.W.nsIn K mainGlobals "tuple" = some none)
    (y_LETTERS : PySem.W.nsIn K mainGlobals "LETTERS" = some (some (Value.str "abcdefghijklmnopqrstuvwxyz" t_LETTERS)))
    (y_MOST_SERVICES : PySem.W.nsIn K mainGlobals "MOST_SERVICES" = some (some (Value.int 16 t_MOST_SERVICES)))
    (y_MOST_SERVERS : PySem.W.nsIn K mainGlobals "MOST_SERVERS" = some (some (Value.int 32 t_MOST_SERVERS)))
    (y_MOST_HOLD : PySem.W.nsIn K mainGlobals "MOST_HOLD" = some (some (Value.int 1000000 t_MOST_HOLD)))
    {ga_HEALTHS : Addr} {its_HEALTHS : Array Value} {dn_HEALTHS : Nat} {od_HEALTHS : Option Addr} {sl_HEALTHS : Array (Option Value)}
    (q_HEALTHS : PySem.W.nsIn K mainGlobals "HEALTHS" = some (some (.ref ga_HEALTHS))) (ql_HEALTHS : K.lookup ga_HEALTHS = some ⟨.type "tuple", od_HEALTHS, .seq its_HEALTHS dn_HEALTHS, sl_HEALTHS⟩) (qz_HEALTHS : its_HEALTHS.size ≤ sizeLine) (qv_HEALTHS : Vals [.str "up", .str "down", .str "draining"] its_HEALTHS.toList)
    {ga_MOST_WEIGHT : Addr} {es_MOST_WEIGHT : Array DictEntry} {dn_MOST_WEIGHT : Nat} {u_MOST_WEIGHT_0 u_MOST_WEIGHT_1 u_MOST_WEIGHT_2 : Tok}
    (q_MOST_WEIGHT : PySem.W.nsIn K mainGlobals "MOST_WEIGHT" = some (some (.ref ga_MOST_WEIGHT))) (ql_MOST_WEIGHT : K.lookup ga_MOST_WEIGHT = some ⟨.type "dict", none, .dict es_MOST_WEIGHT dn_MOST_WEIGHT, #[]⟩)
    (qk_MOST_WEIGHT : PySem.W.KeysLit w.params es_MOST_WEIGHT.toList)
    (qe_MOST_WEIGHT_0 : PySem.W.nsIn K ga_MOST_WEIGHT (Str.ofString "turns") = some (some (.int 100 u_MOST_WEIGHT_0)))
    (qe_MOST_WEIGHT_1 : PySem.W.nsIn K ga_MOST_WEIGHT (Str.ofString "least") = some (some (.int 100 u_MOST_WEIGHT_1)))
    (qe_MOST_WEIGHT_2 : PySem.W.nsIn K ga_MOST_WEIGHT (Str.ofString "marks") = some (some (.int 8 u_MOST_WEIGHT_2)))
    : ∃ fd : FuncData, (∀ (s : Shared) (v : Value), BindsTo s fd ⟨[v], []⟩ [("script", v)]) ∧ ∀ base : Heap, K.In base → base.Ns mainGlobals mg → FnG l.prog w K mg base 6 fa fd ["script"] (spLaw K) := by
  have e := hfa.symm.trans (PySem.W.mg_of X G a17)
  cases e
  have F0 := fun_mk (st := s_is_number) l0 c0 k0
  have b0 := F0.binds (ps := ["value"]) fun _ _ _ _ _ _ us hl => match us, hl with | [_], _ => rfl
  have F1 := fun_mk (st := s_within) l1 c1 k1
  have b1 := F1.binds (ps := ["value", "low", "high"]) fun _ _ _ _ _ _ us hl => match us, hl with | [_, _, _], _ => rfl
  have F2 := fun_mk (st := s_whole_within) l2 c2 k2
  have b2 := F2.binds (ps := ["value", "low", "high"]) fun _ _ _ _ _ _ us hl => match us, hl with | [_, _, _], _ => rfl
  have F3 := fun_mk (st := s_first_wrong) l3 c3 k3
  have b3 := F3.binds (ps := ["rows"]) fun _ _ _ _ _ _ us hl => match us, hl with | [_], _ => rfl
  have F4 := fun_mk (st := s_is_name) l4 c4 k4
  have b4 := F4.binds (ps := ["name"]) fun _ _ _ _ _ _ us hl => match us, hl with | [_], _ => rfl
  have F5 := fun_mk (st := s_fault_of_services) l5 c5 k5
  have b5 := F5.binds (ps := ["services"]) fun _ _ _ _ _ _ us hl => match us, hl with | [_], _ => rfl
  have F6 := fun_mk (st := s_fault_of_service) l6 c6 k6
  have b6 := F6.binds (ps := ["service", "earlier"]) fun _ _ _ _ _ _ us hl => match us, hl with | [_, _], _ => rfl
  have F7 := fun_mk (st := s_fault_of_server) l7 c7 k7
  have b7 := F7.binds (ps := ["server", "most"]) fun _ _ _ _ _ _ us hl => match us, hl with | [_, _], _ => rfl
  have F8 := fun_mk (st := s_eligible) l8 c8 k8
  have b8 := F8.binds (ps := ["service"]) fun _ _ _ _ _ _ us hl => match us, hl with | [_], _ => rfl
  have F9 := fun_mk (st := s_empty_state) l9 c9 k9
  have b9 := F9.binds (ps := []) fun _ _ _ _ _ _ us hl => match us, hl with | [], _ => rfl
  have F10 := fun_mk (st := s_law_state) l10 c10 k10
  have b10 := F10.binds (ps := ["script"]) fun _ _ _ _ _ _ us hl => match us, hl with | [_], _ => rfl
  have F11 := fun_mk (st := s_law_take) l11 c11 k11
  have b11 := F11.binds (ps := ["state", "most"]) fun _ _ _ _ _ _ us hl => match us, hl with | [_, _], _ => rfl
  have F12 := fun_mk (st := s_law_server) l12 c12 k12
  have b12 := F12.binds (ps := ["state", "name", "most"]) fun _ _ _ _ _ _ us hl => match us, hl with | [_, _, _], _ => rfl
  have F13 := fun_mk (st := s_law_service) l13 c13 k13
  have b13 := F13.binds (ps := ["state", "choice", "hold"]) fun _ _ _ _ _ _ us hl => match us, hl with | [_, _, _], _ => rfl
  have F14 := fun_mk (st := s_law_eligible) l14 c14 k14
  have b14 := F14.binds (ps := ["service"]) fun _ _ _ _ _ _ us hl => match us, hl with | [_], _ => rfl
  have F15 := fun_mk (st := s_law_many) l15 c15 k15
  have b15 := F15.binds (ps := ["state", "count"]) fun _ _ _ _ _ _ us hl => match us, hl with | [_, _], _ => rfl
  have F16 := fun_mk (st := s_law_spoilt) l16 c16 k16
  have b16 := F16.binds (ps := ["state", "service"]) fun _ _ _ _ _ _ us hl => match us, hl with | [_, _], _ => rfl
  have F17 := fun_mk (st := s_law) l17 c17 k17
  have b17 := F17.binds (ps := ["script"]) fun _ _ _ _ _ _ us hl => match us, hl with | [_], _ => rfl
  let T : Tx K mg w := { ad_is_number := _, fd_is_number := _, d_is_number := ⟨F0, b0, PySem.W.mg_of X G a0⟩, ad_within := _, fd_within := _, d_within := ⟨F1, b1, PySem.W.mg_of X G a1⟩, ad_whole_within := _, fd_whole_within := _, d_whole_within := ⟨F2, b2, PySem.W.mg_of X G a2⟩, ad_first_wrong := _, fd_first_wrong := _, d_first_wrong := ⟨F3, b3, PySem.W.mg_of X G a3⟩, ad_is_name := _, fd_is_name := _, d_is_name := ⟨F4, b4, PySem.W.mg_of X G a4⟩, ad_fault_of_services := _, fd_fault_of_services := _, d_fault_of_services := ⟨F5, b5, PySem.W.mg_of X G a5⟩, ad_fault_of_service := _, fd_fault_of_service := _, d_fault_of_service := ⟨F6, b6, PySem.W.mg_of X G a6⟩, ad_fault_of_server := _, fd_fault_of_server := _, d_fault_of_server := ⟨F7, b7, PySem.W.mg_of X G a7⟩, ad_eligible := _, fd_eligible := _, d_eligible := ⟨F8, b8, PySem.W.mg_of X G a8⟩, ad_empty_state := _, fd_empty_state := _, d_empty_state := ⟨F9, b9, PySem.W.mg_of X G a9⟩, ad_law_state := _, fd_law_state := _, d_law_state := ⟨F10, b10, PySem.W.mg_of X G a10⟩, ad_law_take := _, fd_law_take := _, d_law_take := ⟨F11, b11, PySem.W.mg_of X G a11⟩, ad_law_server := _, fd_law_server := _, d_law_server := ⟨F12, b12, PySem.W.mg_of X G a12⟩, ad_law_service := _, fd_law_service := _, d_law_service := ⟨F13, b13, PySem.W.mg_of X G a13⟩, ad_law_eligible := _, fd_law_eligible := _, d_law_eligible := ⟨F14, b14, PySem.W.mg_of X G a14⟩, ad_law_many := _, fd_law_many := _, d_law_many := ⟨F15, b15, PySem.W.mg_of X G a15⟩, ad_law_spoilt := _, fd_law_spoilt := _, d_law_spoilt := ⟨F16, b16, PySem.W.mg_of X G a16⟩, ad_law := _, fd_law := _, d_law := ⟨F17, b17, PySem.W.mg_of X G a17⟩, b_isinstance := PySem.W.mg_none_of X G z_isinstance, b_int := PySem.W.mg_none_of X G z_int, b_bool := PySem.W.mg_none_of X G z_bool, b_all := PySem.W.mg_none_of X G z_all, b_str := PySem.W.mg_none_of X G z_str, b_len := PySem.W.mg_none_of X G z_len, b_enumerate := PySem.W.mg_none_of X G z_enumerate, b_abs := PySem.W.mg_none_of X G z_abs, b_range := PySem.W.mg_none_of X G z_range, b_tuple := PySem.W.mg_none_of X G z_tuple, t_LETTERS := _, c_LETTERS := PySem.W.mg_of X G y_LETTERS, t_MOST_SERVICES := _, c_MOST_SERVICES := PySem.W.mg_of X G y_MOST_SERVICES, t_MOST_SERVERS := _, c_MOST_SERVERS := PySem.W.mg_of X G y_MOST_SERVERS, t_MOST_HOLD := _, c_MOST_HOLD := PySem.W.mg_of X G y_MOST_HOLD, a_HEALTHS := _, c_HEALTHS := PySem.W.mg_of X G q_HEALTHS, k_HEALTHS := ⟨_, _, _, ql_HEALTHS, rfl, rfl, qz_HEALTHS, qv_HEALTHS⟩, s_HEALTHS := by repeat (first | exact .nil | refine .cons (.int _) ?_ | refine .cons (.str _) ?_ | refine .cons .non ?_ | refine .cons (.bl _) ?_), a_MOST_WEIGHT := _, g_MOST_WEIGHT := PySem.W.mg_of X G q_MOST_WEIGHT, d_MOST_WEIGHT_0 := ⟨_, _, _, ql_MOST_WEIGHT, qk_MOST_WEIGHT, qe_MOST_WEIGHT_0, ⟨_, rfl⟩⟩, d_MOST_WEIGHT_1 := ⟨_, _, _, ql_MOST_WEIGHT, qk_MOST_WEIGHT, qe_MOST_WEIGHT_1, ⟨_, rfl⟩⟩, d_MOST_WEIGHT_2 := ⟨_, _, _, ql_MOST_WEIGHT, qk_MOST_WEIGHT, qe_MOST_WEIGHT_2, ⟨_, rfl⟩⟩ }
  exact ⟨T.fd_law, fun s v => .of_eq rfl, fun base _ _ => ok_law T⟩
theorem walk {l : PySem.W.OpenLaw} {q : Program} {loose : List Str} {XP : (Str → Option Value) → Heap → Prop} {YP : World → Heap → Prop} {d : DefRec} {K : Params → PySem.W.Frag} (hn : l.most = some 63) (hdf : d.params.defaults = [])
    (hY : ∀ (w : World) (h : Heap), YP w h → (K w.params).In h)
    (F : ∀ (w : World) (mg : Str → Option Value) (fa : Addr) (h : Heap), (K w.params).In h → h.Ns mainGlobals mg → mg d.name = some (.ref fa) →
      ∃ fd : FuncData, (∀ (s : Shared) (u : Value), BindsTo s fd ⟨[u], []⟩ [("script", u)]) ∧ ∀ base : Heap, (K w.params).In base → base.Ns mainGlobals mg → FnG l.prog w (K w.params) mg base 6 fa fd ["script"] (spLaw (K w.params))) :
    PySem.W.WalkO q loose XP YP l.row.toRowW d [] (fun f vs => PySem.call f vs) :=
  walkG (k := 6) (x := "script") hn hdf ⟨rfl, by decide, by decide⟩ hY F
end Toy
open PySem PySem.W PyProof.Rows
set_option maxRecDepth 100000 in
set_option maxHeartbeats 0 in
theorem PySem.Challenge.cw_onepolicy_k72_services_and_their_faults_holds : PySem.Challenge.rw_onepolicy_k72_services_and_their_faults.Holds := by
  w_on; o_law; k_head; (case hw => w_witness2)
  k_fill
  refine Toy.walk (l := PySem.Challenge.rw_onepolicy_k72_services_and_their_faults) rfl rfl (fun w h Y => PySem.W.kIn_of Y) ?F
  case F =>
    intro w mg fa h KX G hmg
    refine' Toy.all_mk KX G hmg ?a0 ?l0 ?c0 ?k0 ?a1 ?l1 ?c1 ?k1 ?a2 ?l2 ?c2 ?k2 ?a3 ?l3 ?c3 ?k3 ?a4 ?l4 ?c4 ?k4 ?a5 ?l5 ?c5 ?k5 ?a6 ?l6 ?c6 ?k6 ?a7 ?l7 ?c7 ?k7 ?a8 ?l8 ?c8 ?k8 ?a9 ?l9 ?c9 ?k9 ?a10 ?l10 ?c10 ?k10 ?a11 ?l11 ?c11 ?k11 ?a12 ?l12 ?c12 ?k12 ?a13 ?l13 ?c13 ?k13 ?a14 ?l14 ?c14 ?k14 ?a15 ?l15 ?c15 ?k15 ?a16 ?l16 ?c16 ?k16 ?a17 ?l17 ?c17 ?k17 ?z_isinstance ?z_int ?z_bool ?z_all ?z_str ?z_len ?z_enumerate ?z_abs ?z_range ?z_tuple ?y_LETTERS ?y_MOST_SERVICES ?y_MOST_SERVERS ?y_MOST_HOLD ?q_HEALTHS ?ql_HEALTHS ?qz_HEALTHS ?qv_HEALTHS ?q_MOST_WEIGHT ?ql_MOST_WEIGHT ?qk_MOST_WEIGHT ?qe_MOST_WEIGHT_0 ?qe_MOST_WEIGHT_1 ?qe_MOST_WEIGHT_2
    (case a0 => k_is)
    (case l0 => k_is)
    (case c0 => k_is)
    (case k0 => k_is)
    (case a1 => k_is)
    (case l1 => k_is)
    (case c1 => k_is)
    (case k1 => k_is)
    (case a2 => k_is)
    (case l2 => k_is)
    (case c2 => k_is)
    (case k2 => k_is)
    (case a3 => k_is)
    (case l3 => k_is)
    (case c3 => k_is)
    (case k3 => k_is)
    (case a4 => k_is)
    (case l4 => k_is)
    (case c4 => k_is)
    (case k4 => k_is)
    (case a5 => k_is)
    (case l5 => k_is)
    (case c5 => k_is)
    (case k5 => k_is)
    (case a6 => k_is)
    (case l6 => k_is)
    (case c6 => k_is)
    (case k6 => k_is)
    (case a7 => k_is)
    (case l7 => k_is)
    (case c7 => k_is)
    (case k7 => k_is)
    (case a8 => k_is)
    (case l8 => k_is)
    (case c8 => k_is)
    (case k8 => k_is)
    (case a9 => k_is)
    (case l9 => k_is)
    (case c9 => k_is)
    (case k9 => k_is)
    (case a10 => k_is)
    (case l10 => k_is)
    (case c10 => k_is)
    (case k10 => k_is)
    (case a11 => k_is)
    (case l11 => k_is)
    (case c11 => k_is)
    (case k11 => k_is)
    (case a12 => k_is)
    (case l12 => k_is)
    (case c12 => k_is)
    (case k12 => k_is)
    (case a13 => k_is)
    (case l13 => k_is)
    (case c13 => k_is)
    (case k13 => k_is)
    (case a14 => k_is)
    (case l14 => k_is)
    (case c14 => k_is)
    (case k14 => k_is)
    (case a15 => k_is)
    (case l15 => k_is)
    (case c15 => k_is)
    (case k15 => k_is)
    (case a16 => k_is)
    (case l16 => k_is)
    (case c16 => k_is)
    (case k16 => k_is)
    (case a17 => k_is)
    (case l17 => k_is)
    (case c17 => k_is)
    (case k17 => k_is)
    (case z_isinstance => k_is)
    (case z_int => k_is)
    (case z_bool => k_is)
    (case z_all => k_is)
    (case z_str => k_is)
    (case z_len => k_is)
    (case z_enumerate => k_is)
    (case z_abs => k_is)
    (case z_range => k_is)
    (case z_tuple => k_is)
    (case y_LETTERS => k_is)
    (case y_MOST_SERVICES => k_is)
    (case y_MOST_SERVERS => k_is)
    (case y_MOST_HOLD => k_is)
    (case q_HEALTHS => k_is)
    (case ql_HEALTHS => k_is)
    (case qz_HEALTHS => decide +kernel)
    (case qv_HEALTHS => repeat (first | exact .nil | refine .cons ⟨_, rfl⟩ ?_ | refine .cons rfl ?_))
    (case q_MOST_WEIGHT => k_is)
    (case ql_MOST_WEIGHT => k_is)
    (case qk_MOST_WEIGHT => k_keys)
    (case qe_MOST_WEIGHT_0 => k_is)
    (case qe_MOST_WEIGHT_1 => k_is)
    (case qe_MOST_WEIGHT_2 => k_is)
