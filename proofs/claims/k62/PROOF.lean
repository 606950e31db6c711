import PyProof.Rows.All
import Wide.All
import OpenK.AllK
import Wide.FinOn
import HandS.Base
import HandS.Call
import HandS.List
import HandS.Comp
import HandS.Ends
import HandS.Words
import HandS.WordsList
import HandS.IsInst
import HandS.TupAny
import HandS.TupLe
import HandS.Zip
import HandS.Text
import HandS.Iter
import HandS.Wide
import KE.GoesMore
import HandS.More
import HandS.Dict
import HandS.DictComp
import HandS.WordsDict
import HandS.TupMul
import HandS.Set
import HandS.SetFor
import HandS.Strs
import HandS.Sort
import HandS.FStr
import HandS.Flow
import HandS.Deep
import HandS.Style
import KE.KxIndex
import PySem.Challenge.RW_onepolicy_k62_leaves_field_by_field
set_option Elab.async false
set_option linter.all false
set_option maxRecDepth 100000
set_option maxHeartbeats 4000000
namespace Toy
open PySem PySem.Spec PyProof.Rows L2
/-! The data layer: readings of the hand layer over plain data. -/
abbrev D := PyData
/-- the state of the law's own draws stands at p, its numbers at c -/
def LS (H : Hp) (p c : Addr) : Prop := ∃ (k : Int) (ns : List Int), H p = some (.lst [.int k, .ref c]) ∧ H c = some (.lst (ns.map V.int)) ∧ ns ≠ []
def KTup (K : PySem.W.Frag) (a : Addr) (xs : List V) : Prop := ∃ (o : Obj) (its : Array Value) (n : Nat), K.lookup a = some o ∧ o.cls = .type "tuple" ∧ o.data = .seq its n ∧ its.size ≤ sizeLine ∧ Vals xs its.toList
/-- a tuple at a, not among A -/
def TupAt (K : PySem.W.Frag) (H : Hp) (A : Addr → Prop) (a : Addr) (xs : List V) : Prop := (Rd H a (.tup xs) ∧ ¬ A a) ∨ KTup K a xs
theorem TupAt.sq {K : PySem.W.Frag} {H : Hp} {A : Addr → Prop} {a : Addr} {xs : List V} (h : TupAt K H A a xs) : SqT K H a xs := h.elim (fun z => .inl z.1) .inr
inductive KeyD : D → Key → Prop
  | int (i : Int) : KeyD (.int i) (.inl i)
  | str (s : Str) : KeyD (.str s) (.inr s)
mutual
inductive Rep (K : PySem.W.Frag) (H : Hp) (A : Addr → Prop) : D → V → Prop
  | non : Rep K H A .none .non
  | bl (b : Bool) : Rep K H A (.bool b) (.bl b)
  | int (i : Int) : Rep K H A (.int i) (.int i)
  | str (x : Str) : Rep K H A (.str x) (.str x)
  | lst {a : Addr} {xs : List V} {ds : List D} : H a = some (.lst xs) → ¬ A a → RepL K H A ds xs → Rep K H A (.list ds) (.ref a)
  | tup {a : Addr} {xs : List V} {ds : List D} : TupAt K H A a xs → RepL K H A ds xs → Rep K H A (.tuple ds) (.ref a)
  | dct {a : Addr} {us : List (Key × V)} {kvs : List (D × D)} : H a = some (.dK us) → ¬ A a → RepK K H A kvs us → Rep K H A (.dict kvs) (.ref a)
inductive RepL (K : PySem.W.Frag) (H : Hp) (A : Addr → Prop) : List D → List V → Prop
  | nil : RepL K H A [] []
  | cons {d : D} {v : V} {ds : List D} {vs : List V} : Rep K H A d v → RepL K H A ds vs → RepL K H A (d :: ds) (v :: vs)
inductive RepK (K : PySem.W.Frag) (H : Hp) (A : Addr → Prop) : List (D × D) → List (Key × V) → Prop
  | nil : RepK K H A [] []
  | cons {k d : D} {q : Key} {v : V} {ds : List (D × D)} {us : List (Key × V)} : KeyD k q → Rep K H A d v → RepK K H A ds us → RepK K H A ((k, d) :: ds) ((q, v) :: us)
end
section
variable {K : PySem.W.Frag} {H H' : Hp} {A A' : Addr → Prop}
/-- from one heap to a later one, from one set of shut places to another one -/
structure To (H H' : Hp) (A A' : Addr → Prop) : Prop where
  h : ∀ b o, H b = some o → ¬ A b → H' b = some o ∧ ¬ A' b
mutual
theorem Rep.to (t : To H H' A A') : ∀ {d : D} {v : V}, Rep K H A d v → Rep K H' A' d v
  | .none, _, .non => .non
  | .bool _, _, .bl b => .bl b
  | .int _, _, .int i => .int i
  | .str _, _, .str x => .str x
  | .list _, _, .lst h n r => .lst (t.h _ _ h n).1 (t.h _ _ h n).2 (RepL.to t r)
  | .tuple _, _, .tup (.inl ⟨.inl h, n⟩) r => .tup (.inl ⟨.inl (t.h _ _ h n).1, (t.h _ _ h n).2⟩) (RepL.to t r)
  | .tuple _, _, .tup (.inl ⟨.inr ⟨o, h⟩, n⟩) r => .tup (.inl ⟨.inr ⟨o, (t.h _ _ h n).1⟩, (t.h _ _ h n).2⟩) (RepL.to t r)
  | .tuple _, _, .tup (.inr h) r => .tup (.inr h) (RepL.to t r)
  | .dict _, _, .dct h n r => .dct (t.h _ _ h n).1 (t.h _ _ h n).2 (RepK.to t r)
theorem RepL.to (t : To H H' A A') : ∀ {ds : List D} {vs : List V}, RepL K H A ds vs → RepL K H' A' ds vs
  | [], _, .nil => .nil
  | _ :: _, _, .cons h r => .cons (Rep.to t h) (RepL.to t r)
theorem RepK.to (t : To H H' A A') : ∀ {ds : List (D × D)} {vs : List (Key × V)}, RepK K H A ds vs → RepK K H' A' ds vs
  | [], _, .nil => .nil
  | (_, _) :: _, _, .cons k h r => .cons k (Rep.to t h) (RepK.to t r)
end
theorem RepL.len : ∀ {ds : List D} {vs : List V}, RepL K H A ds vs → ds.length = vs.length
  | _, _, .nil => rfl
  | _, _, .cons _ r => congrArg (· + 1) r.len
theorem RepL.get : ∀ {ds : List D} {vs : List V}, RepL K H A ds vs → ∀ {i : Nat} {d : D}, ds[i]? = some d → ∃ v, vs[i]? = some v ∧ Rep K H A d v
  | _, _, .nil, i, d, h => by simp at h
  | _, _, .cons h r, 0, d, e => by
    rw [List.getElem?_cons_zero] at e
    cases e
    exact ⟨_, rfl, h⟩
  | _, _, .cons h r, i + 1, d, e => by
    rw [List.getElem?_cons_succ] at e
    exact r.get e
theorem RepL.app : ∀ {ds es : List D} {vs ws : List V}, RepL K H A ds vs → RepL K H A es ws → RepL K H A (ds ++ es) (vs ++ ws)
  | _, _, _, _, .nil, h => h
  | _, _, _, _, .cons h r, g => .cons h (r.app g)
theorem RepL.take : ∀ {ds : List D} {vs : List V} (n : Nat), RepL K H A ds vs → RepL K H A (ds.take n) (vs.take n)
  | _, _, 0, _ => by simpa using RepL.nil
  | _, _, n + 1, .nil => by simpa using RepL.nil
  | _, _, n + 1, .cons h r => .cons h (r.take n)
theorem RepL.drop : ∀ {ds : List D} {vs : List V} (n : Nat), RepL K H A ds vs → RepL K H A (ds.drop n) (vs.drop n)
  | _, _, 0, h => h
  | _, _, n + 1, .nil => .nil
  | _, _, n + 1, .cons h r => r.drop n
theorem RepL.set : ∀ {ds : List D} {vs : List V} (n : Nat) {d : D} {v : V}, RepL K H A ds vs → Rep K H A d v → RepL K H A (ds.set n d) (vs.set n v)
  | _, _, _, _, _, .nil, _ => .nil
  | _, _, 0, _, _, .cons h r, g => .cons g r
  | _, _, n + 1, _, _, .cons h r, g => .cons h (r.set n g)
theorem RepL.snoc {ds : List D} {vs : List V} {d : D} {v : V} (h : RepL K H A ds vs) (g : Rep K H A d v) : RepL K H A (ds ++ [d]) (vs ++ [v]) := h.app (.cons g .nil)
mutual
theorem Rep.dp : ∀ {d : D} {v : V}, Rep K H A d v → d.canLay0 = true → Dp K H v d
  | .none, _, .non, _ => .non
  | .bool _, _, .bl b, _ => .bl b
  | .int _, _, .int i, _ => .int i
  | .str _, _, .str x, _ => .str x
  | .list _, _, .lst h n r, c => .lst (SqL.of h) (RepL.dp r (by simpa [PyData.canLay0] using c))
  | .tuple _, _, .tup h r, c => .tup h.sq (RepL.dp r (by simpa [PyData.canLay0] using c))
  | .dict _, _, .dct _ _ _, c => by simp [PyData.canLay0] at c
theorem RepL.dp : ∀ {ds : List D} {vs : List V}, RepL K H A ds vs → PyData.canLayAll0 ds = true → DpAll K H vs ds
  | [], _, .nil, _ => .nil
  | _ :: _, _, .cons h r, c => by
    simp only [PyData.canLayAll0, Bool.and_eq_true] at c
    exact .cons (Rep.dp h c.1) (RepL.dp r c.2)
end
end
/-! ### what stands in the slots -/
inductive En
  | d (x : D)
  | own (ds : List D)
  | odk (kvs : List (D × D))
  | st
abbrev Ev := List (Option En)
def exs : Option (Addr × Addr) → List Addr
  | none => []
  | some q => [q.1, q.2]
def Keep (ex : List Addr) (H H' : Hp) : Prop := ∀ b o, H b = some o → b ∉ ex → H' b = some o
def LSo (st : Option (Addr × Addr)) (H : Hp) : Prop := ∀ q, st = some q → LS H q.1 q.2
structure Stp (st : Option (Addr × Addr)) (H H' : Hp) : Prop where
  k : Keep (exs st) H H'
  l : LSo st H'
def Mo (A : Addr → Prop) (ow : Nat → Option Addr) (a : Addr) : Prop := A a ∨ ∃ i, ow i = some a
def SR (K : PySem.W.Frag) (A : Addr → Prop) (st : Option (Addr × Addr)) (ow : Nat → Option Addr) (H : Hp) (i : Nat) : En → V → Prop
  | .d x, v => Rep K H (Mo A ow) x v
  | .own ds, v => ∃ a vs, ow i = some a ∧ v = .ref a ∧ H a = some (.lst vs) ∧ RepL K H (Mo A ow) ds vs
  | .odk kvs, v => ∃ a us, ow i = some a ∧ v = .ref a ∧ H a = some (.dK us) ∧ RepK K H (Mo A ow) kvs us
  | .st, v => ∃ q, st = some q ∧ v = .ref q.1
structure RE (K : PySem.W.Frag) (A : Addr → Prop) (st : Option (Addr × Addr)) (ow : Nat → Option Addr) (σ : L2.St) (H : Hp) (env : Ev) : Prop where
  ls : LSo st H
  dom : ∀ a, A a → H a ≠ none
  sta : ∀ q, st = some q → A q.1 ∧ A q.2
  al : ∀ i a, ow i = some a → H a ≠ none
  na : ∀ i a, ow i = some a → ¬ A a
  inj : ∀ i j a, ow i = some a → ow j = some a → i = j
  tie : ∀ i a, ow i = some a → (∃ ds, env[i]? = some (some (.own ds))) ∨ ∃ ds, env[i]? = some (some (.odk ds))
  len : σ.length = env.length
  sl : ∀ i e, env[i]? = some (some e) → ∃ v, σ[i]? = some (some v) ∧ SR K A st ow H i e v
theorem Keep.refl (ex : List Addr) (H : Hp) : Keep ex H H := fun _ _ h _ => h
theorem Keep.trans {ex : List Addr} {H H1 H2 : Hp} (a : Keep ex H H1) (b : Keep ex H1 H2) : Keep ex H H2 := fun q o h n => b q o (a q o h n) n
theorem Stp.trans {st : Option (Addr × Addr)} {H H1 H2 : Hp} (a : Stp st H H1) (b : Stp st H1 H2) : Stp st H H2 := ⟨a.k.trans b.k, b.l⟩
theorem LS.same {H H' : Hp} {p c : Addr} (h : LS H p c) (s : Same H H') : LS H' p c := by
  obtain ⟨k, ns, h1, h2, h3⟩ := h
  exact ⟨k, ns, s _ _ h1, s _ _ h2, h3⟩
theorem LSo.same {st : Option (Addr × Addr)} {H H' : Hp} (h : LSo st H) (s : Same H H') : LSo st H' := fun q e => (h q e).same s
theorem Stp.same {st : Option (Addr × Addr)} {H H' : Hp} (h : LSo st H) (s : Same H H') : Stp st H H' := ⟨fun b o e _ => s b o e, h.same s⟩
theorem same_upd {H : Hp} {p : Addr} {o : HO} (h : H p = none) : Same H (upd H p o) := fun b x e => by
  rw [upd_ne (ne_of_none e h)]
  exact e
theorem exs_mem {st : Option (Addr × Addr)} {a : Addr} (h : a ∈ exs st) : ∃ q, st = some q ∧ (a = q.1 ∨ a = q.2) := by
  cases st with
  | none => cases h
  | some q => exact ⟨q, rfl, by simpa [exs] using h⟩
section
variable {K : PySem.W.Frag} {A : Addr → Prop} {st : Option (Addr × Addr)} {ow : Nat → Option Addr} {σ : L2.St} {H H' : Hp} {env : Ev}
theorem RE.to_keep {ex : List Addr} (R : RE K A st ow σ H env) (hx : ∀ a ∈ ex, A a) (hk : Keep ex H H') : To H H' (Mo A ow) (Mo A ow) :=
  ⟨fun b o e n => ⟨hk b o e fun z => n (.inl (hx b z)), n⟩⟩
theorem RE.keep {ex : List Addr} (R : RE K A st ow σ H env) (hx : ∀ a ∈ ex, A a) (hk : Keep ex H H') (hl : LSo st H') (hd : ∀ a ∈ ex, H' a ≠ none) : RE K A st ow σ H' env := by
  have t := R.to_keep hx hk
  have ok : ∀ i a o, ow i = some a → H a = some o → H' a = some o := fun i a o e h => hk a o h fun z => R.na i a e (hx a z)
  have nn : ∀ {a : Addr}, H a ≠ none → (a ∉ ex) → H' a ≠ none := fun {a} h n => by
    cases e : H a with
    | none => exact absurd e h
    | some o => rw [hk a o e n]; intro z; cases z
  refine ⟨hl, fun a ha => ?_, R.sta, fun i a e => nn (R.al i a e) fun z => R.na i a e (hx a z), R.na, R.inj, R.tie, R.len, fun i e he => ?_⟩
  · by_cases h : a ∈ ex
    · exact hd a h
    · exact nn (R.dom a ha) h
  · obtain ⟨v, hv, r⟩ := R.sl i e he
    refine ⟨v, hv, ?_⟩
    cases e with
    | d x => exact Rep.to t r
    | own ds =>
      obtain ⟨a, vs, h1, h2, h3, h4⟩ := r
      exact ⟨a, vs, h1, h2, ok i a _ h1 h3, RepL.to t h4⟩
    | odk ds =>
      obtain ⟨a, vs, h1, h2, h3, h4⟩ := r
      exact ⟨a, vs, h1, h2, ok i a _ h1 h3, RepK.to t h4⟩
    | st => exact r
theorem RE.exA (R : RE K A st ow σ H env) : ∀ a ∈ exs st, A a := fun a h => by
  obtain ⟨q, e, z⟩ := exs_mem h
  rcases z with rfl | rfl
  · exact (R.sta q e).1
  · exact (R.sta q e).2
theorem LSo.ne {st : Option (Addr × Addr)} {H : Hp} (l : LSo st H) : ∀ a ∈ exs st, H a ≠ none := fun a h => by
  obtain ⟨q, e, z⟩ := exs_mem h
  obtain ⟨k, ns, h1, h2, _⟩ := l q e
  rcases z with rfl | rfl
  · rw [h1]; intro z; cases z
  · rw [h2]; intro z; cases z
theorem RE.step (R : RE K A st ow σ H env) (s : Stp st H H') : RE K A st ow σ H' env := R.keep R.exA s.k s.l s.l.ne
theorem RE.toS (R : RE K A st ow σ H env) (s : Stp st H H') : To H H' (Mo A ow) (Mo A ow) := R.to_keep R.exA s.k
theorem RE.alM (R : RE K A st ow σ H env) {a : Addr} (h : Mo A ow a) : H a ≠ none := h.elim (R.dom a) fun ⟨i, e⟩ => R.al i a e
end
/-- data that is read: what a slot owns may be read too -/
inductive RepB (K : PySem.W.Frag) (H : Hp) (A M : Addr → Prop) : D → V → Prop
  | r {d : D} {v : V} : Rep K H M d v → RepB K H A M d v
  | o {a : Addr} {xs : List V} {ds : List D} : H a = some (.lst xs) → ¬ A a → RepL K H M ds xs → RepB K H A M (.list ds) (.ref a)
  | k {a : Addr} {us : List (Key × V)} {kvs : List (D × D)} : H a = some (.dK us) → ¬ A a → RepK K H M kvs us → RepB K H A M (.dict kvs) (.ref a)
def eget : Ev → Nat → Option En
  | [], _ => none
  | e :: _, 0 => e
  | _ :: r, n + 1 => eget r n
theorem eget_some : ∀ {env : Ev} {i : Nat} {e : En}, eget env i = some e → env[i]? = some (some e)
  | [], _, _, h => by cases h
  | _ :: _, 0, _, h => by rw [List.getElem?_cons_zero]; exact congrArg some h
  | _ :: r, n + 1, _, h => by rw [List.getElem?_cons_succ]; exact eget_some h
theorem some_eget : ∀ {env : Ev} {i : Nat} {e : En}, env[i]? = some (some e) → eget env i = some e
  | [], _, _, h => by simp at h
  | _ :: _, 0, _, h => by rw [List.getElem?_cons_zero] at h; exact Option.some.inj h
  | _ :: r, n + 1, _, h => some_eget (env := r) (i := n) (by rw [List.getElem?_cons_succ] at h; exact h)
def isOwn (env : Ev) (i : Nat) : Bool := match eget env i with | some (.own _) => true | some (.odk _) => true | _ => false
def noOwn (vs : List Nat) (env : Ev) : Bool := vs.all fun i => !isOwn env i
structure RfE (K : PySem.W.Frag) (t : TE) (de : Ev → (D → Prop) → Prop) : Prop where
  run : ∀ {A : Addr → Prop} {st : Option (Addr × Addr)} {ow : Nat → Option Addr} {σ : L2.St} {H : Hp} {env : Ev} {Qd : D → Prop} {Q : VK},
  RE K A st ow σ H env → de env Qd → (∀ d v H', Qd d → Stp st H H' → Rep K H' (Mo A ow) d v → Q v H') → t σ H Q
structure RfB (K : PySem.W.Frag) (t : TE) (de : Ev → (D → Prop) → Prop) : Prop where
  run : ∀ {A : Addr → Prop} {st : Option (Addr × Addr)} {ow : Nat → Option Addr} {σ : L2.St} {H : Hp} {env : Ev} {Qd : D → Prop} {Q : VK},
  RE K A st ow σ H env → de env Qd → (∀ d v H', Qd d → Stp st H H' → RepB K H' A (Mo A ow) d v → Q v H') → t σ H Q
structure RfT (K : PySem.W.Frag) (t : TT) (dt : Ev → (Bool → Prop) → Prop) : Prop where
  run : ∀ {A : Addr → Prop} {st : Option (Addr × Addr)} {ow : Nat → Option Addr} {σ : L2.St} {H : Hp} {env : Ev} {Qd : Bool → Prop} {Q : Bool → Hp → Prop},
  RE K A st ow σ H env → dt env Qd → (∀ b H', Qd b → Stp st H H' → Q b H') → t σ H Q
structure RfA (K : PySem.W.Frag) (t : TA) (da : Ev → (List D → Prop) → Prop) : Prop where
  run : ∀ {A : Addr → Prop} {st : Option (Addr × Addr)} {ow : Nat → Option Addr} {σ : L2.St} {H : Hp} {env : Ev} {Qd : List D → Prop} {Q : List V → Hp → Prop},
  RE K A st ow σ H env → da env Qd → (∀ ds vs H', Qd ds → Stp st H H' → RepL K H' (Mo A ow) ds vs → Q vs H') → t σ H Q
/-- arguments that are read alone -/
inductive RepBL (K : PySem.W.Frag) (H : Hp) (A M : Addr → Prop) : List D → List V → Prop
  | nil : RepBL K H A M [] []
  | cons {d : D} {v : V} {ds : List D} {vs : List V} : RepB K H A M d v → RepBL K H A M ds vs → RepBL K H A M (d :: ds) (v :: vs)
structure RfAB (K : PySem.W.Frag) (t : TA) (da : Ev → (List D → Prop) → Prop) : Prop where
  run : ∀ {A : Addr → Prop} {st : Option (Addr × Addr)} {ow : Nat → Option Addr} {σ : L2.St} {H : Hp} {env : Ev} {Qd : List D → Prop} {Q : List V → Hp → Prop},
  RE K A st ow σ H env → da env Qd → (∀ ds vs H', Qd ds → Stp st H H' → RepBL K H' A (Mo A ow) ds vs → Q vs H') → t σ H Q
/-- an operator's reading by values -/
structure RfV2 (K : PySem.W.Frag) (r : R2) (op : D → D → (D → Prop) → Prop) : Prop where
  run : ∀ {A : Addr → Prop} {st : Option (Addr × Addr)} {ow : Nat → Option Addr} {σ : L2.St} {H : Hp} {env : Ev} {a b : D} {x y : V} {Qd : D → Prop} {Q : VK},
  RE K A st ow σ H env → RepB K H A (Mo A ow) a x → RepB K H A (Mo A ow) b y → op a b Qd → (∀ d v H', Qd d → Stp st H H' → Rep K H' (Mo A ow) d v → Q v H') → r x y H Q
structure RfVL (K : PySem.W.Frag) (r : List V → Hp → VK → Prop) (op : List D → (D → Prop) → Prop) : Prop where
  run : ∀ {A : Addr → Prop} {st : Option (Addr × Addr)} {ow : Nat → Option Addr} {σ : L2.St} {H : Hp} {env : Ev} {ds : List D} {vs : List V} {Qd : D → Prop} {Q : VK},
  RE K A st ow σ H env → RepBL K H A (Mo A ow) ds vs → op ds Qd → (∀ d v H', Qd d → Stp st H H' → Rep K H' (Mo A ow) d v → Q v H') → r vs H Q
section
variable {K : PySem.W.Frag}
theorem RepB.to {H H' : Hp} {A M : Addr → Prop} (t : To H H' M M) (hA : ∀ a o, H a = some o → ¬ A a → H' a = some o) {d : D} {v : V} (h : RepB K H A M d v) : RepB K H' A M d v := by
  cases h with
  | r h => exact .r (Rep.to t h)
  | o h n r => exact .o (hA _ _ h n) n (RepL.to t r)
  | k h n r => exact .k (hA _ _ h n) n (RepK.to t r)
theorem RE.stepB {A : Addr → Prop} {st : Option (Addr × Addr)} {ow : Nat → Option Addr} {σ : L2.St} {H H' : Hp} {env : Ev} (R : RE K A st ow σ H env) (s : Stp st H H') {d : D} {v : V} (h : RepB K H A (Mo A ow) d v) : RepB K H' A (Mo A ow) d v :=   h.to (R.toS s) fun a o e n => s.k a o e fun z => n (R.exA a z)
theorem RfE.b {t : TE} {de : Ev → (D → Prop) → Prop} (h : RfE K t de) : RfB K t de := ⟨fun R q k => h.run R q fun d v H' x s r => k d v H' x s (.r r)⟩
def dN (i : Nat) : Ev → (D → Prop) → Prop := fun env Q => match eget env i with | some (.d x) => Q x | _ => False
def dNB (i : Nat) : Ev → (D → Prop) → Prop := fun env Q => match eget env i with | some (.d x) => Q x | some (.own ds) => Q (.list ds) | some (.odk ds) => Q (.dict ds) | _ => False
theorem stp_refl {A : Addr → Prop} {st : Option (Addr × Addr)} {ow : Nat → Option Addr} {σ : L2.St} {H : Hp} {env : Ev} (R : RE K A st ow σ H env) : Stp st H H := ⟨Keep.refl _ _, R.ls⟩
theorem rn (i : Nat) : RfE K (tVar i) (dN i) := ⟨fun {A st ow σ H env Qd Q} R q k => by
  unfold dN at q
  split at q
  · rename_i x e
    obtain ⟨v, hv, r⟩ := R.sl i _ (eget_some e)
    exact ⟨v, hv, k x v H q (stp_refl R) r⟩
  · exact q.elim⟩
theorem rnb (i : Nat) : RfB K (tVar i) (dNB i) := ⟨fun {A st ow σ H env Qd Q} R q k => by
  unfold dNB at q
  split at q
  · rename_i x e
    obtain ⟨v, hv, r⟩ := R.sl i _ (eget_some e)
    exact ⟨v, hv, k x v H q (stp_refl R) (.r r)⟩
  · rename_i x e
    obtain ⟨v, hv, a, vs, h1, rfl, h3, h4⟩ := R.sl i _ (eget_some e)
    exact ⟨_, hv, k _ _ H q (stp_refl R) (.o h3 (R.na _ _ h1) h4)⟩
  · rename_i x e
    obtain ⟨v, hv, a, vs, h1, rfl, h3, h4⟩ := R.sl i _ (eget_some e)
    exact ⟨_, hv, k _ _ H q (stp_refl R) (.k h3 (R.na _ _ h1) h4)⟩
  · exact q.elim⟩
def dC (x : D) : Ev → (D → Prop) → Prop := fun _ Q => Q x
theorem rc_int (i : Int) : RfE K (tC (.int i)) (dC (.int i)) := ⟨fun R q k => k _ _ _ q (stp_refl R) (.int i)⟩
theorem rc_bl (i : Bool) : RfE K (tC (.bl i)) (dC (.bool i)) := ⟨fun R q k => k _ _ _ q (stp_refl R) (.bl i)⟩
theorem rc_str (i : Str) : RfE K (tC (.str i)) (dC (.str i)) := ⟨fun R q k => k _ _ _ q (stp_refl R) (.str i)⟩
theorem rc_non : RfE K (tC .non) (dC .none) := ⟨fun R q k => k _ _ _ q (stp_refl R) .non⟩
/-- a constant of the top: a tuple of scalars -/
inductive Sc : D → V → Prop
  | non : Sc .none .non
  | bl (b : Bool) : Sc (.bool b) (.bl b)
  | int (i : Int) : Sc (.int i) (.int i)
  | str (s : Str) : Sc (.str s) (.str s)
theorem Sc.rep {d : D} {v : V} {H : Hp} {A : Addr → Prop} (h : Sc d v) : Rep K H A d v := by
  cases h with
  | non => exact .non
  | bl b => exact .bl b
  | int b => exact .int b
  | str b => exact .str b
theorem sc_all {ds : List D} {vs : List V} {H : Hp} {A : Addr → Prop} (h : Paired Sc ds vs) : RepL K H A ds vs := by
  induction h with
  | nil => exact .nil
  | cons h _ ih => exact .cons h.rep ih
theorem rc_tup {a : Addr} {ds : List D} {vs : List V} (h : KTup K a vs) (hs : Paired Sc ds vs) : RfE K (tC (.ref a)) (dC (.tuple ds)) := ⟨fun R q k => k _ _ _ q (stp_refl R) (.tup (.inr h) (sc_all hs))⟩
def dOp (op : D → D → (D → Prop) → Prop) (da db : Ev → (D → Prop) → Prop) : Ev → (D → Prop) → Prop := fun env Q => da env fun x => db env fun y => op x y Q
theorem ro {r : R2} {op : D → D → (D → Prop) → Prop} {ta tb : TE} {da db : Ev → (D → Prop) → Prop} (ho : RfV2 K r op) (ha : RfB K ta da) (hb : RfB K tb db) : RfE K (tOp r ta tb) (dOp op da db) := ⟨fun R q k =>
  ha.run R q fun _ _ _ q1 s1 r1 => hb.run (R.step s1) q1 fun _ _ _ q2 s2 r2 => ho.run ((R.step s1).step s2) ((R.step s1).stepB s2 r1) r2 q2 fun d v H3 q3 s3 r3 => k d v H3 q3 (s1.trans (s2.trans s3)) r3⟩
/-! operators by values -/
def oI (C : Int → Int → Prop) (g : Int → Int → D) : D → D → (D → Prop) → Prop := fun x y Q => match x, y with
  | .int i, .int j => C i j ∧ Q (g i j)
  | _, _ => False
def oI0 (g : Int → Int → D) : D → D → (D → Prop) → Prop := fun x y Q => match x, y with
  | .int i, .int j => Q (g i j)
  | _, _ => False
theorem rv_I {C : Int → Int → Prop} {gv : Int → Int → V} {gd : Int → Int → D} (h : ∀ i j, Sc (gd i j) (gv i j)) : RfV2 K (rI C gv) (oI C gd) := ⟨fun R h1 h2 q k => by
  unfold oI at q
  split at q
  · cases h1 with | r h1 =>
    cases h2 with | r h2 =>
    cases h1; cases h2
    exact ⟨_, _, rfl, rfl, q.1, k _ _ _ q.2 (stp_refl R) (h _ _).rep⟩
  · exact q.elim⟩
theorem rv_I0 {gv : Int → Int → V} {gd : Int → Int → D} (h : ∀ i j, Sc (gd i j) (gv i j)) : RfV2 K (rI0 gv) (oI0 gd) := ⟨fun R h1 h2 q k => by
  unfold oI0 at q
  split at q
  · cases h1 with | r h1 =>
    cases h2 with | r h2 =>
    cases h1; cases h2
    exact ⟨_, _, rfl, rfl, k _ _ _ q (stp_refl R) (h _ _).rep⟩
  · exact q.elim⟩
theorem rv_add : RfV2 K (rI0 fun i j => .int (i + j)) (oI0 fun i j => .int (i + j)) := rv_I0 fun _ _ => .int _
theorem rv_sub : RfV2 K (rI0 fun i j => .int (i - j)) (oI0 fun i j => .int (i - j)) := rv_I0 fun _ _ => .int _
theorem rv_mul : RfV2 K (rI CMul fun i j => .int (i * j)) (oI CMul fun i j => .int (i * j)) := rv_I fun _ _ => .int _
theorem rv_mod : RfV2 K (rI (fun _ j => 0 < j) fun i j => .int (i % j)) (oI (fun _ j => 0 < j) fun i j => .int (i % j)) := rv_I fun _ _ => .int _
theorem rv_fdiv : RfV2 K (rI CDiv fun i j => .int (i / j)) (oI CDiv fun i j => .int (i / j)) := rv_I fun _ _ => .int _
theorem rv_pow : RfV2 K (rI CPow fun i j => .int (i ^ j.toNat)) (oI CPow fun i j => .int (i ^ j.toNat)) := rv_I fun _ _ => .int _
theorem rv_shl : RfV2 K (rI CPow fun i j => .int (i * 2 ^ j.toNat)) (oI CPow fun i j => .int (i * 2 ^ j.toNat)) := rv_I fun _ _ => .int _
theorem rv_shr : RfV2 K (rI (fun _ j => 0 ≤ j) fun i j => .int (i / 2 ^ j.toNat)) (oI (fun _ j => 0 ≤ j) fun i j => .int (i / 2 ^ j.toNat)) := rv_I fun _ _ => .int _
theorem rv_and : RfV2 K (rI0 fun i j => .int (Builtin.bitAnd i j)) (oI0 fun i j => .int (Builtin.bitAnd i j)) := rv_I0 fun _ _ => .int _
theorem rv_or : RfV2 K (rI0 fun i j => .int (Builtin.bitOr i j)) (oI0 fun i j => .int (Builtin.bitOr i j)) := rv_I0 fun _ _ => .int _
theorem rv_xor : RfV2 K (rI0 fun i j => .int (Builtin.bitXor i j)) (oI0 fun i j => .int (Builtin.bitXor i j)) := rv_I0 fun _ _ => .int _
theorem rv_lt : RfV2 K (rI0 fun i j => .bl (decide (i < j))) (oI0 fun i j => .bool (decide (i < j))) := rv_I0 fun _ _ => .bl _
theorem rv_le : RfV2 K (rI0 fun i j => .bl (decide (i ≤ j))) (oI0 fun i j => .bool (decide (i ≤ j))) := rv_I0 fun _ _ => .bl _
theorem rv_gt : RfV2 K (rI0 fun i j => .bl (decide (j < i))) (oI0 fun i j => .bool (decide (j < i))) := rv_I0 fun _ _ => .bl _
theorem rv_ge : RfV2 K (rI0 fun i j => .bl (decide (j ≤ i))) (oI0 fun i j => .bool (decide (j ≤ i))) := rv_I0 fun _ _ => .bl _
def okD (d : D) : Bool := SeqAt.shaped d
theorem okD_lay {d : D} (h : okD d = true) : d.canLay0 = true := by
  unfold okD SeqAt.shaped at h
  rw [Bool.and_eq_true] at h
  exact h.1
theorem RepB.dp {H : Hp} {A M : Addr → Prop} {d : D} {v : V} (h : RepB K H A M d v) (c : d.canLay0 = true) : Dp K H v d := by
  cases h with
  | r h => exact Rep.dp h c
  | o h n r => exact .lst (SqL.of h) (RepL.dp r (by simpa [PyData.canLay0] using c))
  | k h n r => simp [PyData.canLay0] at c
def oEq (neg : Bool) : D → D → (D → Prop) → Prop := fun x y Q => okD x = true ∧ okD y = true ∧ Q (.bool (if neg then !PyData.eqv x y else PyData.eqv x y))
theorem rv_eqD : RfV2 K (rEqD K) (oEq false) := ⟨fun R h1 h2 q k => ⟨_, _, h1.dp (okD_lay q.1), h2.dp (okD_lay q.2.1), q.1, q.2.1, k _ _ _ q.2.2 (stp_refl R) (.bl _)⟩⟩
theorem rv_neD : RfV2 K (rNeD K) (oEq true) := ⟨fun R h1 h2 q k => ⟨_, _, h1.dp (okD_lay q.1), h2.dp (okD_lay q.2.1), q.1, q.2.1, k _ _ _ q.2.2 (stp_refl R) (.bl _)⟩⟩
/-- == of scalars -/
def eqS : D → D → Option Bool
  | .none, .none => some true
  | .none, .int _ => some false | .int _, .none => some false | .none, .bool _ => some false | .bool _, .none => some false | .none, .str _ => some false | .str _, .none => some false
  | .int i, .int j => some (decide (i = j)) | .bool a, .bool b => some (decide (a = b)) | .str a, .str b => some (decide (a = b))
  | .int _, .str _ => some false | .str _, .int _ => some false | .bool _, .str _ => some false | .str _, .bool _ => some false
  | _, _ => none
def oEqS (neg : Bool) : D → D → (D → Prop) → Prop := fun x y Q => match eqS x y with
  | some b => Q (.bool (if neg then !b else b))
  | none => False
theorem eqS_V {H : Hp} {A M : Addr → Prop} {a b : D} {x y : V} {c : Bool} (h : eqS a b = some c) (h1 : RepB K H A M a x) (h2 : RepB K H A M b y) : scal x y = true ∧ decide (x = y) = c := by
  cases h1 with
  | r h1 =>
    cases h2 with
    | r h2 => cases h1 <;> cases h2 <;> simp_all [eqS, scal]
    | o h n r => cases h1 <;> simp_all [eqS]
    | k h n r => cases h1 <;> simp_all [eqS]
  | o h n r => cases b <;> simp_all [eqS]
  | k h n r => cases b <;> simp_all [eqS]
theorem rv_eq : RfV2 K rEq (oEqS false) := ⟨fun R h1 h2 q k => by
  unfold oEqS at q
  split at q
  · rename_i b e
    obtain ⟨e1, e2⟩ := eqS_V e h1 h2
    exact ⟨e1, by rw [e2]; exact k _ _ _ q (stp_refl R) (.bl _)⟩
  · exact q.elim⟩
theorem rv_ne : RfV2 K rNe (oEqS true) := ⟨fun R h1 h2 q k => by
  unfold oEqS at q
  split at q
  · rename_i b e
    obtain ⟨e1, e2⟩ := eqS_V e h1 h2
    exact ⟨e1, by rw [e2]; exact k _ _ _ q (stp_refl R) (.bl _)⟩
  · exact q.elim⟩
def isNo : D → Bool | .none => true | _ => false
def oIsN (neg : Bool) : D → D → (D → Prop) → Prop := fun x y Q => match y with
  | .none => Q (.bool (if neg then !isNo x else isNo x))
  | _ => False
theorem isNo_V {H : Hp} {A M : Addr → Prop} {a : D} {x : V} (h1 : RepB K H A M a x) : decide (x = .non) = isNo a := by
  cases h1 with
  | r h1 => cases h1 <;> simp [isNo]
  | o h n r => simp [isNo]
  | k h n r => simp [isNo]
theorem rv_isN : RfV2 K (fun x y H Q => y = .non ∧ Q (.bl (decide (x = .non))) H) (oIsN false) := ⟨fun R h1 h2 q k => by
  unfold oIsN at q
  split at q
  · cases h2 with | r h2 =>
    cases h2
    exact ⟨rfl, by rw [isNo_V h1]; exact k _ _ _ q (stp_refl R) (.bl _)⟩
  · exact q.elim⟩
theorem rv_notN : RfV2 K (fun x y H Q => y = .non ∧ Q (.bl (!decide (x = .non))) H) (oIsN true) := ⟨fun R h1 h2 q k => by
  unfold oIsN at q
  split at q
  · cases h2 with | r h2 =>
    cases h2
    exact ⟨rfl, by rw [isNo_V h1]; exact k _ _ _ q (stp_refl R) (.bl _)⟩
  · exact q.elim⟩
def oB (g : Bool → Bool → Bool) : D → D → (D → Prop) → Prop := fun x y Q => match x, y with
  | .bool i, .bool j => Q (.bool (g i j))
  | _, _ => False
theorem rv_isB : RfV2 K (fun x y H Q => ∃ a b, x = .bl a ∧ y = .bl b ∧ Q (.bl (decide (a = b))) H) (oB fun a b => decide (a = b)) := ⟨fun R h1 h2 q k => by
  unfold oB at q
  split at q
  · cases h1 with | r h1 =>
    cases h2 with | r h2 =>
    cases h1; cases h2
    exact ⟨_, _, rfl, rfl, k _ _ _ q (stp_refl R) (.bl _)⟩
  · exact q.elim⟩
theorem rv_notB : RfV2 K (fun x y H Q => ∃ a b, x = .bl a ∧ y = .bl b ∧ Q (.bl (!decide (a = b))) H) (oB fun a b => !decide (a = b)) := ⟨fun R h1 h2 q k => by
  unfold oB at q
  split at q
  · cases h1 with | r h1 =>
    cases h2 with | r h2 =>
    cases h1; cases h2
    exact ⟨_, _, rfl, rfl, k _ _ _ q (stp_refl R) (.bl _)⟩
  · exact q.elim⟩
/-! sequences -/
def seqOf : D → Option (List D)
  | .list ds => some ds
  | .tuple ds => some ds
  | _ => none
theorem RepB.seq {H : Hp} {A M : Addr → Prop} {d : D} {v : V} {ds : List D} (h : RepB K H A M d v) (e : seqOf d = some ds) : ∃ a xs, v = .ref a ∧ (SqL K H a xs ∨ SqT K H a xs) ∧ RepL K H M ds xs := by
  cases h with
  | r h =>
    cases h with
    | lst h n r => cases e; exact ⟨_, _, rfl, .inl (SqL.of h), r⟩
    | tup h r => cases e; exact ⟨_, _, rfl, .inr h.sq, r⟩
    | _ => cases e
  | o h n r => cases e; exact ⟨_, _, rfl, .inl (SqL.of h), r⟩
  | k h n r => cases e
theorem RepB.lst {H : Hp} {A M : Addr → Prop} {v : V} {ds : List D} (h : RepB K H A M (.list ds) v) : ∃ a xs, v = .ref a ∧ H a = some (.lst xs) ∧ RepL K H M ds xs := by
  cases h with
  | r h => cases h with | lst h n r => exact ⟨_, _, rfl, h, r⟩
  | o h n r => exact ⟨_, _, rfl, h, r⟩
theorem RepB.tup {H : Hp} {A M : Addr → Prop} {v : V} {ds : List D} (h : RepB K H A M (.tuple ds) v) : ∃ a xs, v = .ref a ∧ TupAt K H M a xs ∧ RepL K H M ds xs := by
  cases h with
  | r h => cases h with | tup h r => exact ⟨_, _, rfl, h, r⟩
/-- ds[i] -/
def dix (ds : List D) (i : Int) : Option D := atI ds i
def oIx : D → D → (D → Prop) → Prop := fun x y Q => match seqOf x, y with
  | some ds, .int i => (match dix ds i with | some d => Q d | none => False)
  | _, _ => False
theorem dix_nn {xs : List D} {i : Int} {x : D} (h : 0 ≤ i) (e : xs[i.toNat]? = some x) : dix xs i = some x := by
  have hl := (List.getElem?_eq_some_iff.mp e).1
  unfold dix atI ixN
  rw [if_pos h, if_pos (by omega)]
  exact e
theorem dix_map {α : Type} {f : α → D} {as : List α} {i : Int} {a : α} (h : 0 ≤ i) (e : as[i.toNat]? = some a) : dix (as.map f) i = some (f a) := dix_nn h (by rw [List.getElem?_map, e]; rfl)
theorem dix_0 (a : D) (r : List D) : dix (a :: r) 0 = some a := dix_nn (by decide) rfl
theorem dix_1 (a b : D) (r : List D) : dix (a :: b :: r) 1 = some b := dix_nn (by decide) rfl
theorem dix_2 (a b c : D) (r : List D) : dix (a :: b :: c :: r) 2 = some c := dix_nn (by decide) rfl
theorem dix_3 (a b c d : D) (r : List D) : dix (a :: b :: c :: d :: r) 3 = some d := dix_nn (by decide) rfl
theorem dix_4 (a b c d e : D) (r : List D) : dix (a :: b :: c :: d :: e :: r) 4 = some e := dix_nn (by decide) rfl
theorem dix_5 (a b c d e f : D) (r : List D) : dix (a :: b :: c :: d :: e :: f :: r) 5 = some f := dix_nn (by decide) rfl
theorem dix_6 (a b c d e f g : D) (r : List D) : dix (a :: b :: c :: d :: e :: f :: g :: r) 6 = some g := dix_nn (by decide) rfl
theorem dix_7 (a b c d e f g h : D) (r : List D) : dix (a :: b :: c :: d :: e :: f :: g :: h :: r) 7 = some h := dix_nn (by decide) rfl
theorem dix_8 (a b c d e f g h i : D) (r : List D) : dix (a :: b :: c :: d :: e :: f :: g :: h :: i :: r) 8 = some i := dix_nn (by decide) rfl
theorem dix_9 (a b c d e f g h i j : D) (r : List D) : dix (a :: b :: c :: d :: e :: f :: g :: h :: i :: j :: r) 9 = some j := dix_nn (by decide) rfl
theorem atI_rep {H : Hp} {M : Addr → Prop} {ds : List D} {xs : List V} {i : Int} {d : D} (r : RepL K H M ds xs) (e : atI ds i = some d) : ∃ v, atI xs i = some v ∧ Rep K H M d v := by
  unfold atI at e ⊢
  rw [r.len] at e
  cases h : ixN xs.length i with
  | none => rw [h] at e; cases e
  | some j =>
    rw [h] at e
    exact r.get e
theorem rv_ix : RfV2 K (rIx K) oIx := ⟨fun {A st ow σ H env a b x y Qd Q} R h1 h2 q k => by
  unfold oIx at q
  split at q
  · rename_i ds i e
    split at q
    · rename_i d e1
      obtain ⟨p, xs, rfl, hs, r⟩ := h1.seq e
      obtain ⟨v, e2, rv⟩ := atI_rep r e1
      cases h2 with | r h2 =>
      cases h2
      rcases hs with h | h
      · exact .inl ⟨_, _, _, v, rfl, rfl, h, e2, k _ _ _ q (stp_refl R) rv⟩
      · exact .inr (.inl ⟨_, _, _, v, rfl, rfl, h, e2, k _ _ _ q (stp_refl R) rv⟩)
    · exact q.elim
  · exact q.elim⟩
def oIxS : D → D → (D → Prop) → Prop := fun x y Q => match x, y with
  | .str z, .int i => z.length ≤ sizeLine ∧ ∃ c, atI z.cps.toList i = some c ∧ Q (.str ⟨#[c]⟩)
  | _, _ => False
theorem rv_ixS : RfV2 K rIxS oIxS := ⟨fun R h1 h2 q k => by
  unfold oIxS at q
  split at q
  · cases h1 with | r h1 =>
    cases h2 with | r h2 =>
    cases h1; cases h2
    obtain ⟨q1, c, q2, q3⟩ := q
    exact ⟨_, _, c, rfl, rfl, q1, q2, k _ _ _ q3 (stp_refl R) (.str _)⟩
  · exact q.elim⟩
/-- a new place -/
theorem new_to {H : Hp} {p : Addr} {o : HO} {M M' : Addr → Prop} (n : H p = none) (hm : ∀ a, M' a → M a ∨ a = p) : To H (upd H p o) M M' :=   ⟨fun b x e z => ⟨same_upd n b x e, fun w => (hm b w).elim z fun y => by rw [y, n] at e; cases e⟩⟩
theorem to_same {H H' : Hp} {M : Addr → Prop} (s : Same H H') : To H H' M M := ⟨fun b x e z => ⟨s b x e, z⟩⟩
section
variable {A : Addr → Prop} {st : Option (Addr × Addr)} {ow : Nat → Option Addr} {σ : L2.St} {H : Hp} {env : Ev}
theorem RE.newM (R : RE K A st ow σ H env) {p : Addr} (n : H p = none) : ¬ Mo A ow p := fun z => R.alM z n
theorem RE.newA (R : RE K A st ow σ H env) {p : Addr} (n : H p = none) : ¬ A p := fun z => R.dom p z n
theorem RE.mkT (R : RE K A st ow σ H env) {p : Addr} {ds : List D} {xs : List V} (n : H p = none) (r : RepL K H (Mo A ow) ds xs) : Rep K (upd H p (.tup xs)) (Mo A ow) (.tuple ds) (.ref p) :=   .tup (.inl ⟨.inl upd_same, R.newM n⟩) (RepL.to (to_same (same_upd n)) r)
theorem RE.mkL (R : RE K A st ow σ H env) {p : Addr} {ds : List D} {xs : List V} (n : H p = none) (r : RepL K H (Mo A ow) ds xs) : Rep K (upd H p (.lst xs)) (Mo A ow) (.list ds) (.ref p) :=   .lst upd_same (R.newM n) (RepL.to (to_same (same_upd n)) r)
theorem RE.new (R : RE K A st ow σ H env) {p : Addr} {o : HO} (n : H p = none) : Stp st H (upd H p o) := .same R.ls (same_upd n)
end
def cutD {α : Type} (xs : List α) (lo hi : Option Int) : List α := (xs.drop (HT.sIx xs.length 0 lo)).take (HT.sIx xs.length xs.length hi - HT.sIx xs.length 0 lo)
theorem cut_rep {H : Hp} {M : Addr → Prop} {ds : List D} {xs : List V} {lo hi : Option Int} (r : RepL K H M ds xs) : RepL K H M (cutD ds lo hi) (cutV xs lo hi) := by
  unfold cutD cutV
  rw [r.len]
  exact (r.drop _).take _
def oCat : D → D → (D → Prop) → Prop := fun x y Q => match x, y with
  | .list a, .list b => a.length + b.length ≤ sizeLine ∧ Q (.list (a ++ b))
  | _, _ => False
theorem rv_cat : RfV2 K rCat oCat := ⟨fun R h1 h2 q k => by
  unfold oCat at q
  split at q
  · obtain ⟨a, xs, rfl, h3, r3⟩ := h1.lst
    obtain ⟨b, ys, rfl, h4, r4⟩ := h2.lst
    exact ⟨a, b, xs, ys, rfl, rfl, h3, h4, by rw [← r3.len, ← r4.len]; exact q.1, fun p n => k _ _ _ q.2 (R.new n) (R.mkL n (r3.app r4))⟩
  · exact q.elim⟩
def oCatT : D → D → (D → Prop) → Prop := fun x y Q => match x, y with
  | .tuple a, .tuple b => a.length + b.length ≤ sizeLine ∧ Q (.tuple (a ++ b))
  | _, _ => False
theorem RepL.nil_iff {H : Hp} {M : Addr → Prop} {ds : List D} {xs : List V} (r : RepL K H M ds xs) (h : xs = []) : ds = [] := by
  subst h
  cases r
  rfl
theorem rv_catT : RfV2 K (rCatA K) oCatT := ⟨fun R h1 h2 q k => by
  unfold oCatT at q
  split at q
  · obtain ⟨a, xs, rfl, h3, r3⟩ := h1.tup
    obtain ⟨b, ys, rfl, h4, r4⟩ := h2.tup
    refine ⟨a, b, xs, ys, rfl, rfl, h3.sq, h4.sq, by rw [← r3.len, ← r4.len]; exact q.1, fun e => ?_, fun _ e => ?_, fun _ _ p n => k _ _ _ q.2 (R.new n) (R.mkT n (r3.app r4))⟩
    · have e' := r3.nil_iff e
      subst e'
      exact k _ _ _ q.2 (stp_refl R) (.tup h4 r4)
    · have e' := r4.nil_iff e
      subst e'
      rw [List.append_nil] at q
      exact k _ _ _ q.2 (stp_refl R) (.tup h3 r3)
  · exact q.elim⟩
def oCatS : D → D → (D → Prop) → Prop := fun x y Q => match x, y with
  | .str a, .str b => a.length + b.length ≤ sizeLine ∧ Q (.str (a ++ b))
  | _, _ => False
theorem rv_catS : RfV2 K (fun x y H Q => ∃ i j, x = .str i ∧ y = .str j ∧ i.length + j.length ≤ sizeLine ∧ Q (.str (i ++ j)) H) oCatS := ⟨fun R h1 h2 q k => by
  unfold oCatS at q
  split at q
  · cases h1 with | r h1 =>
    cases h2 with | r h2 =>
    cases h1; cases h2
    exact ⟨_, _, rfl, rfl, q.1, k _ _ _ q.2 (stp_refl R) (.str _)⟩
  · exact q.elim⟩
/-! in -/
def flatD : D → Bool
  | .none => true | .bool _ => true | .int _ => true | .str _ => true | _ => false
def inD (x : D) (xs : List D) : Bool := xs.any fun y => PyData.eqv y x
theorem flat_V {H : Hp} {M : Addr → Prop} {d : D} {v : V} (h : Rep K H M d v) : flatV v = flatD d := by cases h <;> rfl
theorem flat_all {H : Hp} {M : Addr → Prop} : ∀ {ds : List D} {vs : List V}, RepL K H M ds vs → vs.all flatV = ds.all flatD
  | _, _, .nil => rfl
  | _, _, .cons h r => by rw [List.all_cons, List.all_cons, flat_V h, flat_all r]
theorem eqV_D {H : Hp} {M : Addr → Prop} {d e : D} {v u : V} (h : Rep K H M d v) (h2 : Rep K H M e u) (f : flatD d = true) (f2 : flatD e = true) : eqV v u = PyData.eqv d e := by
  cases h <;> cases h2 <;> first | rfl | (simp [flatD] at f) | (simp [flatD] at f2)
theorem inV_D {H : Hp} {M : Addr → Prop} {d : D} {v : V} (h : Rep K H M d v) (f : flatD d = true) : ∀ {ds : List D} {vs : List V}, RepL K H M ds vs → ds.all flatD = true → inV v vs = inD d ds
  | _, _, .nil, _ => rfl
  | _, _, .cons h1 r, g => by
    rw [List.all_cons, Bool.and_eq_true] at g
    have := inV_D h f r g.2
    unfold inV inD at this ⊢
    rw [List.any_cons, List.any_cons, this, eqV_D h1 h g.1 f]
def oIn (neg : Bool) : D → D → (D → Prop) → Prop := fun x y Q => match seqOf y with
  | some ds => flatD x = true ∧ ds.all flatD = true ∧ Q (.bool (if neg then !inD x ds else inD x ds))
  | none => False
theorem rv_in (neg : Bool) : RfV2 K (rIn K neg) (oIn neg) := ⟨fun {A st ow σ H env a b x y Qd Q} R h1 h2 q k => by
  unfold oIn at q
  split at q
  · rename_i ds e
    obtain ⟨p, xs, rfl, hs, r⟩ := h2.seq e
    obtain ⟨f1, f2, q⟩ := q
    cases h1 with
    | r h1 => exact ⟨p, xs, rfl, hs, by rw [flat_V h1]; exact f1, by rw [flat_all r]; exact f2, by rw [inV_D h1 f1 r f2]; exact k _ _ _ q (stp_refl R) (.bl _)⟩
    | o h n r => cases f1
    | k h n r => cases f1
  · exact q.elim⟩
def oInS (neg : Bool) : D → D → (D → Prop) → Prop := fun x y Q => match x, y with
  | .str u, .str z => ∃ c, u = ⟨#[c]⟩ ∧ Q (.bool (if neg then !decide (c ∈ z.cps.toList) else decide (c ∈ z.cps.toList)))
  | _, _ => False
theorem rv_inS : RfV2 K (fun x y H Q => ∃ (c : Nat) (z : Str), x = .str ⟨#[c]⟩ ∧ y = .str z ∧ Q (.bl (decide (c ∈ z.cps.toList))) H) (oInS false) := ⟨fun R h1 h2 q k => by
  unfold oInS at q
  split at q
  · cases h1 with | r h1 =>
    cases h2 with | r h2 =>
    cases h1; cases h2
    obtain ⟨c, rfl, q⟩ := q
    exact ⟨_, _, rfl, rfl, k _ _ _ q (stp_refl R) (.bl _)⟩
  · exact q.elim⟩
end
section
variable {K : PySem.W.Frag}
theorem To.refl (H : Hp) (M : Addr → Prop) : To H H M M := ⟨fun _ _ h n => ⟨h, n⟩⟩
theorem To.trans {H H1 H2 : Hp} {M M1 M2 : Addr → Prop} (a : To H H1 M M1) (b : To H1 H2 M1 M2) : To H H2 M M2 := ⟨fun p o h n => b.h p o (a.h p o h n).1 (a.h p o h n).2⟩
/-! tests -/
def dTb (de : Ev → (D → Prop) → Prop) : Ev → (Bool → Prop) → Prop := fun env Q => de env fun x => match x with | .bool b => Q b | _ => False
theorem rt_test {t : TE} {de : Ev → (D → Prop) → Prop} (h : RfE K t de) : RfT K (tTest t) (dTb de) := ⟨fun R q k => h.run R q fun d v H' q' s r => by
  split at q'
  · cases r
    exact ⟨_, rfl, k _ _ q' s⟩
  · exact q'.elim⟩
theorem rt_val {t : TE} {de : Ev → (D → Prop) → Prop} (h : RfE K t de) : RfT K (tB t) (dTb de) := ⟨fun R q k => h.run R q fun d v H' q' s r => by
  split at q'
  · cases r
    exact ⟨_, rfl, k _ _ q' s⟩
  · exact q'.elim⟩
def dAnd (a b : Ev → (Bool → Prop) → Prop) : Ev → (Bool → Prop) → Prop := fun env Q => a env fun c => if c = true then b env Q else Q false
def dOr (a b : Ev → (Bool → Prop) → Prop) : Ev → (Bool → Prop) → Prop := fun env Q => a env fun c => if c = true then Q true else b env Q
def dNot (a : Ev → (Bool → Prop) → Prop) : Ev → (Bool → Prop) → Prop := fun env Q => a env fun c => Q (!c)
theorem rt_and {t u : TT} {a b : Ev → (Bool → Prop) → Prop} (h1 : RfT K t a) (h2 : RfT K u b) : RfT K (tAnd t u) (dAnd a b) := ⟨fun R q k => h1.run R q fun c H1 q1 s1 => by
  cases c with
  | true =>
    rw [if_pos rfl] at q1 ⊢
    exact h2.run (R.step s1) q1 fun c H2 q2 s2 => k c H2 q2 (s1.trans s2)
  | false =>
    rw [if_neg Bool.false_ne_true] at q1 ⊢
    exact k _ _ q1 s1⟩
theorem rt_or {t u : TT} {a b : Ev → (Bool → Prop) → Prop} (h1 : RfT K t a) (h2 : RfT K u b) : RfT K (tOr t u) (dOr a b) := ⟨fun R q k => h1.run R q fun c H1 q1 s1 => by
  cases c with
  | false =>
    rw [if_neg Bool.false_ne_true] at q1 ⊢
    exact h2.run (R.step s1) q1 fun c H2 q2 s2 => k c H2 q2 (s1.trans s2)
  | true =>
    rw [if_pos rfl] at q1 ⊢
    exact k _ _ q1 s1⟩
theorem rt_not {t : TT} {a : Ev → (Bool → Prop) → Prop} (h : RfT K t a) : RfT K (tNot t) (dNot a) := ⟨fun R q k => h.run R q fun c H1 q1 s1 => k _ _ q1 s1⟩
def dYes : Ev → (Bool → Prop) → Prop := fun _ Q => Q true
theorem rt_yes : RfT K tYes dYes := ⟨fun R q k => k _ _ q (stp_refl R)⟩
/-! expressions that branch -/
def dAndV (a b : Ev → (D → Prop) → Prop) : Ev → (D → Prop) → Prop := fun env Q => a env fun x => match x with | .bool c => if c = true then b env Q else Q (.bool false) | _ => False
def dOrV (a b : Ev → (D → Prop) → Prop) : Ev → (D → Prop) → Prop := fun env Q => a env fun x => match x with | .bool c => if c = true then Q (.bool true) else b env Q | _ => False
def dNotV (a : Ev → (D → Prop) → Prop) : Ev → (D → Prop) → Prop := fun env Q => a env fun x => match x with | .bool c => Q (.bool (!c)) | _ => False
def dIfV (c : Ev → (Bool → Prop) → Prop) (a b : Ev → (D → Prop) → Prop) : Ev → (D → Prop) → Prop := fun env Q => c env fun k => if k = true then a env Q else b env Q
theorem re_and {t u : TE} {a b : Ev → (D → Prop) → Prop} (h1 : RfE K t a) (h2 : RfE K u b) : RfE K (tAndV t u) (dAndV a b) := ⟨fun R q k => h1.run R q fun x v H1 q1 s1 r1 => by
  split at q1
  · rename_i c
    cases r1
    refine ⟨_, rfl, ?_⟩
    cases c with
    | true =>
      rw [if_pos rfl] at q1 ⊢
      exact h2.run (R.step s1) q1 fun d v H2 q2 s2 r2 => k d v H2 q2 (s1.trans s2) r2
    | false =>
      rw [if_neg Bool.false_ne_true] at q1 ⊢
      exact k _ _ _ q1 s1 (.bl _)
  · exact q1.elim⟩
theorem re_or {t u : TE} {a b : Ev → (D → Prop) → Prop} (h1 : RfE K t a) (h2 : RfE K u b) : RfE K (tOrV t u) (dOrV a b) := ⟨fun R q k => h1.run R q fun x v H1 q1 s1 r1 => by
  split at q1
  · rename_i c
    cases r1
    refine ⟨_, rfl, ?_⟩
    cases c with
    | false =>
      rw [if_neg Bool.false_ne_true] at q1 ⊢
      exact h2.run (R.step s1) q1 fun d v H2 q2 s2 r2 => k d v H2 q2 (s1.trans s2) r2
    | true =>
      rw [if_pos rfl] at q1 ⊢
      exact k _ _ _ q1 s1 (.bl _)
  · exact q1.elim⟩
theorem re_not {t : TE} {a : Ev → (D → Prop) → Prop} (h : RfE K t a) : RfE K (tNotV t) (dNotV a) := ⟨fun R q k => h.run R q fun x v H1 q1 s1 r1 => by
  split at q1
  · cases r1
    exact ⟨_, rfl, k _ _ _ q1 s1 (.bl _)⟩
  · exact q1.elim⟩
theorem re_if {c : TT} {t u : TE} {dc : Ev → (Bool → Prop) → Prop} {a b : Ev → (D → Prop) → Prop} (hc : RfT K c dc) (h1 : RfE K t a) (h2 : RfE K u b) : RfE K (tIf c t u) (dIfV dc a b) := ⟨fun R q k => hc.run R q fun c H1 q1 s1 => by
  cases c with
  | true =>
    rw [if_pos rfl] at q1 ⊢
    exact h1.run (R.step s1) q1 fun d v H2 q2 s2 r2 => k d v H2 q2 (s1.trans s2) r2
  | false =>
    rw [if_neg Bool.false_ne_true] at q1 ⊢
    exact h2.run (R.step s1) q1 fun d v H2 q2 s2 r2 => k d v H2 q2 (s1.trans s2) r2⟩
def dChain (op op' : D → D → (D → Prop) → Prop) (a b c : Ev → (D → Prop) → Prop) : Ev → (D → Prop) → Prop := fun env Q => a env fun x => b env fun y => op x y fun z => match z with
  | .bool k => if k = true then c env fun w => op' y w Q else Q (.bool false)
  | _ => False
theorem re_chain {r r' : R2} {op op' : D → D → (D → Prop) → Prop} {ta tb tc : TE} {a b c : Ev → (D → Prop) → Prop} (ho : RfV2 K r op) (ho' : RfV2 K r' op') (ha : RfB K ta a) (hb : RfB K tb b) (hc : RfB K tc c) : RfE K (tChain r r' ta tb tc) (dChain op op' a b c) := ⟨fun {A st ow σ H env Qd Q} R q k =>
  ha.run R q fun x v H1 q1 s1 r1 => hb.run (R.step s1) q1 fun y u H2 q2 s2 r2 => ho.run ((R.step s1).step s2) ((R.step s1).stepB s2 r1) r2 q2 fun z w H3 q3 s3 r3 => by
    have R3 := ((R.step s1).step s2).step s3
    split at q3
    · rename_i k'
      cases r3
      refine ⟨_, rfl, ?_⟩
      cases k' with
      | true =>
        rw [if_pos rfl] at q3 ⊢
        exact hc.run R3 q3 fun y' u' H4 q4 s4 r4 => ho'.run (R3.step s4) (R3.stepB s4 (((R.step s1).step s2).stepB s3 r2)) r4 q4 fun d v H5 q5 s5 r5 => k d v H5 q5 (s1.trans (s2.trans (s3.trans (s4.trans s5)))) r5
      | false =>
        rw [if_neg Bool.false_ne_true] at q3 ⊢
        exact k _ _ _ q3 (s1.trans (s2.trans s3)) (.bl _)
    · exact q3.elim⟩
/-! arguments -/
structure RfN (K : PySem.W.Frag) (n : Nat) (t : TA) (da : Ev → (List D → Prop) → Prop) : Prop where
  run : ∀ {A : Addr → Prop} {st : Option (Addr × Addr)} {ow : Nat → Option Addr} {σ : L2.St} {H : Hp} {env : Ev} {Qd : List D → Prop} {Q : List V → Hp → Prop},
  RE K A st ow σ H env → da env Qd → (∀ ds vs H', Qd ds → ds.length = n → Stp st H H' → RepL K H' (Mo A ow) ds vs → Q vs H') → t σ H Q
def dNil : Ev → (List D → Prop) → Prop := fun _ Q => Q []
def dCons (de : Ev → (D → Prop) → Prop) (da : Ev → (List D → Prop) → Prop) : Ev → (List D → Prop) → Prop := fun env Q => de env fun x => da env fun xs => Q (x :: xs)
theorem raN : RfN K 0 tNil dNil := ⟨fun R q k => k _ _ _ q rfl (stp_refl R) .nil⟩
theorem raC {n : Nat} {te : TE} {ta : TA} {de : Ev → (D → Prop) → Prop} {da : Ev → (List D → Prop) → Prop} (h : RfE K te de) (hs : RfN K n ta da) : RfN K (n + 1) (tCons te ta) (dCons de da) := ⟨fun R q k =>
  h.run R q fun d v H1 q1 s1 r1 => hs.run (R.step s1) q1 fun ds vs H2 q2 e2 s2 r2 => k (d :: ds) (v :: vs) H2 q2 (congrArg (· + 1) e2) (s1.trans s2) (.cons (Rep.to ((R.step s1).toS s2) r1) r2)⟩
theorem rbN : RfAB K tNil dNil := ⟨fun R q k => k _ _ _ q (stp_refl R) .nil⟩
theorem rbC {te : TE} {ta : TA} {de : Ev → (D → Prop) → Prop} {da : Ev → (List D → Prop) → Prop} (h : RfB K te de) (hs : RfAB K ta da) : RfAB K (tCons te ta) (dCons de da) := ⟨fun R q k =>
  h.run R q fun d v H1 q1 s1 r1 => hs.run (R.step s1) q1 fun ds vs H2 q2 s2 r2 => k (d :: ds) (v :: vs) H2 q2 (s1.trans s2) (.cons ((R.step s1).stepB s2 r1) r2)⟩
theorem Stp.none {st : Option (Addr × Addr)} {H H' : Hp} (s : Stp st H H') {p : Addr} (n : H' p = none) : H p = none := by
  cases e : H p with
  | none => rfl
  | some o =>
    by_cases hx : p ∈ exs st
    · exact absurd n (s.l.ne p hx)
    · rw [s.k p o e hx] at n; cases n
/-! new things -/
/-- a new list -/
structure RfF (K : PySem.W.Frag) (t : TE) (df : Ev → (List D → Prop) → Prop) : Prop where
  run : ∀ {A : Addr → Prop} {st : Option (Addr × Addr)} {ow : Nat → Option Addr} {σ : L2.St} {H : Hp} {env : Ev} {Qd : List D → Prop} {Q : VK},
  RE K A st ow σ H env → df env Qd → (∀ ds a vs H', Qd ds → Stp st H H' → H a = none → H' a = some (.lst vs) → RepL K H' (fun b => Mo A ow b ∨ b = a) ds vs → Q (.ref a) H') → t σ H Q
def dL (df : Ev → (List D → Prop) → Prop) : Ev → (D → Prop) → Prop := fun env Q => df env fun ds => Q (.list ds)
theorem RE.fr0 {A : Addr → Prop} {st : Option (Addr × Addr)} {ow : Nat → Option Addr} {σ : L2.St} {H : Hp} {env : Ev} (R : RE K A st ow σ H env) {a : Addr} (n : H a = none) : ¬ Mo A ow a := R.newM n
theorem RfF.e {t : TE} {df : Ev → (List D → Prop) → Prop} (h : RfF K t df) : RfE K t (dL df) := ⟨fun R q k => h.run R q fun ds a vs H' q' s n e r => k _ _ _ q' s (.lst e (R.newM n) (RepL.to ⟨fun b o x y => ⟨x, fun z => y (.inl z)⟩⟩ r))⟩
def dTup (da : Ev → (List D → Prop) → Prop) : Ev → (D → Prop) → Prop := fun env Q => da env fun xs => Q (.tuple xs)
theorem len_small {n m : Nat} (e : m = n) (h : n ≤ 1000) : m ≤ sizeLine := Nat.le_trans (e ▸ h) (by decide)
theorem re_tup {n : Nat} {t : TA} {da : Ev → (List D → Prop) → Prop} (h : RfN K n t da) (hn : n ≤ 1000 := by decide) : RfE K (tTup t) (dTup da) := ⟨fun R q k => h.run R q fun ds vs H1 q1 e1 s1 r1 =>
  ⟨len_small (r1.len.symm.trans e1) hn, fun p np => k _ _ _ q1 (s1.trans ((R.step s1).new np)) ((R.step s1).mkT np r1)⟩⟩
theorem rf_lst {n : Nat} {t : TA} {da : Ev → (List D → Prop) → Prop} (h : RfN K n t da) (hn : n ≤ 1000 := by decide) : RfF K (tLst t) da := ⟨fun R q k => h.run R q fun ds vs H1 q1 e1 s1 r1 =>
  ⟨len_small (r1.len.symm.trans e1) hn, fun p np => k _ _ _ _ q1 (s1.trans ((R.step s1).new np)) (s1.none np) upd_same (RepL.to (new_to np fun a z => z) r1)⟩⟩
/-! calls of built-in functions -/
def dCB (op : List D → (D → Prop) → Prop) (da : Ev → (List D → Prop) → Prop) : Ev → (D → Prop) → Prop := fun env Q => da env fun xs => op xs Q
theorem re_cb {r : List V → Hp → VK → Prop} {op : List D → (D → Prop) → Prop} {t : TA} {da : Ev → (List D → Prop) → Prop} (ho : RfVL K r op) (ha : RfAB K t da) : RfE K (tCB r t) (dCB op da) := ⟨fun R q k =>
  ha.run R q fun ds vs H1 q1 s1 r1 => ho.run (R.step s1) r1 q1 fun d v H2 q2 s2 r2 => k d v H2 q2 (s1.trans s2) r2⟩
def oAbs : List D → (D → Prop) → Prop := fun xs Q => match xs with | [.int i] => Q (.int (if i < 0 then -i else i)) | _ => False
theorem RepB.int {H : Hp} {A M : Addr → Prop} {i : Int} {v : V} (h : RepB K H A M (.int i) v) : v = .int i := by cases h with | r h => cases h; rfl
theorem RepB.bl {H : Hp} {A M : Addr → Prop} {i : Bool} {v : V} (h : RepB K H A M (.bool i) v) : v = .bl i := by cases h with | r h => cases h; rfl
theorem RepB.str {H : Hp} {A M : Addr → Prop} {i : Str} {v : V} (h : RepB K H A M (.str i) v) : v = .str i := by cases h with | r h => cases h; rfl
theorem RepBL.one {H : Hp} {A M : Addr → Prop} {d : D} {vs : List V} (h : RepBL K H A M [d] vs) : ∃ v, vs = [v] ∧ RepB K H A M d v := by
  cases h with | cons h r => cases r; exact ⟨_, rfl, h⟩
theorem RepBL.two {H : Hp} {A M : Addr → Prop} {d e : D} {vs : List V} (h : RepBL K H A M [d, e] vs) : ∃ v u, vs = [v, u] ∧ RepB K H A M d v ∧ RepB K H A M e u := by
  cases h with | cons h r =>
  obtain ⟨u, rfl, z⟩ := r.one
  exact ⟨_, _, rfl, h, z⟩
theorem ro_abs : RfVL K (fun xs H Q => ∃ i, xs = [.int i] ∧ Q (.int (if i < 0 then -i else i)) H) oAbs := ⟨fun R h q k => by
  unfold oAbs at q
  split at q
  · obtain ⟨v, rfl, z⟩ := h.one
    cases z.int
    exact ⟨_, rfl, k _ _ _ q (stp_refl R) (.int _)⟩
  · exact q.elim⟩
def oI2 (g : Int → Int → Int) : List D → (D → Prop) → Prop := fun xs Q => match xs with | [.int i, .int j] => Q (.int (g i j)) | _ => False
theorem ro_min : RfVL K (fun xs H Q => ∃ i j, xs = [.int i, .int j] ∧ Q (.int (if j < i then j else i)) H) (oI2 fun i j => if j < i then j else i) := ⟨fun R h q k => by
  unfold oI2 at q
  split at q
  · obtain ⟨v, u, rfl, z1, z2⟩ := h.two
    cases z1.int; cases z2.int
    exact ⟨_, _, rfl, k _ _ _ q (stp_refl R) (.int _)⟩
  · exact q.elim⟩
theorem ro_max : RfVL K (fun xs H Q => ∃ i j, xs = [.int i, .int j] ∧ Q (.int (if j > i then j else i)) H) (oI2 fun i j => if j > i then j else i) := ⟨fun R h q k => by
  unfold oI2 at q
  split at q
  · obtain ⟨v, u, rfl, z1, z2⟩ := h.two
    cases z1.int; cases z2.int
    exact ⟨_, _, rfl, k _ _ _ q (stp_refl R) (.int _)⟩
  · exact q.elim⟩
def oLen : List D → (D → Prop) → Prop := fun xs Q => match xs with | [d] => (match seqOf d with | some ds => Q (.int ds.length) | none => False) | _ => False
theorem ro_len : RfVL K (fun xs H Q => ∃ p ys, xs = [.ref p] ∧ (SqL K H p ys ∨ SqT K H p ys) ∧ Q (.int ys.length) H) oLen := ⟨fun {A st ow σ H env ds vs Qd Q} R h q k => by
  unfold oLen at q
  split at q
  · split at q
    · rename_i ds e
      obtain ⟨v, rfl, z⟩ := h.one
      obtain ⟨a, xs, rfl, hs, r⟩ := z.seq e
      exact ⟨_, _, rfl, hs, by rw [← r.len]; exact k _ _ _ q (stp_refl R) (.int _)⟩
    · exact q.elim
  · exact q.elim⟩
def oLenS : List D → (D → Prop) → Prop := fun xs Q => match xs with | [.str z] => z.length ≤ sizeLine ∧ Q (.int z.length) | _ => False
theorem ro_lenS : RfVL K (fun xs H Q => ∃ z, xs = [.str z] ∧ z.length ≤ sizeLine ∧ Q (.int z.length) H) oLenS := ⟨fun R h q k => by
  unfold oLenS at q
  split at q
  · obtain ⟨v, rfl, z⟩ := h.one
    cases z.str
    exact ⟨_, rfl, q.1, k _ _ _ q.2 (stp_refl R) (.int _)⟩
  · exact q.elim⟩
def oInt : List D → (D → Prop) → Prop := fun xs Q => match xs with | [.int i] => Q (.int i) | [.bool k] => Q (.int (if k then 1 else 0)) | _ => False
theorem ro_int : RfVL K (fun xs H Q => (∃ i, xs = [.int i] ∧ Q (.int i) H) ∨ ∃ k, xs = [.bl k] ∧ Q (.int (if k then 1 else 0)) H) oInt := ⟨fun R h q k => by
  unfold oInt at q
  split at q
  · obtain ⟨v, rfl, z⟩ := h.one
    cases z.int
    exact .inl ⟨_, rfl, k _ _ _ q (stp_refl R) (.int _)⟩
  · obtain ⟨v, rfl, z⟩ := h.one
    cases z.bl
    exact .inr ⟨_, rfl, k _ _ _ q (stp_refl R) (.int _)⟩
  · exact q.elim⟩
def intsOf : List D → Option (List Int)
  | [] => some []
  | .int i :: r => (intsOf r).map (i :: ·)
  | _ :: _ => none
def boolsOf : List D → Option (List Bool)
  | [] => some []
  | .bool i :: r => (boolsOf r).map (i :: ·)
  | _ :: _ => none
theorem ints_V {H : Hp} {M : Addr → Prop} : ∀ {ds : List D} {vs : List V} {ns : List Int}, RepL K H M ds vs → intsOf ds = some ns → vs = ns.map V.int
  | [], _, _, .nil, e => by cases e; rfl
  | .int i :: r, _, ns, .cons h t, e => by
    unfold intsOf at e
    cases z : intsOf r with
    | none => rw [z] at e; cases e
    | some ms =>
      rw [z] at e
      cases e
      cases h
      rw [ints_V t z, List.map_cons]
theorem bools_V {H : Hp} {M : Addr → Prop} : ∀ {ds : List D} {vs : List V} {ns : List Bool}, RepL K H M ds vs → boolsOf ds = some ns → vs = ns.map V.bl
  | [], _, _, .nil, e => by cases e; rfl
  | .bool i :: r, _, ns, .cons h t, e => by
    unfold boolsOf at e
    cases z : boolsOf r with
    | none => rw [z] at e; cases e
    | some ms =>
      rw [z] at e
      cases e
      cases h
      rw [bools_V t z, List.map_cons]
def oSum : List D → (D → Prop) → Prop := fun xs Q => match xs with | [.list ds] => (match intsOf ds with | some ns => Q (.int ns.sum) | none => False) | _ => False
theorem ro_sum : RfVL K (rSum K) oSum := ⟨fun R h q k => by
  unfold oSum at q
  split at q
  · split at q
    · rename_i ns e
      obtain ⟨v, rfl, z⟩ := h.one
      obtain ⟨a, xs, rfl, hs, r⟩ := z.lst
      cases ints_V r e
      exact ⟨_, _, rfl, SqL.of hs, k _ _ _ q (stp_refl R) (.int _)⟩
    · exact q.elim
  · exact q.elim⟩
def oBs (g : List Bool → Bool) : List D → (D → Prop) → Prop := fun xs Q => match xs with | [.list ds] => (match boolsOf ds with | some ns => Q (.bool (g ns)) | none => False) | _ => False
theorem ro_all : RfVL K (rAll K) (oBs fun bs => bs.all id) := ⟨fun R h q k => by
  unfold oBs at q
  split at q
  · split at q
    · rename_i ns e
      obtain ⟨v, rfl, z⟩ := h.one
      obtain ⟨a, xs, rfl, hs, r⟩ := z.lst
      cases bools_V r e
      exact ⟨_, _, rfl, SqL.of hs, k _ _ _ q (stp_refl R) (.bl _)⟩
    · exact q.elim
  · exact q.elim⟩
theorem ro_any : RfVL K (rAny K) (oBs fun bs => bs.any id) := ⟨fun R h q k => by
  unfold oBs at q
  split at q
  · split at q
    · rename_i ns e
      obtain ⟨v, rfl, z⟩ := h.one
      obtain ⟨a, xs, rfl, hs, r⟩ := z.lst
      cases bools_V r e
      exact ⟨_, _, rfl, SqL.of hs, k _ _ _ q (stp_refl R) (.bl _)⟩
    · exact q.elim
  · exact q.elim⟩
def oTupOf : List D → (D → Prop) → Prop := fun xs Q => match xs with | [d] => (match seqOf d with | some ds => Q (.tuple ds) | none => False) | _ => False
theorem ro_tupOf : RfVL K (fun xs H Q => ∃ p ys, xs = [.ref p] ∧ ((SqL K H p ys ∧ ∀ l, H l = none → Q (.ref l) (upd H l (.tup ys))) ∨ (SqT K H p ys ∧ Q (.ref p) H))) oTupOf := ⟨fun {A st ow σ H env ds vs Qd Q} R h q k => by
  unfold oTupOf at q
  split at q
  · rename_i d
    split at q
    · rename_i ds e
      obtain ⟨v, rfl, z⟩ := h.one
      cases d with
      | list _ =>
        cases e
        obtain ⟨a, xs, rfl, hs, r⟩ := z.lst
        exact ⟨_, _, rfl, .inl ⟨SqL.of hs, fun p n => k _ _ _ q (R.new n) (R.mkT n r)⟩⟩
      | tuple _ =>
        cases e
        obtain ⟨a, xs, rfl, hs, r⟩ := z.tup
        exact ⟨_, _, rfl, .inr ⟨hs.sq, k _ _ _ q (stp_refl R) (.tup hs r)⟩⟩
      | _ => cases e
    · exact q.elim
  · exact q.elim⟩
def dSeqOf (da : Ev → (D → Prop) → Prop) : Ev → (List D → Prop) → Prop := fun env Q => da env fun d => match seqOf d with | some ds => Q ds | none => False
theorem rf_listOf {ta : TE} {da : Ev → (D → Prop) → Prop} (h : RfB K ta da) : RfF K (tCB (fun xs H Q => ∃ p ys, xs = [.ref p] ∧ (SqL K H p ys ∨ SqT K H p ys) ∧ ∀ l, H l = none → Q (.ref l) (upd H l (.lst ys))) (tCons ta tNil)) (dSeqOf da) := ⟨fun R q k => h.run R q fun d v H1 q1 s1 r1 => by
  split at q1
  · rename_i ds e
    obtain ⟨a, xs, rfl, hs, r⟩ := r1.seq e
    exact ⟨_, _, rfl, hs, fun l n => k _ _ _ _ q1 (s1.trans ((R.step s1).new n)) (s1.none n) upd_same (RepL.to (new_to n fun a z => z) r)⟩
  · exact q1.elim⟩
/-! isinstance -/
def tyN : D → String
  | .none => "NoneType" | .bool _ => "bool" | .int _ => "int" | .str _ => "str" | .list _ => "list" | .tuple _ => "tuple" | .dict _ => "dict"
theorem RepB.ty {H : Hp} {A M : Addr → Prop} {d : D} {v : V} (h : RepB K H A M d v) : TyX K H v (.type (tyN d)) := by
  cases h with
  | r h =>
    cases h with
    | non => exact .base .non
    | bl b => exact .base (.bl b)
    | int b => exact .base (.int b)
    | str b => exact .base (.str b)
    | lst h _ _ => exact .base (.lst h)
    | tup h _ =>
      rcases h with ⟨h | ⟨o, h⟩, _⟩ | ⟨o, its, n, h1, h2, _⟩
      · exact .base (.tup h)
      · exact .fTuple h
      · exact .kTuple h1 h2
    | dct h _ _ => exact .base (.dK h)
  | o h _ _ => exact .base (.lst h)
  | k h _ _ => exact .base (.dK h)
def tys : List String := ["bool", "int", "str", "list", "tuple", "dict"]
def isTy (n : String) : D → Bool
  | .none => false | .bool _ => n == "bool" || n == "int" | .int _ => n == "int" | .str _ => n == "str" | .list _ => n == "list" | .tuple _ => n == "tuple" | .dict _ => n == "dict"
theorem kit_tab : (tys.all fun n => ["NoneType", "bool", "int", "str", "list", "tuple", "dict"].all fun m => kitB m n == some (m == n || (m == "bool" && n == "int"))) = true := by decide +kernel
theorem kit_ty {n : String} (hn : n ∈ tys) (d : D) : PySem.W.kitOne K (.type (tyN d)) (.type n) = some (isTy n d) := by
  have h := kit_tab
  rw [List.all_eq_true] at h
  have h1 := h n hn
  rw [List.all_eq_true] at h1
  have h2 := eq_of_beq (h1 (tyN d) (by cases d <;> simp [tyN]))
  refine (show PySem.W.kitOne K (.type (tyN d)) (.type n) = kitB (tyN d) n from rfl).trans (h2.trans (congrArg some ?_))
  have hn' : n = "bool" ∨ n = "int" ∨ n = "str" ∨ n = "list" ∨ n = "tuple" ∨ n = "dict" := by simpa [tys] using hn
  rcases hn' with rfl | rfl | rfl | rfl | rfl | rfl <;> cases d <;> simp [tyN, isTy]
def dIsi (n : String) (da : Ev → (D → Prop) → Prop) : Ev → (D → Prop) → Prop := fun env Q => da env fun x => Q (.bool (isTy n x))
theorem re_isi {n : String} {ta : TE} {da : Ev → (D → Prop) → Prop} (h : RfB K ta da) (hn : n ∈ tys := by decide) : RfE K (tCB (rIsi K) (tCons ta (tCons (tC (.ty n)) tNil))) (dIsi n da) := ⟨fun R q k => h.run R q fun d v H1 q1 s1 r1 =>
  ⟨_, _, _, _, _, rfl, .ty n, r1.ty, kit_ty hn d, k _ _ _ q1 s1 (.bl _)⟩⟩
/-! slices -/
structure RfO (K : PySem.W.Frag) (t : TO) (dt : Ev → (Option Int → Prop) → Prop) : Prop where
  run : ∀ {A : Addr → Prop} {st : Option (Addr × Addr)} {ow : Nat → Option Addr} {σ : L2.St} {H : Hp} {env : Ev} {Qd : Option Int → Prop} {Q : Option Int → Hp → Prop},
  RE K A st ow σ H env → dt env Qd → (∀ d H', Qd d → Stp st H H' → Q d H') → t σ H Q
def dNoP : Ev → (Option Int → Prop) → Prop := fun _ Q => Q none
def dPart (de : Ev → (D → Prop) → Prop) : Ev → (Option Int → Prop) → Prop := fun env Q => de env fun x => match x with | .int i => Q (some i) | _ => False
theorem rp_no : RfO K tNoPart dNoP := ⟨fun R q k => k _ _ q (stp_refl R)⟩
theorem rp_some {t : TE} {de : Ev → (D → Prop) → Prop} (h : RfE K t de) : RfO K (tPart t) (dPart de) := ⟨fun R q k => h.run R q fun d v H1 q1 s1 r1 => by
  split at q1
  · cases r1
    exact ⟨_, rfl, k _ _ q1 s1⟩
  · exact q1.elim⟩
def dSlT (de : Ev → (D → Prop) → Prop) (dl dh : Ev → (Option Int → Prop) → Prop) : Ev → (D → Prop) → Prop := fun env Q => de env fun x => dl env fun l => dh env fun h => match x with | .tuple ds => Q (.tuple (cutD ds l h)) | _ => False
def dSlL (de : Ev → (D → Prop) → Prop) (dl dh : Ev → (Option Int → Prop) → Prop) : Ev → (List D → Prop) → Prop := fun env Q => de env fun x => dl env fun l => dh env fun h => match x with | .list ds => Q (cutD ds l h) | _ => False
def dSlS (de : Ev → (D → Prop) → Prop) (dl dh : Ev → (Option Int → Prop) → Prop) : Ev → (D → Prop) → Prop := fun env Q => de env fun x => dl env fun l => dh env fun h => match x with | .str z => z.length ≤ sizeLine ∧ Q (.str (cutS z l h)) | _ => False
theorem cut_whole {α : Type} {xs : List α} {lo hi : Option Int} (h : HT.sIx xs.length 0 lo = 0 ∧ HT.sIx xs.length xs.length hi = xs.length) : cutD xs lo hi = xs := by
  unfold cutD
  rw [h.1, h.2, List.drop_zero, Nat.sub_zero, List.take_length]
theorem re_slT {t : TE} {tl th : TO} {de : Ev → (D → Prop) → Prop} {dl dh : Ev → (Option Int → Prop) → Prop} (he : RfB K t de) (hl : RfO K tl dl) (hh : RfO K th dh) : RfE K (tSl (rSlA K) t tl th) (dSlT de dl dh) := ⟨fun R q k =>
  he.run R q fun d v H1 q1 s1 r1 => hl.run (R.step s1) q1 fun l H2 q2 s2 => hh.run ((R.step s1).step s2) q2 fun u H3 q3 s3 => by
    have R3 := ((R.step s1).step s2).step s3
    have s13 := s1.trans (s2.trans s3)
    split at q3
    · have r3 := ((R.step s1).step s2).stepB s3 ((R.step s1).stepB s2 r1)
      obtain ⟨a, xs, rfl, hs, r⟩ := r3.tup
      refine ⟨a, xs, rfl, hs.sq, fun e => ?_, fun _ p n => k _ _ _ q3 (s13.trans (R3.new n)) (R3.mkT n (cut_rep r))⟩
      rw [← r.len] at e
      rw [cut_whole e] at q3
      exact k _ _ _ q3 s13 (.tup hs r)
    · exact q3.elim⟩
theorem rf_slL {t : TE} {tl th : TO} {de : Ev → (D → Prop) → Prop} {dl dh : Ev → (Option Int → Prop) → Prop} (he : RfB K t de) (hl : RfO K tl dl) (hh : RfO K th dh) : RfF K (tSl (rSlL K) t tl th) (dSlL de dl dh) := ⟨fun R q k =>
  he.run R q fun d v H1 q1 s1 r1 => hl.run (R.step s1) q1 fun l H2 q2 s2 => hh.run ((R.step s1).step s2) q2 fun u H3 q3 s3 => by
    have R3 := ((R.step s1).step s2).step s3
    have s13 := s1.trans (s2.trans s3)
    split at q3
    · have r3 := ((R.step s1).step s2).stepB s3 ((R.step s1).stepB s2 r1)
      obtain ⟨a, xs, rfl, hs, r⟩ := r3.lst
      exact ⟨a, xs, rfl, SqL.of hs, fun p n => k _ _ _ _ q3 (s13.trans (R3.new n)) (s13.none n) upd_same (RepL.to (new_to n fun a z => z) (cut_rep r))⟩
    · exact q3.elim⟩
theorem re_slS {t : TE} {tl th : TO} {de : Ev → (D → Prop) → Prop} {dl dh : Ev → (Option Int → Prop) → Prop} (he : RfB K t de) (hl : RfO K tl dl) (hh : RfO K th dh) : RfE K (tSl rSlS t tl th) (dSlS de dl dh) := ⟨fun R q k =>
  he.run R q fun d v H1 q1 s1 r1 => hl.run (R.step s1) q1 fun l H2 q2 s2 => hh.run ((R.step s1).step s2) q2 fun u H3 q3 s3 => by
    have s13 := s1.trans (s2.trans s3)
    split at q3
    · cases r1.str
      exact ⟨_, rfl, q3.1, k _ _ _ q3.2 s13 (.str _)⟩
    · exact q3.elim⟩
/-! calls of defs -/
def spD (K : PySem.W.Frag) (f : List D → (D → Prop) → Prop) : Sp := fun vs H Q _ => ∃ (A : Addr → Prop) (ds : List D) (Qd : D → Prop), (∀ a, A a → H a ≠ none) ∧ RepL K H A ds vs ∧ f ds Qd ∧ ∀ d v H', Qd d → Same H H' → Rep K H' A d v → Q v H'
def spS (K : PySem.W.Frag) (f : List D → (D → Prop) → Prop) : Sp := fun vs H Q _ => ∃ (A : Addr → Prop) (q : Addr × Addr) (ds : List D) (ws : List V) (Qd : D → Prop), vs = .ref q.1 :: ws ∧ LS H q.1 q.2 ∧ A q.1 ∧ A q.2 ∧ (∀ a, A a → H a ≠ none) ∧ RepL K H A ds ws ∧ f ds Qd ∧
  ∀ d v H', Qd d → Stp (some q) H H' → Rep K H' A d v → Q v H'
def dCall (f : List D → (D → Prop) → Prop) (da : Ev → (List D → Prop) → Prop) : Ev → (D → Prop) → Prop := fun env Q => da env fun xs => f xs Q
def dCallS (i : Nat) (f : List D → (D → Prop) → Prop) (da : Ev → (List D → Prop) → Prop) : Ev → (D → Prop) → Prop := fun env Q => match eget env i with | some .st => da env fun xs => f xs Q | _ => False
theorem re_call {n : Nat} {f : List D → (D → Prop) → Prop} {E : XK} {t : TA} {da : Ev → (List D → Prop) → Prop} (h : RfN K n t da) : RfE K (tCall (spD K f) [] E t) (dCall f da) := ⟨fun R q k => h.run R q fun ds vs H1 q1 e1 s1 r1 => by
  have R1 := R.step s1
  exact ⟨_, ds, _, fun a => R1.alM, by rw [List.append_nil]; exact r1, q1, fun d v H2 q2 s2 r2 => k d v H2 q2 (s1.trans (.same s1.l s2)) r2⟩⟩
theorem re_callS {n i : Nat} {f : List D → (D → Prop) → Prop} {E : XK} {t : TA} {da : Ev → (List D → Prop) → Prop} (h : RfN K n t da) : RfE K (tCall (spS K f) [] E (tCons (tVar i) t)) (dCallS i f da) := ⟨fun R q k => by
  unfold dCallS at q
  split at q
  · rename_i e
    obtain ⟨v, hv, z, e1, rfl⟩ := R.sl i _ (eget_some e)
    refine ⟨_, hv, h.run R q fun ds vs H1 q1 _ s1 r1 => ?_⟩
    have R1 := R.step s1
    refine ⟨Mo _ _, z, ds, vs, _, by rw [List.append_nil], s1.l z e1, .inl (R.sta z e1).1, .inl (R.sta z e1).2, fun a => R1.alM, r1, q1, fun d v H2 q2 s2 r2 => ?_⟩
    subst e1
    exact k d v H2 q2 (s1.trans s2) r2
  · exact q.elim⟩
end
section
variable {K : PySem.W.Frag}
/-! what a for walks -/
def ItOk (K : PySem.W.Frag) (J : It) (ds : List D) (M0 : Addr → Prop) (H0 : Hp) : Prop := ∀ (M : Addr → Prop) (H : Hp), To H0 H M0 M → (∀ a, M a → H a ≠ none) → ∀ i,
  (i = ds.length → J.stop i H) ∧ ∀ d, ds[i]? = some d → J.go i H ∧ ∀ x H', J.yld i H x H' → Same H H' ∧ Rep K H' M d x
theorem ItOk.mono {J : It} {ds : List D} {M0 M1 : Addr → Prop} {H0 H1 : Hp} (h : ItOk K J ds M0 H0) (t : To H0 H1 M0 M1) : ItOk K J ds M1 H1 := fun M H t2 a i => h M H (t.trans t2) a i
structure RfI (K : PySem.W.Frag) (t : TI) (di : Ev → (List D → Prop) → Prop) : Prop where
  run : ∀ {A : Addr → Prop} {st : Option (Addr × Addr)} {ow : Nat → Option Addr} {σ : L2.St} {H : Hp} {env : Ev} {Qd : List D → Prop} {R : It → Hp → Prop},
  RE K A st ow σ H env → di env Qd → (∀ ds J H', Qd ds → Stp st H H' → ItOk K J ds (Mo A ow) H' → R J H') → t σ H R
theorem Same.refl' (H : Hp) : Same H H := fun _ _ h => h
theorem RepL.get2 {H : Hp} {M : Addr → Prop} {ds : List D} {vs : List V} (r : RepL K H M ds vs) {i : Nat} {d : D} {v : V} (e : ds[i]? = some d) (e2 : vs[i]? = some v) : Rep K H M d v := by
  obtain ⟨u, h1, h2⟩ := r.get e
  rw [e2] at h1
  cases h1
  exact h2
theorem itl_ok {a : Addr} {xs : List V} {ds : List D} {M : Addr → Prop} {H : Hp} (h : H a = some (.lst xs)) (n : ¬ M a) (r : RepL K H M ds xs) : ItOk K (Itl K a) ds M H := fun M' H' t _ i => by
  have h' := (t.h _ _ h n).1
  refine ⟨fun l => ⟨xs, SqL.of h', by rw [← r.len]; omega⟩, fun d e => ?_⟩
  obtain ⟨v, ev, rv⟩ := r.get e
  exact ⟨⟨xs, v, SqL.of h', ev⟩, fun x H2 ⟨e2, y⟩ => by
    subst e2
    have := y xs (SqL.of h')
    rw [ev] at this
    cases this
    exact ⟨Same.refl' _, Rep.to t rv⟩⟩
theorem itt_ok {a : Addr} {xs : List V} {ds : List D} {M : Addr → Prop} {H : Hp} (h : TupAt K H M a xs) (r : RepL K H M ds xs) : ItOk K (Itt K a) ds M H := fun M' H' t _ i => by
  have h' : SqT K H' a xs := by
    rcases h with ⟨h | ⟨o, h⟩, n⟩ | h
    · exact .inl (.inl (t.h _ _ h n).1)
    · exact .inl (.inr ⟨o, (t.h _ _ h n).1⟩)
    · exact .inr h
  refine ⟨fun l => ⟨xs, h', by rw [← r.len]; omega⟩, fun d e => ?_⟩
  obtain ⟨v, ev, rv⟩ := r.get e
  exact ⟨⟨xs, v, h', ev⟩, fun x H2 ⟨e2, y⟩ => by
    subst e2
    have := y xs h'
    rw [ev] at this
    cases this
    exact ⟨Same.refl' _, Rep.to t rv⟩⟩
def rng (lo : Int) (n : Nat) : List D := (List.range n).map fun i => PyData.int (lo + (i : Nat))
theorem itr_ok {lo : Int} {n : Nat} {M : Addr → Prop} {H : Hp} : ItOk K (Itr lo n) (rng lo n) M H := fun M' H' t _ i => by
  refine ⟨fun l => by unfold rng at l; rw [List.length_map, List.length_range] at l; show n ≤ i; omega, fun d e => ?_⟩
  have hi : i < n := by
    have := (List.getElem?_eq_some_iff.mp e).1
    unfold rng at this
    rw [List.length_map, List.length_range] at this
    exact this
  unfold rng at e
  rw [List.getElem?_map, List.getElem?_range hi] at e
  cases e
  exact ⟨hi, fun x H2 ⟨e2, y⟩ => by
    subst e2 y
    exact ⟨Same.refl' _, .int _⟩⟩
def dItL (de : Ev → (D → Prop) → Prop) : Ev → (List D → Prop) → Prop := fun env Q => de env fun x => match x with | .list ds => Q ds | _ => False
def dItT (de : Ev → (D → Prop) → Prop) : Ev → (List D → Prop) → Prop := fun env Q => de env fun x => match x with | .tuple ds => Q ds | _ => False
theorem ri_list {t : TE} {de : Ev → (D → Prop) → Prop} (h : RfE K t de) : RfI K (iList K t) (dItL de) := ⟨fun R q k => h.run R q fun d v H1 q1 s1 r1 => by
  split at q1
  · cases r1 with | lst h0 n r => exact ⟨_, rfl, ⟨_, SqL.of h0⟩, k _ _ _ q1 s1 (itl_ok h0 n r)⟩
  · exact q1.elim⟩
theorem ri_tup {t : TE} {de : Ev → (D → Prop) → Prop} (h : RfE K t de) : RfI K (iTup K t) (dItT de) := ⟨fun R q k => h.run R q fun d v H1 q1 s1 r1 => by
  split at q1
  · cases r1 with | tup h0 r => exact ⟨_, rfl, ⟨_, h0.sq⟩, k _ _ _ q1 s1 (itt_ok h0 r)⟩
  · exact q1.elim⟩
def dR1 (da : Ev → (List D → Prop) → Prop) : Ev → (List D → Prop) → Prop := fun env Q => da env fun xs => match xs with | [.int j] => -(2 ^ 62) ≤ j ∧ j < 2 ^ 62 ∧ Q (rng 0 j.toNat) | _ => False
def dR2 (da : Ev → (List D → Prop) → Prop) : Ev → (List D → Prop) → Prop := fun env Q => da env fun xs => match xs with | [.int i, .int j] => (-(2 ^ 62) ≤ i ∧ i < 2 ^ 62 ∧ -(2 ^ 62) ≤ j ∧ j < 2 ^ 62) ∧ Q (rng i (j - i).toNat) | _ => False
theorem ri_r1 {t : TA} {da : Ev → (List D → Prop) → Prop} (h : RfAB K t da) : RfI K (iRng1 t) (dR1 da) := ⟨fun R q k => h.run R q fun ds vs H1 q1 s1 r1 => by
  split at q1
  · obtain ⟨v, rfl, z⟩ := r1.one
    cases z.int
    exact ⟨_, rfl, q1.1, q1.2.1, k _ _ _ q1.2.2 s1 itr_ok⟩
  · exact q1.elim⟩
theorem ri_r2 {t : TA} {da : Ev → (List D → Prop) → Prop} (h : RfAB K t da) : RfI K (iRng2 t) (dR2 da) := ⟨fun R q k => h.run R q fun ds vs H1 q1 s1 r1 => by
  split at q1
  · obtain ⟨v, u, rfl, z1, z2⟩ := r1.two
    cases z1.int; cases z2.int
    exact ⟨_, _, rfl, q1.1, k _ _ _ q1.2 s1 itr_ok⟩
  · exact q1.elim⟩
def chars (z : Str) : List D := z.cps.toList.map fun c => PyData.str ⟨#[c]⟩
def dItS (de : Ev → (D → Prop) → Prop) : Ev → (List D → Prop) → Prop := fun env Q => de env fun x => match x with | .str z => Q (chars z) | _ => False
theorem its_ok {z : Str} {M : Addr → Prop} {H : Hp} : ItOk K (Its z) (chars z) M H := fun M' H' t _ i => by
  refine ⟨fun l => by unfold chars at l; rw [List.length_map] at l; show z.cps.size ≤ i; rw [← Array.length_toList]; omega, fun d e => ?_⟩
  unfold chars at e
  rw [List.getElem?_map] at e
  cases g : z.cps.toList[i]? with
  | none => rw [g] at e; cases e
  | some c =>
    rw [g] at e
    cases e
    have hi := (List.getElem?_eq_some_iff.mp g).1
    refine ⟨by simpa [Its] using hi, fun x H2 ⟨e2, c2, y1, y2⟩ => ?_⟩
    subst e2 y2
    rw [Array.getElem?_toList] at g
    rw [g] at y1
    cases y1
    exact ⟨Same.refl' _, .str _⟩
theorem ri_str {t : TE} {de : Ev → (D → Prop) → Prop} (h : RfE K t de) : RfI K (iStr t) (dItS de) := ⟨fun R q k => h.run R q fun d v H1 q1 s1 r1 => by
  split at q1
  · cases r1
    exact ⟨_, rfl, k _ _ _ q1 s1 its_ok⟩
  · exact q1.elim⟩
def zipD : List D → List D → List D
  | a :: r, b :: s => .tuple [a, b] :: zipD r s
  | _, _ => []
theorem zipD_get : ∀ {as bs : List D} {i : Nat} {d : D}, (zipD as bs)[i]? = some d → ∃ a b, as[i]? = some a ∧ bs[i]? = some b ∧ d = .tuple [a, b]
  | a :: r, b :: s, 0, d, e => by
    unfold zipD at e
    rw [List.getElem?_cons_zero] at e
    cases e
    exact ⟨a, b, rfl, rfl, rfl⟩
  | a :: r, b :: s, i + 1, d, e => by
    unfold zipD at e
    rw [List.getElem?_cons_succ] at e
    rw [List.getElem?_cons_succ, List.getElem?_cons_succ]
    exact zipD_get e
  | [], _, i, d, e => by simp [zipD] at e
  | _ :: _, [], i, d, e => by simp [zipD] at e
theorem zipD_len : ∀ {as bs : List D}, (zipD as bs).length = min as.length bs.length
  | a :: r, b :: s => by
    unfold zipD
    rw [List.length_cons, List.length_cons, List.length_cons, zipD_len]
    omega
  | [], _ => by simp [zipD]
  | _ :: _, [] => by simp [zipD]
theorem TupAt.to {H H' : Hp} {M M' : Addr → Prop} {a : Addr} {xs : List V} (t : To H H' M M') (h : TupAt K H M a xs) : TupAt K H' M' a xs := by
  rcases h with ⟨h | ⟨o, h⟩, n⟩ | h
  · exact .inl ⟨.inl (t.h _ _ h n).1, (t.h _ _ h n).2⟩
  · exact .inl ⟨.inr ⟨o, (t.h _ _ h n).1⟩, (t.h _ _ h n).2⟩
  · exact .inr h
theorem pair_rep {H : Hp} {M : Addr → Prop} {T : Addr} {d e : D} {x y : V} (n : H T = none) (al : ∀ a, M a → H a ≠ none) (h1 : Rep K H M d x) (h2 : Rep K H M e y) : Rep K (upd H T (.tup [x, y])) M (.tuple [d, e]) (.ref T) :=   .tup (.inl ⟨.inl upd_same, fun z => al T z n⟩) (.cons (Rep.to (to_same (same_upd n)) h1) (.cons (Rep.to (to_same (same_upd n)) h2) .nil))
theorem itz_ok {a b : Addr} {xs ys : List V} {ds es : List D} {M : Addr → Prop} {H : Hp} (h : H a = some (.lst xs)) (n : ¬ M a) (r : RepL K H M ds xs) (h2 : H b = some (.lst ys)) (n2 : ¬ M b) (r2 : RepL K H M es ys) : ItOk K (Itz K a b) (zipD ds es) M H := fun M' H' t al i => by
  have g1 := SqL.of (K := K) (t.h _ _ h n).1
  have g2 := SqL.of (K := K) (t.h _ _ h2 n2).1
  refine ⟨fun l => ⟨xs, ys, g1, g2, by rw [zipD_len, r.len, r2.len] at l; omega⟩, fun d e => ?_⟩
  obtain ⟨x, y, e1, e2, rfl⟩ := zipD_get e
  obtain ⟨v, ev, rv⟩ := r.get e1
  obtain ⟨u, eu, ru⟩ := r2.get e2
  refine ⟨⟨xs, ys, v, u, g1, g2, ev, eu⟩, fun x' H2 ⟨T, x1, y1, z1, z2, z3, z4, z5⟩ => ?_⟩
  subst z1 z3
  have w1 := z4 xs g1
  have w2 := z5 ys g2
  rw [ev] at w1; rw [eu] at w2
  cases w1; cases w2
  exact ⟨same_upd z2, pair_rep z2 al (Rep.to t rv) (Rep.to t ru)⟩
theorem itzT_ok {a b : Addr} {xs ys : List V} {ds es : List D} {M : Addr → Prop} {H : Hp} (h : TupAt K H M a xs) (r : RepL K H M ds xs) (h2 : TupAt K H M b ys) (r2 : RepL K H M es ys) : ItOk K (RZ.ItzT K a b) (zipD ds es) M H := fun M' H' t al i => by
  have g1 := (h.to t).sq
  have g2 := (h2.to t).sq
  refine ⟨fun l => ⟨xs, ys, g1, g2, by rw [zipD_len, r.len, r2.len] at l; omega⟩, fun d e => ?_⟩
  obtain ⟨x, y, e1, e2, rfl⟩ := zipD_get e
  obtain ⟨v, ev, rv⟩ := r.get e1
  obtain ⟨u, eu, ru⟩ := r2.get e2
  refine ⟨⟨xs, ys, v, u, g1, g2, ev, eu⟩, fun x' H2 ⟨T, x1, y1, z1, z2, z3, z4, z5⟩ => ?_⟩
  subst z1 z3
  have w1 := z4 xs g1
  have w2 := z5 ys g2
  rw [ev] at w1; rw [eu] at w2
  cases w1; cases w2
  exact ⟨same_upd z2, pair_rep z2 al (Rep.to t rv) (Rep.to t ru)⟩
def dZip (da : Ev → (List D → Prop) → Prop) : Ev → (List D → Prop) → Prop := fun env Q => da env fun xs => match xs with | [.list a, .list b] => Q (zipD a b) | [.tuple a, .tuple b] => Q (zipD a b) | _ => False
theorem ri_zip {n : Nat} {t : TA} {da : Ev → (List D → Prop) → Prop} (h : RfN K n t da) : RfI K (RZ.iZipA K t) (dZip da) := ⟨fun R q k => h.run R q fun ds vs H1 q1 _ s1 r1 => by
  split at q1
  · cases r1 with | cons h1 r1 => cases r1 with | cons h2 r2 =>
    cases r2
    cases h1 with | lst h1 n1 r1 => cases h2 with | lst h2 n2 r2 =>
    exact ⟨_, _, _, _, rfl, .inl ⟨SqL.of h1, SqL.of h2, k _ _ _ q1 s1 (itz_ok h1 n1 r1 h2 n2 r2)⟩⟩
  · cases r1 with | cons h1 r1 => cases r1 with | cons h2 r2 =>
    cases r2
    cases h1 with | tup h1 r1 => cases h2 with | tup h2 r2 =>
    exact ⟨_, _, _, _, rfl, .inr ⟨h1.sq, h2.sq, k _ _ _ q1 s1 (itzT_ok h1 r1 h2 r2)⟩⟩
  · exact q1.elim⟩
def enumD (n : Nat) : List D → List D
  | [] => []
  | a :: r => .tuple [.int (n : Nat), a] :: enumD (n + 1) r
theorem enumD_len : ∀ {as : List D} {n : Nat}, (enumD n as).length = as.length
  | [], _ => rfl
  | a :: r, n => congrArg (· + 1) enumD_len
theorem enumD_get : ∀ {as : List D} {n i : Nat} {d : D}, (enumD n as)[i]? = some d → ∃ a, as[i]? = some a ∧ d = .tuple [.int ((n + i : Nat) : Int), a]
  | [], n, i, d, e => by simp [enumD] at e
  | a :: r, n, 0, d, e => by
    unfold enumD at e
    rw [List.getElem?_cons_zero] at e
    cases e
    exact ⟨a, rfl, rfl⟩
  | a :: r, n, i + 1, d, e => by
    unfold enumD at e
    rw [List.getElem?_cons_succ] at e ⊢
    obtain ⟨x, h1, h2⟩ := enumD_get e
    exact ⟨x, h1, by rw [h2, Nat.add_right_comm, Nat.add_assoc]⟩
theorem ite_ok {a : Addr} {xs : List V} {ds : List D} {M : Addr → Prop} {H : Hp} (h : H a = some (.lst xs)) (n : ¬ M a) (r : RepL K H M ds xs) : ItOk K (Ite K a) (enumD 0 ds) M H := fun M' H' t al i => by
  have g1 := SqL.of (K := K) (t.h _ _ h n).1
  refine ⟨fun l => ⟨xs, g1, by rw [enumD_len, r.len] at l; omega⟩, fun d e => ?_⟩
  obtain ⟨x, e1, rfl⟩ := enumD_get e
  obtain ⟨v, ev, rv⟩ := r.get e1
  refine ⟨⟨xs, v, g1, ev⟩, fun x' H2 ⟨T, x1, z1, z2, z3, z4⟩ => ?_⟩
  subst z1 z3
  have w1 := z4 xs g1
  rw [ev] at w1
  cases w1
  rw [Nat.zero_add]
  exact ⟨same_upd z2, pair_rep z2 al (.int _) (Rep.to t rv)⟩
def dEnum (da : Ev → (List D → Prop) → Prop) : Ev → (List D → Prop) → Prop := fun env Q => da env fun xs => match xs with | [.list a] => Q (enumD 0 a) | _ => False
theorem ri_enum {n : Nat} {t : TA} {da : Ev → (List D → Prop) → Prop} (h : RfN K n t da) : RfI K (iEnum K t) (dEnum da) := ⟨fun R q k => h.run R q fun ds vs H1 q1 _ s1 r1 => by
  split at q1
  · cases r1 with | cons h1 r1 =>
    cases r1
    cases h1 with | lst h1 n1 r1 =>
    exact ⟨_, _, rfl, SqL.of h1, k _ _ _ q1 s1 (ite_ok h1 n1 r1)⟩
  · exact q1.elim⟩
/-! targets -/
structure RfG (K : PySem.W.Frag) (is : List Nat) (g : TG) (dg : D → Ev → (Ev → Prop) → Prop) : Prop where
  run : ∀ {A : Addr → Prop} {st : Option (Addr × Addr)} {ow : Nat → Option Addr} {σ : L2.St} {H : Hp} {env : Ev} {d : D} {v : V} {Qd : Ev → Prop} {Q : L2.St → Hp → Prop},
  RE K A st ow σ H env → Rep K H (Mo A ow) d v → dg d env Qd → (∀ env' ow' σ', Qd env' → RE K A st ow' σ' H env' → (∀ j a, ow' j = some a → ow j = some a) → (∀ js, (∀ i ∈ is, i ∈ js) → wipe σ' js = wipe σ js ∧ ∀ j, j ∉ js → ow' j = ow j) → Q σ' H) → g v σ H Q
structure RfGs (K : PySem.W.Frag) (is : List Nat) (g : TGs) (dg : List D → Ev → (Ev → Prop) → Prop) : Prop where
  run : ∀ {A : Addr → Prop} {st : Option (Addr × Addr)} {ow : Nat → Option Addr} {σ : L2.St} {H : Hp} {env : Ev} {ds : List D} {vs : List V} {Qd : Ev → Prop} {Q : L2.St → Hp → Prop},
  RE K A st ow σ H env → RepL K H (Mo A ow) ds vs → dg ds env Qd → (∀ env' ow' σ', Qd env' → RE K A st ow' σ' H env' → (∀ j a, ow' j = some a → ow j = some a) → (∀ js, (∀ i ∈ is, i ∈ js) → wipe σ' js = wipe σ js ∧ ∀ j, j ∉ js → ow' j = ow j) → Q σ' H) → g vs σ H Q
def eset (env : Ev) (i : Nat) (e : Option En) : Ev := env.set i e
def owDel (ow : Nat → Option Addr) (i : Nat) : Nat → Option Addr := fun j => if j = i then none else ow j
theorem owDel_sub {ow : Nat → Option Addr} {i j : Nat} {a : Addr} (h : owDel ow i j = some a) : ow j = some a ∧ j ≠ i := by
  unfold owDel at h
  split at h
  · cases h
  · exact ⟨h, by assumption⟩
theorem Mo.sub {A : Addr → Prop} {ow ow' : Nat → Option Addr} (h : ∀ j a, ow' j = some a → ow j = some a) {a : Addr} (m : Mo A ow' a) : Mo A ow a := m.imp id fun ⟨i, e⟩ => ⟨i, h i a e⟩
theorem to_less {H : Hp} {M M' : Addr → Prop} (h : ∀ a, M' a → M a) : To H H M M' := ⟨fun b o e n => ⟨e, fun z => n (h b z)⟩⟩
theorem SR.less {A : Addr → Prop} {st : Option (Addr × Addr)} {ow ow' : Nat → Option Addr} {H : Hp} {i : Nat} {e : En} {v : V} (h : ∀ j a, ow' j = some a → ow j = some a) (hi : ow' i = ow i) (r : SR K A st ow H i e v) : SR K A st ow' H i e v := by
  have t : To H H (Mo A ow) (Mo A ow') := to_less fun a => Mo.sub h
  cases e with
  | d x => exact Rep.to t r
  | own ds =>
    obtain ⟨a, vs, h1, h2, h3, h4⟩ := r
    exact ⟨a, vs, hi.trans h1, h2, h3, RepL.to t h4⟩
  | odk ds =>
    obtain ⟨a, vs, h1, h2, h3, h4⟩ := r
    exact ⟨a, vs, hi.trans h1, h2, h3, RepK.to t h4⟩
  | st => exact r
/-- a slot is written -/
theorem RE.put {A : Addr → Prop} {st : Option (Addr × Addr)} {ow : Nat → Option Addr} {σ : L2.St} {H : Hp} {env : Ev} (R : RE K A st ow σ H env) (i : Nat) {d : D} {v : V} (r : Rep K H (Mo A ow) d v) : RE K A st (owDel ow i) (σ.set i (some v)) H (eset env i (some (.d d))) := by
  have sub : ∀ j a, owDel ow i j = some a → ow j = some a := fun j a h => (owDel_sub h).1
  have t : To H H (Mo A ow) (Mo A (owDel ow i)) := to_less fun a => Mo.sub sub
  refine ⟨R.ls, R.dom, R.sta, fun j a h => R.al j a (sub j a h), fun j a h => R.na j a (sub j a h), fun j k a h1 h2 => R.inj j k a (sub j a h1) (sub k a h2), fun j a h => ?_, by unfold eset; rw [List.length_set, List.length_set]; exact R.len, fun j e he => ?_⟩
  · have hj := (owDel_sub h).2
    unfold eset
    rw [List.getElem?_set_ne fun z => hj z.symm]
    exact R.tie j a (sub j a h)
  unfold eset at he
  by_cases hj : i = j
  · subst hj
    have hl : i < env.length := by
      have := (List.getElem?_eq_some_iff.mp he).1
      rwa [List.length_set] at this
    rw [List.getElem?_set_self hl] at he
    cases he
    exact ⟨v, List.getElem?_set_self (by rw [R.len]; exact hl), Rep.to t r⟩
  · rw [List.getElem?_set_ne hj] at he
    obtain ⟨u, hu, s⟩ := R.sl j e he
    exact ⟨u, by rw [List.getElem?_set_ne hj]; exact hu, s.less sub (by unfold owDel; rw [if_neg (fun z => hj z.symm)])⟩
theorem wipe_get {σ : L2.St} : ∀ {vs : List Nat} {j : Nat}, j ∈ vs → j < σ.length → (wipe σ vs)[j]? = some none
  | v :: vs, j, h, hl => by
    unfold wipe
    by_cases e : v = j
    · subst e
      exact List.getElem?_set_self (by rw [wipe_length]; exact hl)
    · rw [List.getElem?_set_ne e]
      exact wipe_get ((List.mem_cons.mp h).resolve_left fun z => e z.symm) hl
theorem wipe_set {σ : L2.St} {i : Nat} {x : Option V} {js : List Nat} (h : i ∈ js) : wipe (σ.set i x) js = wipe σ js := by
  refine List.ext_getElem? fun j => ?_
  by_cases hj : j < σ.length
  · by_cases hm : j ∈ js
    · rw [wipe_get hm (by rw [List.length_set]; exact hj), wipe_get hm hj]
    · rw [wipe_out hm, wipe_out hm, List.getElem?_set_ne fun (z : i = j) => hm (z ▸ h)]
  · rw [List.getElem?_eq_none (by rw [wipe_length, List.length_set]; omega), List.getElem?_eq_none (by rw [wipe_length]; omega)]
def gN (i : Nat) : D → Ev → (Ev → Prop) → Prop := fun d env Q => Q (eset env i (some (.d d)))
theorem rg_name (i : Nat) : RfG K [i] (gName i) (gN i) := ⟨fun R r q k => k _ _ _ q (R.put i r) (fun j a h => (owDel_sub h).1) fun js h => ⟨wipe_set (h i (by simp)), fun j hj => by unfold owDel; rw [if_neg (fun (z : j = i) => hj (z.symm ▸ h i (by simp)))]⟩⟩
def gNi : List D → Ev → (Ev → Prop) → Prop := fun ds env Q => match ds with | [] => Q env | _ => False
def gCo (g : D → Ev → (Ev → Prop) → Prop) (gs : List D → Ev → (Ev → Prop) → Prop) : List D → Ev → (Ev → Prop) → Prop := fun ds env Q => match ds with | d :: r => g d env fun env1 => gs r env1 Q | [] => False
def gT (n : Nat) (gs : List D → Ev → (Ev → Prop) → Prop) : D → Ev → (Ev → Prop) → Prop := fun d env Q => match d with | .tuple ds => ds.length = n ∧ gs ds env Q | _ => False
theorem rg_nil : RfGs K [] gNil gNi := ⟨fun {A st ow σ H env ds vs Qd Q} R r q k => by
  unfold gNi at q
  split at q
  · cases r
    exact ⟨rfl, k _ _ _ q R (fun _ _ h => h) fun _ _ => ⟨rfl, fun _ _ => rfl⟩⟩
  · exact q.elim⟩
theorem rg_cons {is js : List Nat} {t : TG} {u : TGs} {g : D → Ev → (Ev → Prop) → Prop} {gs : List D → Ev → (Ev → Prop) → Prop} (h : RfG K is t g) (hs : RfGs K js u gs) : RfGs K (is ++ js) (gCons t u) (gCo g gs) := ⟨fun {A st ow σ H env ds vs Qd Q} R r q k => by
  unfold gCo at q
  split at q
  · cases r with | cons r1 r2 =>
    refine ⟨_, _, rfl, h.run R r1 q fun env1 ow1 σ1 q1 R1 sub1 w1 => hs.run R1 (RepL.to (to_less fun a => Mo.sub sub1) r2) q1 fun env2 ow2 σ2 q2 R2 sub2 w2 => k env2 ow2 σ2 q2 R2 (fun j a e => sub1 j a (sub2 j a e)) fun ks hk => ?_⟩
    have a2 := w2 ks fun i hi => hk i (List.mem_append_right _ hi)
    have a1 := w1 ks fun i hi => hk i (List.mem_append_left _ hi)
    exact ⟨a2.1.trans a1.1, fun j hj => (a2.2 j hj).trans (a1.2 j hj)⟩
  · exact q.elim⟩
theorem rg_tup {is : List Nat} {n : Nat} {u : TGs} {gs : List D → Ev → (Ev → Prop) → Prop} (h : RfGs K is u gs) : RfG K is (gTup K n u) (gT n gs) := ⟨fun {A st ow σ H env d v Qd Q} R r q k => by
  unfold gT at q
  split at q
  · cases r with | tup r1 r2 =>
    exact ⟨_, _, rfl, r1.sq, by rw [← r2.len]; exact q.1, h.run R r2 q.2 k⟩
  · exact q.elim⟩
/-! comprehensions -/
def wipeE (env : Ev) : List Nat → Ev
  | [] => env
  | v :: vs => eset (wipeE env vs) v none
theorem wipe_idem {σ : L2.St} {js : List Nat} : wipe (wipe σ js) js = wipe σ js := by
  refine List.ext_getElem? fun j => ?_
  by_cases hj : j < σ.length
  · by_cases hm : j ∈ js
    · rw [wipe_get hm (by rw [wipe_length]; exact hj), wipe_get hm hj]
    · rw [wipe_out hm]
  · rw [List.getElem?_eq_none (by rw [wipe_length, wipe_length]; omega), List.getElem?_eq_none (by rw [wipe_length]; omega)]
theorem RE.wipe1 {A : Addr → Prop} {st : Option (Addr × Addr)} {ow : Nat → Option Addr} {σ : L2.St} {H : Hp} {env : Ev} (R : RE K A st ow σ H env) (i : Nat) (hi : ow i = none) : RE K A st ow (σ.set i none) H (eset env i none) := by
  refine ⟨R.ls, R.dom, R.sta, R.al, R.na, R.inj, fun j a h => ?_, by unfold eset; rw [List.length_set, List.length_set]; exact R.len, fun j e he => ?_⟩
  · have hj : i ≠ j := fun z => by subst z; rw [hi] at h; cases h
    unfold eset
    rw [List.getElem?_set_ne hj]
    exact R.tie j a h
  unfold eset at he
  by_cases hj : i = j
  · subst hj
    have hl : i < env.length := by
      have := (List.getElem?_eq_some_iff.mp he).1
      rwa [List.length_set] at this
    rw [List.getElem?_set_self hl] at he
    cases he
  · rw [List.getElem?_set_ne hj] at he
    obtain ⟨u, hu, s⟩ := R.sl j e he
    exact ⟨u, by rw [List.getElem?_set_ne hj]; exact hu, s⟩
theorem RE.wipes {A : Addr → Prop} {st : Option (Addr × Addr)} {ow : Nat → Option Addr} {σ : L2.St} {H : Hp} {env : Ev} (R : RE K A st ow σ H env) : ∀ vs : List Nat, (∀ i ∈ vs, ow i = none) → RE K A st ow (wipe σ vs) H (wipeE env vs)
  | [], _ => R
  | v :: vs, h => (R.wipes vs fun i hi => h i (List.mem_cons_of_mem _ hi)).wipe1 v (h v List.mem_cons_self)
theorem RE.noOwn {A : Addr → Prop} {st : Option (Addr × Addr)} {ow : Nat → Option Addr} {σ : L2.St} {H : Hp} {env : Ev} (R : RE K A st ow σ H env) {vs : List Nat} (h : noOwn vs env = true) : ∀ i ∈ vs, ow i = none := fun i hi => by
  cases e : ow i with
  | none => rfl
  | some a =>
    unfold Toy.noOwn at h
    rw [List.all_eq_true] at h
    have h1 := h i hi
    unfold isOwn at h1
    rcases R.tie i a e with ⟨ds, z⟩ | ⟨ds, z⟩
    · rw [some_eget z] at h1; cases h1
    · rw [some_eget z] at h1; cases h1
def lcD (g : D → Ev → (Ev → Prop) → Prop) (c : Ev → (Bool → Prop) → Prop) (e : Ev → (D → Prop) → Prop) : List D → Ev → (List D → Prop) → Prop
  | [], _, Q => Q []
  | d :: r, env, Q => g d env fun env1 => c env1 fun b => if b = true then e env1 fun x => lcD g c e r env fun xs => Q (x :: xs) else lcD g c e r env Q
/-- at most 100000 turns, said ahead -/
def dLc (vs : List Nat) (di : Ev → (List D → Prop) → Prop) (g : D → Ev → (Ev → Prop) → Prop) (c : Ev → (Bool → Prop) → Prop) (e : Ev → (D → Prop) → Prop) : Ev → (List D → Prop) → Prop :=
  fun env Q => noOwn vs env = true ∧ di env fun ds => ds.length ≤ 100000 ∧ lcD g c e ds (wipeE env vs) Q
theorem drop_get {α : Type} {xs : List α} {i : Nat} {x : α} (h : xs[i]? = some x) : xs.drop i = x :: xs.drop (i + 1) := by
  obtain ⟨h1, h2⟩ := List.getElem?_eq_some_iff.mp h
  rw [← h2]
  exact List.drop_eq_getElem_cons h1
theorem rf_lc {vs is : List Nat} {wi : TI} {tg : TG} {tt : TT} {te : TE} {di : Ev → (List D → Prop) → Prop} {g : D → Ev → (Ev → Prop) → Prop} {c : Ev → (Bool → Prop) → Prop} {e : Ev → (D → Prop) → Prop}
    (hi : RfI K wi di) (hg : RfG K is tg g) (hc : RfT K tt c) (he : RfE K te e) (his : ∀ i ∈ is, i ∈ vs := by decide) : RfF K (tLc wi tg tt te vs) (dLc vs di g c e) := ⟨fun {A st ow σ H env Qd Q} R q0 k =>
  hi.run R q0.2 fun ds J H1 ⟨hl, q1⟩ s1 J1 L hL => by
    have hno := R.noOwn q0.1
    have R1 := R.step s1
    have nM := R1.newM hL
    let A' : Addr → Prop := fun a => A a ∨ a = L
    have toA : ∀ {H' : Hp}, To H1 (upd H1 L (.lst [])) (Mo A ow) (Mo A' ow) := new_to hL fun a z => by
      rcases z with (z | z) | z
      · exact .inl (.inl z)
      · exact .inr z
      · exact .inl (.inr z)
    have bk : ∀ a, Mo A' ow a → Mo A ow a ∨ a = L := fun a z => by
      rcases z with (z | z) | z
      · exact .inl (.inl z)
      · exact .inr z
      · exact .inl (.inr z)
    have fw : ∀ a, Mo A ow a → Mo A' ow a := fun a z => z.elim (fun z => .inl (.inl z)) .inr
    have fwL : Mo A' ow L := .inl (.inr rfl)
    -- the turns
    refine ⟨fun i m H' => m = ds.length - i ∧ i ≤ ds.length ∧ ∃ acc xs, H' L = some (.lst xs) ∧ xs.length ≤ i ∧ RepL K H' (Mo A' ow) acc xs ∧ RE K A' st ow (wipe σ vs) H' (wipeE env vs) ∧ Keep (exs st) H H' ∧ To H1 H' (Mo A ow) (Mo A' ow) ∧ LSo st H' ∧
      lcD g c e (ds.drop i) (wipeE env vs) (fun r => Qd (acc ++ r)), ⟨_, rfl, Nat.zero_le _, [], [], upd_same, Nat.zero_le _, .nil, ?_, ?_, toA (H' := H1), ?_, ?_⟩, ?_⟩
    · have RR := (R1.wipes vs hno)
      have S1 : Stp st H1 (upd H1 L (.lst [])) := R1.new hL
      have RS := RR.step S1
      refine ⟨RS.ls, fun a z => ?_, fun z e => ⟨.inl (RS.sta z e).1, .inl (RS.sta z e).2⟩, RS.al, fun j a e z => ?_, RS.inj, RS.tie, RS.len, fun j e' he' => ?_⟩
      · rcases z with z | rfl
        · exact RS.dom a z
        · rw [upd_same]; intro z; cases z
      · rcases z with z | rfl
        · exact RS.na j a e z
        · exact R1.al j _ e hL
      · obtain ⟨v, hv, r⟩ := RR.sl j e' he'
        refine ⟨v, hv, ?_⟩
        have t : To H1 (upd H1 L (.lst [])) (Mo A ow) (Mo A' ow) := toA (H' := H1)
        cases e' with
        | d x => exact Rep.to t r
        | own ds =>
          obtain ⟨a, vs, h1, h2, h3, h4⟩ := r
          exact ⟨a, vs, h1, h2, same_upd hL _ _ h3, RepL.to t h4⟩
        | odk ds =>
          obtain ⟨a, vs, h1, h2, h3, h4⟩ := r
          exact ⟨a, vs, h1, h2, same_upd hL _ _ h3, RepK.to t h4⟩
        | st => exact r
    · exact s1.k.trans fun b o z n => same_upd hL b o z
    · exact s1.l.same (same_upd hL)
    · exact q1
    · rintro i m H' ⟨rfl, hi, acc, xs, hx, hxl, rx, RR, kk, tt', ll, qq⟩
      have al : ∀ a, Mo A' ow a → H' a ≠ none := fun a z => RR.alM z
      by_cases hlt : i < ds.length
      · have eD : ds[i]? = some ds[i] := List.getElem?_eq_getElem hlt
        rw [drop_get eD] at qq
        obtain ⟨go, yl⟩ := (J1 (Mo A' ow) H' tt' al i).2 _ eD
        refine .inr ⟨go, fun H2 => ∃ acc xs, H2 L = some (.lst xs) ∧ xs.length ≤ i + 1 ∧ RepL K H2 (Mo A' ow) acc xs ∧ RE K A' st ow (wipe σ vs) H2 (wipeE env vs) ∧ Keep (exs st) H H2 ∧ To H1 H2 (Mo A ow) (Mo A' ow) ∧ LSo st H2 ∧
          lcD g c e (ds.drop (i + 1)) (wipeE env vs) (fun r => Qd (acc ++ r)), fun H2 z => ⟨_, by omega, rfl, hlt, z⟩, fun x H2 y => ?_⟩
        obtain ⟨sm, rx1⟩ := yl x H2 y
        have S2 : Stp st H' H2 := .same ll sm
        have RR2 := RR.step S2
        refine hg.run RR2 rx1 qq fun env3 ow3 σ3 q3 R3 sub3 w3 => ⟨(w3 vs his).1.trans wipe_idem, ?_⟩
        have eo : ow = ow3 := funext fun j => by
          by_cases hj : j ∈ vs
          · cases e : ow3 j with
            | none => exact hno j hj
            | some a => exact sub3 j a e
          · exact ((w3 vs his).2 j hj).symm
        subst eo
        refine hc.run R3 q3 fun b H4 q4 s4 => ?_
        have R4 := R3.step s4
        have L4 : H4 L = some (.lst xs) := s4.k L _ (sm L _ hx) fun z => by
          obtain ⟨z1, e1, z2⟩ := exs_mem z
          have w := RR.sta z1 e1
          obtain ⟨kk', ns, l1, l2, l3⟩ := R1.ls z1 e1
          rcases z2 with z2 | z2
          · rw [z2, l1] at hL; cases hL
          · rw [z2, l2] at hL; cases hL
        have exL : ∀ a ∈ exs st, a ≠ L := fun a z e' => by
          subst e'
          exact R1.ls.ne _ z hL
        have S4 : Stp st H' H4 := ⟨S2.k.trans s4.k, s4.l⟩
        have RR4 := RR.step S4
        have t4 : To H' H4 (Mo A' ow) (Mo A' ow) := RR.toS S4
        have kH4 : Keep (exs st) H H4 := kk.trans S4.k
        have tH4 : To H1 H4 (Mo A ow) (Mo A' ow) := tt'.trans t4
        cases b with
        | false =>
          rw [if_neg Bool.false_ne_true] at q4 ⊢
          exact ⟨acc, xs, L4, Nat.le_succ_of_le hxl, RepL.to t4 rx, RR4, kH4, tH4, s4.l, q4⟩
        | true =>
          rw [if_pos rfl] at q4 ⊢
          refine he.run R4 q4 fun d v H5 q5 s5 r5 => ?_
          have L5 : H5 L = some (.lst xs) := s5.k L _ L4 fun z => exL L z rfl
          have S5 : Stp st H' H5 := ⟨S4.k.trans s5.k, s5.l⟩
          have RR5 := RR.step S5
          have t5 : To H' H5 (Mo A' ow) (Mo A' ow) := RR.toS S5
          have len5 : xs.length < sizeLine := Nat.lt_of_le_of_lt hxl (Nat.lt_of_lt_of_le hlt (Nat.le_trans hl (by decide)))
          have nL5 : ∀ {b : Addr} {o : HO}, H5 b = some o → ¬ Mo A' ow b → b ≠ L := fun _ n z => n (z ▸ fwL)
          have t6 : To H5 (upd H5 L (.lst (xs ++ [v]))) (Mo A' ow) (Mo A' ow) := ⟨fun b o e' n => ⟨by rw [upd_ne (nL5 e' n)]; exact e', n⟩⟩
          have l6 : LSo st (upd H5 L (.lst (xs ++ [v]))) := fun z e' => by
            obtain ⟨kk', ns, l1, l2, l3⟩ := s5.l z e'
            have m1 : z.1 ≠ L := exL _ (by subst e'; simp [exs])
            have m2 : z.2 ≠ L := exL _ (by subst e'; simp [exs])
            exact ⟨kk', ns, by rw [upd_ne m1]; exact l1, by rw [upd_ne m2]; exact l2, l3⟩
          have k6 : Keep [L] H5 (upd H5 L (.lst (xs ++ [v]))) := fun b o e' n => by
            rw [upd_ne (fun z => n (by rw [z]; simp))]
            exact e'
          refine ⟨xs, L5, len5, acc ++ [d], xs ++ [v], upd_same, by rw [List.length_append]; exact Nat.succ_le_succ hxl, RepL.to t6 ((RepL.to t5 rx).snoc r5), ?_, fun b o e' n => ?_, (tt'.trans t5).trans t6, l6, ?_⟩
          · refine RR5.keep (ex := [L]) (fun a ha => .inr (by simpa using ha)) k6 l6 fun a ha => ?_
            have : a = L := by simpa using ha
            subst this
            rw [upd_same]; intro z; cases z
          · rw [upd_ne (fun z => by rw [z, s1.none hL] at e'; cases e')]
            exact S5.k b o (kk b o e' n) n
          · have : (fun r => Qd (acc ++ [d] ++ r)) = fun r => Qd (acc ++ (d :: r)) := funext fun r => by rw [List.append_assoc]; rfl
            rw [this]
            exact q5
      · have e' : i = ds.length := by omega
        subst e'
        rw [List.drop_length] at qq
        refine .inl ⟨(J1 (Mo A' ow) H' tt' al _).1 rfl, ?_⟩
        have q9 : Qd (acc ++ []) := qq
        rw [List.append_nil] at q9
        exact k acc L xs H' q9 ⟨kk, ll⟩ (s1.none hL) hx (RepL.to (to_less fun a z => z.elim (fw a) fun y => y ▸ fwL) rx)⟩
end
/-! statements -/
structure Dd where
  nx : Ev → Prop
  rt : D → Prop
  bk : Ev → Prop := fun _ => False
  ct : Ev → Prop := fun _ => False
structure BE (K : PySem.W.Frag) (A : Addr → Prop) (st : Option (Addr × Addr)) (H0 : Hp) (ow : Nat → Option Addr) (σ : L2.St) (H : Hp) (env : Ev) : Prop where
  r : RE K A st ow σ H env
  kp : Keep (exs st) H0 H
  fr : ∀ i a, ow i = some a → H0 a = none
structure EOk (K : PySem.W.Frag) (A : Addr → Prop) (st : Option (Addr × Addr)) (H0 : Hp) (ow : Nat → Option Addr) (H : Hp) (Ed : Dd) (E : Ends) : Prop where
  nx : ∀ env' ow' σ' H', Ed.nx env' → BE K A st H0 ow' σ' H' env' → To H H' (Mo A ow) (Mo A ow') → E.nx σ' H'
  rt : ∀ d v H', Ed.rt d → Stp st H0 H' → Rep K H' A d v → E.rt v H'
  bk : ∀ env' ow' σ' H', Ed.bk env' → BE K A st H0 ow' σ' H' env' → To H H' (Mo A ow) (Mo A ow') → E.bk σ' H'
  ct : ∀ env' ow' σ' H', Ed.ct env' → BE K A st H0 ow' σ' H' env' → To H H' (Mo A ow) (Mo A ow') → E.ct σ' H'
abbrev DS := Dd → Ev → Prop
structure RfS (K : PySem.W.Frag) (t : TS) (ds : DS) : Prop where
  run : ∀ {A : Addr → Prop} {st : Option (Addr × Addr)} {H0 : Hp} {ow : Nat → Option Addr} {σ : L2.St} {H : Hp} {env : Ev} {Ed : Dd} {E : Ends},
  BE K A st H0 ow σ H env → ds Ed env → EOk K A st H0 ow H Ed E → t E σ H
section
variable {K : PySem.W.Frag}
section
variable {A : Addr → Prop} {st : Option (Addr × Addr)} {H0 H H' : Hp} {ow ow' : Nat → Option Addr} {σ : L2.St} {env : Ev} {Ed : Dd} {E : Ends}
theorem EOk.to (k : EOk K A st H0 ow H Ed E) (t : To H H' (Mo A ow) (Mo A ow')) : EOk K A st H0 ow' H' Ed E :=   ⟨fun env' ow' σ' H' q b t2 => k.nx env' ow' σ' H' q b (t.trans t2), k.rt, fun env' ow' σ' H' q b t2 => k.bk env' ow' σ' H' q b (t.trans t2), fun env' ow' σ' H' q b t2 => k.ct env' ow' σ' H' q b (t.trans t2)⟩
theorem BE.step (B : BE K A st H0 ow σ H env) (s : Stp st H H') : BE K A st H0 ow σ H' env := ⟨B.r.step s, B.kp.trans s.k, B.fr⟩
theorem to_del (H : Hp) (A : Addr → Prop) (ow : Nat → Option Addr) (i : Nat) : To H H (Mo A ow) (Mo A (owDel ow i)) := to_less fun b => Mo.sub fun j a h => (owDel_sub h).1
theorem BE.put (B : BE K A st H0 ow σ H env) (i : Nat) {d : D} {v : V} (r : Rep K H (Mo A ow) d v) : BE K A st H0 (owDel ow i) (σ.set i (some v)) H (eset env i (some (.d d))) :=   ⟨B.r.put i r, B.kp, fun j a h => B.fr j a (owDel_sub h).1⟩
end
def dNext : DS := fun Ed env => Ed.nx env
def dSeq (a b : DS) : DS := fun Ed env => a { Ed with nx := b Ed } env
def dRet (de : Ev → (D → Prop) → Prop) : DS := fun Ed env => de env Ed.rt
def dRetN : DS := fun Ed _ => Ed.rt .none
def dIf (c : Ev → (Bool → Prop) → Prop) (a b : DS) : DS := fun Ed env => c env fun k => if k = true then a Ed env else b Ed env
def dAsg (de : Ev → (D → Prop) → Prop) (g : D → Ev → (Ev → Prop) → Prop) : DS := fun Ed env => de env fun x => g x env Ed.nx
def dDrop (de : Ev → (D → Prop) → Prop) : DS := fun Ed env => de env fun _ => Ed.nx env
def dBreak : DS := fun Ed env => Ed.bk env
def dCont : DS := fun Ed env => Ed.ct env
theorem rs_next : RfS K tNext dNext := ⟨fun B q k => k.nx _ _ _ _ q B (To.refl _ _)⟩
theorem rs_break : RfS K tBreak dBreak := ⟨fun B q k => k.bk _ _ _ _ q B (To.refl _ _)⟩
theorem rs_cont : RfS K tCont dCont := ⟨fun B q k => k.ct _ _ _ _ q B (To.refl _ _)⟩
theorem rs_seq {t u : TS} {a b : DS} (h1 : RfS K t a) (h2 : RfS K u b) : RfS K (tSeq t u) (dSeq a b) := ⟨fun B q k =>
  h1.run B q ⟨fun env' ow' σ' H' q' b' t' => h2.run b' q' (k.to t'), k.rt, k.bk, k.ct⟩⟩
theorem rs_ret {t : TE} {de : Ev → (D → Prop) → Prop} (h : RfE K t de) : RfS K (tRet t) (dRet de) := ⟨fun B q k => h.run B.r q fun d v H' q' s r => k.rt d v H' q' ⟨B.kp.trans s.k, s.l⟩ (Rep.to (to_less fun _ z => .inl z) r)⟩
theorem rs_retN : RfS K tRetN dRetN := ⟨fun B q k => k.rt _ _ _ q ⟨B.kp, B.r.ls⟩ .non⟩
theorem rs_if {c : TT} {t u : TS} {dc : Ev → (Bool → Prop) → Prop} {a b : DS} (hc : RfT K c dc) (h1 : RfS K t a) (h2 : RfS K u b) : RfS K (tIfS c t u) (dIf dc a b) := ⟨fun B q k => hc.run B.r q fun c H1 q1 s1 => by
  have k1 := k.to (B.r.toS s1)
  cases c with
  | true =>
    rw [if_pos rfl] at q1 ⊢
    exact h1.run (B.step s1) q1 k1
  | false =>
    rw [if_neg Bool.false_ne_true] at q1 ⊢
    exact h2.run (B.step s1) q1 k1⟩
theorem rs_drop {t : TE} {de : Ev → (D → Prop) → Prop} (h : RfE K t de) : RfS K (tDrop t) (dDrop de) := ⟨fun B q k => h.run B.r q fun d v H' q' s r => k.nx _ _ _ _ q' (B.step s) (B.r.toS s)⟩
theorem rs_asg {is : List Nat} {t : TE} {g : TG} {de : Ev → (D → Prop) → Prop} {dg : D → Ev → (Ev → Prop) → Prop} (h : RfE K t de) (hg : RfG K is g dg) : RfS K (tAsg t g) (dAsg de dg) := ⟨fun B q k => h.run B.r q fun d v H' q' s r =>
  hg.run (B.r.step s) r q' fun env' ow' σ' q2 R2 sub _ => k.nx _ _ _ _ q2 ⟨R2, (B.step s).kp, fun j a e => B.fr j a (sub j a e)⟩ ((B.r.toS s).trans (to_less fun a => Mo.sub sub))⟩
/-! a slot that owns a list -/
def owPut (ow : Nat → Option Addr) (i : Nat) (a : Addr) : Nat → Option Addr := fun j => if j = i then some a else ow j
theorem owPut_sub {A : Addr → Prop} {ow : Nat → Option Addr} {i : Nat} {L : Addr} {b : Addr} (m : Mo A (owPut ow i L) b) : Mo A ow b ∨ b = L := by
  rcases m with m | ⟨j, m⟩
  · exact .inl (.inl m)
  · unfold owPut at m
    split at m
    · cases m; exact .inr rfl
    · exact .inl (.inr ⟨j, m⟩)
theorem own_to {A : Addr → Prop} {st : Option (Addr × Addr)} {ow : Nat → Option Addr} {σ : L2.St} {H H' : Hp} {env : Ev} (R : RE K A st ow σ H env) (s : Stp st H H') (i : Nat) {L : Addr} (n : H L = none) : To H H' (Mo A ow) (Mo A (owPut ow i L)) :=   ⟨fun b o e m => ⟨((R.toS s).h b o e m).1, fun z => (owPut_sub z).elim m fun y => by rw [y, n] at e; cases e⟩⟩
theorem RE.own {A : Addr → Prop} {st : Option (Addr × Addr)} {ow : Nat → Option Addr} {σ : L2.St} {H H' : Hp} {env : Ev} (R : RE K A st ow σ H env) (s : Stp st H H') (i : Nat) {L : Addr} {o : HO} (n : H L = none) (hL : H' L = some o) {en : En}
    (hen : SR K A st (owPut ow i L) H' i en (.ref L)) (he : (∃ ds, en = .own ds) ∨ ∃ ds, en = .odk ds) (hi : i < env.length) : RE K A st (owPut ow i L) (σ.set i (some (.ref L))) H' (eset env i (some en)) := by
  have R' := R.step s
  have t := own_to R s i n
  refine ⟨R'.ls, R'.dom, R'.sta, fun j a h => ?_, fun j a h => ?_, fun j k a h1 h2 => ?_, fun j a h => ?_, by unfold eset; rw [List.length_set, List.length_set]; exact R.len, fun j e he => ?_⟩
  · unfold owPut at h
    split at h
    · cases h; rw [hL]; intro z; cases z
    · exact R'.al j a h
  · unfold owPut at h
    split at h
    · cases h; exact fun z => R.dom _ z n
    · exact R'.na j a h
  · unfold owPut at h1 h2
    split at h1 <;> split at h2
    · simp_all
    · cases h1; exact absurd n (R.al k _ h2)
    · cases h2; exact absurd n (R.al j _ h1)
    · exact R.inj j k a h1 h2
  · unfold owPut at h
    unfold eset
    split at h
    · rename_i hj
      subst hj
      rw [List.getElem?_set_self hi]
      rcases he with ⟨ds, rfl⟩ | ⟨ds, rfl⟩
      · exact .inl ⟨ds, rfl⟩
      · exact .inr ⟨ds, rfl⟩
    · rename_i hj
      rw [List.getElem?_set_ne fun z => hj z.symm]
      exact R.tie j a h
  · unfold eset at he
    by_cases hj : i = j
    · subst hj
      rw [List.getElem?_set_self hi] at he
      cases he
      exact ⟨_, List.getElem?_set_self (by rw [R.len]; exact hi), hen⟩
    · rw [List.getElem?_set_ne hj] at he
      obtain ⟨u, hu, r⟩ := R.sl j e he
      refine ⟨u, by rw [List.getElem?_set_ne hj]; exact hu, ?_⟩
      have oj : owPut ow i L j = ow j := by unfold owPut; rw [if_neg fun z => hj z.symm]
      cases e with
      | d x => exact Rep.to t r
      | own ds =>
        obtain ⟨a, vs, h1, h2, h3, h4⟩ := r
        exact ⟨a, vs, oj.trans h1, h2, s.k a _ h3 fun z => R.na j a h1 (R.exA a z), RepL.to t h4⟩
      | odk ds =>
        obtain ⟨a, vs, h1, h2, h3, h4⟩ := r
        exact ⟨a, vs, oj.trans h1, h2, s.k a _ h3 fun z => R.na j a h1 (R.exA a z), RepK.to t h4⟩
      | st => exact r
/-- x = a new list -/
def dOwn (i : Nat) (df : Ev → (List D → Prop) → Prop) : DS := fun Ed env => df env fun ds => i < env.length ∧ Ed.nx (eset env i (some (.own ds)))
theorem rs_own (i : Nat) {t : TE} {df : Ev → (List D → Prop) → Prop} (h : RfF K t df) : RfS K (tAsg t (gName i)) (dOwn i df) := ⟨fun {A st H0 ow σ H env Ed E} B q k => h.run B.r q fun ds L vs H' ⟨hi, q'⟩ s n e r => by
  have t := own_to B.r s i n
  refine k.nx _ _ _ _ q' ⟨B.r.own s i n e (en := .own ds) ⟨L, vs, by unfold owPut; rw [if_pos rfl], rfl, e, RepL.to (to_less fun b z => owPut_sub z) r⟩ (.inl ⟨ds, rfl⟩) hi, B.kp.trans s.k, fun j a h => ?_⟩ t
  unfold owPut at h
  split at h
  · cases h
    cases z : H0 L with
    | none => rfl
    | some o =>
      by_cases hx : L ∈ exs st
      · exact absurd n (B.r.ls.ne L hx)
      · rw [B.kp L o z hx] at n; cases n
  · exact B.fr j a h⟩
/-- what a slot owns becomes another thing of its kind -/
theorem BE.mut {A : Addr → Prop} {st : Option (Addr × Addr)} {H0 H : Hp} {ow : Nat → Option Addr} {σ : L2.St} {env : Ev} (B : BE K A st H0 ow σ H env) (i : Nat) {L : Addr} {o o' : HO} (hi : ow i = some L) (hL : H L = some o) (hs : σ[i]? = some (some (.ref L))) {en : En}
    (hen : SR K A st ow (upd H L o') i en (.ref L)) (he : (∃ ds, en = .own ds) ∨ ∃ ds, en = .odk ds) : BE K A st H0 ow σ (upd H L o') (eset env i (some en)) ∧ To H (upd H L o') (Mo A ow) (Mo A ow) := by
  have R := B.r
  have mL : Mo A ow L := .inr ⟨i, hi⟩
  have t : To H (upd H L o') (Mo A ow) (Mo A ow) := ⟨fun b x e n => ⟨by rw [upd_ne (fun (z : b = L) => n (z ▸ mL))]; exact e, n⟩⟩
  have exL : ∀ a ∈ exs st, a ≠ L := fun a z e => R.na i L hi (e ▸ R.exA a z)
  have nn : ∀ {a : Addr}, H a ≠ none → upd H L o' a ≠ none := fun {a} h => by
    by_cases e : a = L
    · subst e; rw [upd_same]; intro z; cases z
    · rw [upd_ne e]; exact h
  refine ⟨⟨⟨fun z e => ?_, fun a z => nn (R.dom a z), R.sta, fun j a e => nn (R.al j a e), R.na, R.inj, fun j a e => ?_, by unfold eset; rw [List.length_set]; exact R.len, fun j e he' => ?_⟩, fun b x e n => ?_, B.fr⟩, t⟩
  · obtain ⟨kk, ns, l1, l2, l3⟩ := R.ls z e
    have m1 : z.1 ≠ L := exL _ (by subst e; simp [exs])
    have m2 : z.2 ≠ L := exL _ (by subst e; simp [exs])
    exact ⟨kk, ns, by rw [upd_ne m1]; exact l1, by rw [upd_ne m2]; exact l2, l3⟩
  · unfold eset
    by_cases hj : i = j
    · subst hj
      have hl : i < env.length := by rw [← R.len]; exact (List.getElem?_eq_some_iff.mp hs).1
      rw [List.getElem?_set_self hl]
      rcases he with ⟨ds, rfl⟩ | ⟨ds, rfl⟩
      · exact .inl ⟨ds, rfl⟩
      · exact .inr ⟨ds, rfl⟩
    · rw [List.getElem?_set_ne hj]
      exact R.tie j a e
  · unfold eset at he'
    by_cases hj : i = j
    · subst hj
      have hl : i < env.length := by rw [← R.len]; exact (List.getElem?_eq_some_iff.mp hs).1
      rw [List.getElem?_set_self hl] at he'
      cases he'
      exact ⟨_, hs, hen⟩
    · rw [List.getElem?_set_ne hj] at he'
      obtain ⟨u, hu, r⟩ := R.sl j e he'
      refine ⟨u, hu, ?_⟩
      cases e with
      | d x => exact Rep.to t r
      | own ds =>
        obtain ⟨a, vs, h1, h2, h3, h4⟩ := r
        exact ⟨a, vs, h1, h2, by rw [upd_ne (fun (z : a = L) => hj (R.inj i j L hi (z ▸ h1)))]; exact h3, RepL.to t h4⟩
      | odk ds =>
        obtain ⟨a, vs, h1, h2, h3, h4⟩ := r
        exact ⟨a, vs, h1, h2, by rw [upd_ne (fun (z : a = L) => hj (R.inj i j L hi (z ▸ h1)))]; exact h3, RepK.to t h4⟩
      | st => exact r
  · have : b ≠ L := fun z => by rw [z, B.fr i L hi] at e; cases e
    rw [upd_ne this]
    exact B.kp b x e n
/-- x.append(e) -/
def dApp (i : Nat) (de : Ev → (D → Prop) → Prop) : DS := fun Ed env => match eget env i with
  | some (.own ds) => de env fun x => ds.length ≤ 100000 ∧ Ed.nx (eset env i (some (.own (ds ++ [x]))))
  | _ => False
theorem rs_app (i : Nat) {te : TE} {de : Ev → (D → Prop) → Prop} (h : RfE K te de) : RfS K (tDrop (tBM K "list" rAppend (tVar i) (tCons te tNil))) (dApp i de) := ⟨fun {A st H0 ow σ H env Ed E} B q k => by
  unfold dApp at q
  split at q
  · rename_i ds e
    obtain ⟨v, hv, L, vs, h1, rfl, h3, h4⟩ := B.r.sl i _ (eget_some e)
    refine ⟨_, hv, .inl ⟨rfl, vs, SqL.of h3⟩, h.run B.r q fun d v H' ⟨hl, q'⟩ s r => ?_⟩
    have B1 := B.step s
    have h3' : H' L = some (.lst vs) := s.k L _ h3 fun z => B.r.na i L h1 (B.r.exA L z)
    refine ⟨L, vs, v, rfl, rfl, h3', Nat.lt_of_le_of_lt (by rw [← h4.len]; exact hl) (by decide), ?_⟩
    have mL : Mo A ow L := .inr ⟨i, h1⟩
    have t : To H' (upd H' L (.lst (vs ++ [v]))) (Mo A ow) (Mo A ow) := ⟨fun b x e n => ⟨by rw [upd_ne (fun (z : b = L) => n (z ▸ mL))]; exact e, n⟩⟩
    have := B1.mut i (o' := .lst (vs ++ [v])) h1 h3' hv (en := .own (ds ++ [d])) ⟨L, _, h1, rfl, upd_same, RepL.to t ((RepL.to (B.r.toS s) h4).snoc r)⟩ (.inl ⟨_, rfl⟩)
    exact k.nx _ _ _ _ q' this.1 ((B.r.toS s).trans this.2)
  · exact q.elim⟩
/-- x[i] = e -/
def dSetIx (i : Nat) (de di : Ev → (D → Prop) → Prop) : DS := fun Ed env => de env fun x => match eget env i with
  | some (.own ds) => di env fun y => (match y with | .int k => ∃ j, ixN ds.length k = some j ∧ Ed.nx (eset env i (some (.own (ds.set j x)))) | _ => False)
  | _ => False
theorem rs_setIx (i : Nat) {te ti : TE} {de di : Ev → (D → Prop) → Prop} (h : RfE K te de) (hi : RfE K ti di) : RfS K (tAsg te (gSub (tVar i) ti rSetL)) (dSetIx i de di) := ⟨fun {A st H0 ow σ H env Ed E} B q k => h.run B.r q fun d v H1 q1 s1 r1 => by
  have B1 := B.step s1
  split at q1
  · rename_i ds e
    obtain ⟨w, hw, L, vs, h1, rfl, h3, h4⟩ := B1.r.sl i _ (eget_some e)
    refine ⟨_, hw, hi.run B1.r q1 fun y u H2 q2 s2 r2 => ?_⟩
    have B2 := B1.step s2
    have h3' : H2 L = some (.lst vs) := s2.k L _ h3 fun z => B1.r.na i L h1 (B1.r.exA L z)
    split at q2
    · cases r2
      obtain ⟨j, ej, q3⟩ := q2
      refine ⟨L, vs, _, j, rfl, rfl, h3', by rw [← h4.len]; exact ej, ?_⟩
      have mL : Mo A ow L := .inr ⟨i, h1⟩
      have t : To H2 (upd H2 L (.lst (vs.set j v))) (Mo A ow) (Mo A ow) := ⟨fun b x e n => ⟨by rw [upd_ne (fun (z : b = L) => n (z ▸ mL))]; exact e, n⟩⟩
      have := B2.mut i (o' := .lst (vs.set j v)) h1 h3' hw (en := .own (ds.set j d)) ⟨L, _, h1, rfl, upd_same, RepL.to t ((RepL.to (B1.r.toS s2) h4).set j (Rep.to (B1.r.toS s2) r1))⟩ (.inl ⟨_, rfl⟩)
      exact k.nx _ _ _ _ q3 this.1 (((B.r.toS s1).trans (B1.r.toS s2)).trans this.2)
    · exact q2.elim
  · exact q1.elim⟩
/-- what a slot owns is not changed any more -/
def frz (env : Ev) (i : Nat) : Ev := match eget env i with
  | some (.own ds) => eset env i (some (.d (.list ds)))
  | some (.odk ds) => eset env i (some (.d (.dict ds)))
  | _ => env
def dFrz (i : Nat) (a : DS) : DS := fun Ed env => a Ed (frz env i)
theorem set_self {α : Type} {xs : List α} {i : Nat} {x : α} (h : xs[i]? = some x) : xs.set i x = xs := by
  refine List.ext_getElem? fun j => ?_
  by_cases e : i = j
  · subst e
    rw [List.getElem?_set_self (List.getElem?_eq_some_iff.mp h).1, h]
  · rw [List.getElem?_set_ne e]
theorem rs_frz (i : Nat) {t : TS} {a : DS} (h : RfS K t a) : RfS K t (dFrz i a) := ⟨fun {A st H0 ow σ H env Ed E} B q k => by
  have less : To H H (Mo A ow) (Mo A (owDel ow i)) := to_less fun b => Mo.sub fun j a e => (owDel_sub e).1
  have nm : ∀ L, ow i = some L → ¬ Mo A (owDel ow i) L := fun L e z => by
    rcases z with z | ⟨j, z⟩
    · exact B.r.na i L e z
    · obtain ⟨z1, z2⟩ := owDel_sub z
      exact z2 (B.r.inj j i L z1 e)
  have put : ∀ d v, Rep K H (Mo A (owDel ow i)) d v → σ[i]? = some (some v) → BE K A st H0 (owDel ow i) σ H (eset env i (some (.d d))) := fun d v r hv => by
    have R := B.r
    have sub : ∀ j a, owDel ow i j = some a → ow j = some a := fun j a e => (owDel_sub e).1
    refine ⟨⟨R.ls, R.dom, R.sta, fun j a e => R.al j a (sub j a e), fun j a e => R.na j a (sub j a e), fun j k a h1 h2 => R.inj j k a (sub j a h1) (sub k a h2), fun j a h => ?_, by unfold eset; rw [List.length_set]; exact R.len, fun j e he => ?_⟩, B.kp, fun j a h => B.fr j a (sub j a h)⟩
    · have hj := (owDel_sub h).2
      unfold eset
      rw [List.getElem?_set_ne fun z => hj z.symm]
      exact R.tie j a (sub j a h)
    unfold eset at he
    by_cases hj : i = j
    · subst hj
      have hl : i < env.length := by rw [← R.len]; exact (List.getElem?_eq_some_iff.mp hv).1
      rw [List.getElem?_set_self hl] at he
      cases he
      exact ⟨v, hv, r⟩
    · rw [List.getElem?_set_ne hj] at he
      obtain ⟨u, hu, s⟩ := R.sl j e he
      exact ⟨u, hu, s.less sub (by unfold owDel; rw [if_neg (fun z => hj z.symm)])⟩
  unfold dFrz frz at q
  split at q
  · rename_i ds e
    obtain ⟨v, hv, L, vs, h1, rfl, h3, h4⟩ := B.r.sl i _ (eget_some e)
    exact h.run (put _ _ (.lst h3 (nm L h1) (RepL.to less h4)) hv) q (k.to less)
  · rename_i ds e
    obtain ⟨v, hv, L, vs, h1, rfl, h3, h4⟩ := B.r.sl i _ (eget_some e)
    exact h.run (put _ _ (.dct h3 (nm L h1) (RepK.to less h4)) hv) q (k.to less)
  · exact h.run B q k⟩
/-! two names at once -/
def dPar (i j : Nat) (da : Ev → (List D → Prop) → Prop) : DS := fun Ed env => da env fun xs => match xs with
  | [x, y] => Ed.nx (eset (eset env i (some (.d x))) j (some (.d y)))
  | _ => False
theorem rs_par {n : Nat} (i j : Nat) {t : TA} {da : Ev → (List D → Prop) → Prop} (h : RfN K n t da) : RfS K (tPar i j t) (dPar i j da) := ⟨fun {A st H0 ow σ H env Ed E} B q k => h.run B.r q fun ds vs H1 q1 _ s1 r1 => by
  split at q1
  · cases r1 with | cons h1 r1 => cases r1 with | cons h2 r2 =>
    cases r2
    have B1 := B.step s1
    have B2 := B1.put i h1
    have t2 := to_del H1 A ow i
    have B3 := B2.put j (Rep.to t2 h2)
    exact ⟨_, _, rfl, k.nx _ _ _ _ q1 B3 (((B.r.toS s1).trans t2).trans (to_del _ _ _ _))⟩
  · exact q1.elim⟩
def dAug (i : Nat) (de : Ev → (D → Prop) → Prop) (g : Int → Int → Int) : DS := fun Ed env => match eget env i with
  | some (.d (.int x)) => de env fun y => (match y with | .int z => Ed.nx (eset env i (some (.d (.int (g x z))))) | _ => False)
  | _ => False
theorem rs_aug (i : Nat) {t : TE} {de : Ev → (D → Prop) → Prop} {g : Int → Int → Int} (h : RfE K t de) : RfS K (tAug i t (ipI g)) (dAug i de g) := ⟨fun B q k => by
  unfold dAug at q
  split at q
  · rename_i x e
    obtain ⟨v, hv, r⟩ := B.r.sl i _ (eget_some e)
    cases r
    refine ⟨_, hv, h.run B.r q fun d v H1 q1 s1 r1 => ?_⟩
    split at q1
    · cases r1
      have B1 := B.step s1
      exact ⟨_, _, rfl, rfl, k.nx _ _ _ _ q1 (B1.put i (.int _)) ((B.r.toS s1).trans (to_del _ _ _ _))⟩
    · exact q1.elim
  · exact q.elim⟩
/-! loops -/
def loopD (g : D → Ev → (Ev → Prop) → Prop) (body : DS) (Ed : Dd) : List D → Ev → Prop
  | [], env => Ed.nx env
  | d :: r, env => g d env fun env1 => body { nx := loopD g body Ed r, ct := loopD g body Ed r, bk := Ed.nx, rt := Ed.rt } env1
def dFor (di : Ev → (List D → Prop) → Prop) (g : D → Ev → (Ev → Prop) → Prop) (body : DS) : DS := fun Ed env => di env fun ds => loopD g body Ed ds env
theorem rs_for {is : List Nat} {wi : TI} {tg : TG} {tb : TS} {di : Ev → (List D → Prop) → Prop} {g : D → Ev → (Ev → Prop) → Prop} {body : DS} (hi : RfI K wi di) (hg : RfG K is tg g) (hb : RfS K tb body) : RfS K (tFor wi tg tb) (dFor di g body) := ⟨fun {A st H0 ow σ H env Ed E} B q k =>
  hi.run B.r q fun ds J H1 q1 s1 J1 => by
    have B1 := B.step s1
    have k1 := k.to (B.r.toS s1)
    refine ⟨fun i m σ' H' => m = ds.length - i ∧ i ≤ ds.length ∧ ∃ env' ow', BE K A st H0 ow' σ' H' env' ∧ To H1 H' (Mo A ow) (Mo A ow') ∧ loopD g body Ed (ds.drop i) env', ⟨_, rfl, Nat.zero_le _, env, ow, B1, To.refl _ _, q1⟩, ?_⟩
    rintro i m σ' H' ⟨rfl, hi, env', ow', B', t', q'⟩
    have al : ∀ a, Mo A ow' a → H' a ≠ none := fun a z => B'.r.alM z
    by_cases hlt : i < ds.length
    · have eD : ds[i]? = some ds[i] := List.getElem?_eq_getElem hlt
      rw [drop_get eD] at q'
      obtain ⟨go, yl⟩ := (J1 _ H' t' al i).2 _ eD
      refine .inr ⟨go, fun σ2 H2 => ∃ env2 ow2, BE K A st H0 ow2 σ2 H2 env2 ∧ To H1 H2 (Mo A ow) (Mo A ow2) ∧ loopD g body Ed (ds.drop (i + 1)) env2, fun σ2 H2 z => ⟨_, by omega, rfl, hlt, z⟩, fun x H2 y => ?_⟩
      obtain ⟨sm, rx⟩ := yl x H2 y
      have B2 := B'.step (.same B'.r.ls sm)
      refine hg.run B2.r rx q' fun env3 ow3 σ3 q3 R3 sub3 _ => ?_
      have B3 : BE K A st H0 ow3 σ3 H2 env3 := ⟨R3, B2.kp, fun j a e => B2.fr j a (sub3 j a e)⟩
      have t3 : To H' H2 (Mo A ow') (Mo A ow3) := (to_same sm).trans (to_less fun a => Mo.sub sub3)
      have k3 := k1.to (t'.trans t3)
      exact hb.run B3 q3 ⟨fun env' ow' σ' H' q b t => ⟨env', ow', b, (t'.trans t3).trans t, q⟩, k3.rt, k3.nx, fun env' ow' σ' H' q b t => ⟨env', ow', b, (t'.trans t3).trans t, q⟩⟩
    · have e' : i = ds.length := by omega
      subst e'
      rw [List.drop_length] at q'
      exact .inl ⟨(J1 _ H' t' al _).1 rfl, k1.nx _ _ _ _ q' B' t'⟩⟩
def dWhile (c : Ev → (Bool → Prop) → Prop) (body : DS) : DS := fun Ed env => ∃ W : Nat → Ev → Prop, (∃ m, W m env) ∧ ∀ m env, W m env → c env fun b =>
  if b = true then body { nx := fun e => ∃ m', m' < m ∧ W m' e, ct := fun e => ∃ m', m' < m ∧ W m' e, bk := Ed.nx, rt := Ed.rt } env else Ed.nx env
theorem rs_while {tc : TT} {tb : TS} {c : Ev → (Bool → Prop) → Prop} {body : DS} (hc : RfT K tc c) (hb : RfS K tb body) : RfS K (tWhile tc tb) (dWhile c body) := ⟨fun {A st H0 ow σ H env Ed E} B ⟨W, ⟨m0, w0⟩, turn⟩ k => by
  refine ⟨fun m σ' H' => ∃ env' ow', BE K A st H0 ow' σ' H' env' ∧ To H H' (Mo A ow) (Mo A ow') ∧ W m env', ⟨m0, env, ow, B, To.refl _ _, w0⟩, ?_⟩
  rintro m σ' H' ⟨env', ow', B', t', w'⟩
  refine hc.run B'.r (turn m env' w') fun b H2 q2 s2 => ?_
  have B2 := B'.step s2
  have t2 := t'.trans (B'.r.toS s2)
  have k2 := k.to t2
  cases b with
  | false =>
    rw [if_neg Bool.false_ne_true] at q2 ⊢
    exact k2.nx _ _ _ _ q2 B2 (To.refl _ _)
  | true =>
    rw [if_pos rfl] at q2 ⊢
    exact ⟨fun σ3 H3 => ∃ m', m' < m ∧ ∃ env' ow', BE K A st H0 ow' σ3 H3 env' ∧ To H H3 (Mo A ow) (Mo A ow') ∧ W m' env', fun σ3 H3 z => z,
      hb.run B2 q2 ⟨fun env' ow' σ' H' ⟨m', hm, w⟩ b t => ⟨m', hm, env', ow', b, t2.trans t, w⟩, k2.rt, k2.nx, fun env' ow' σ' H' ⟨m', hm, w⟩ b t => ⟨m', hm, env', ow', b, t2.trans t, w⟩⟩⟩⟩
/-! bodies -/
def ev0 (ds : List D) (n : Nat) : Ev := ds.map (fun d => some (.d d)) ++ List.replicate n none
theorem ev0_get {K : PySem.W.Frag} {H : Hp} {A : Addr → Prop} : ∀ {ds : List D} {vs : List V} {n i : Nat} {e : En}, RepL K H A ds vs → (ev0 ds n)[i]? = some (some e) → ∃ d v, e = .d d ∧ vs[i]? = some v ∧ Rep K H A d v := fun {ds vs n i e} r h => by
  unfold ev0 at h
  by_cases hi : i < ds.length
  · rw [List.getElem?_append_left (by rw [List.length_map]; exact hi), List.getElem?_map, List.getElem?_eq_getElem hi] at h
    cases h
    obtain ⟨v, hv, rv⟩ := r.get (List.getElem?_eq_getElem hi)
    exact ⟨_, v, rfl, hv, rv⟩
  · rw [List.getElem?_append_right (by rw [List.length_map]; omega)] at h
    have := List.mem_of_getElem? h
    rw [List.mem_replicate] at this
    cases this.2
theorem start_get {N : List Str} {vs : List V} {i : Nat} {v : V} (h : vs[i]? = some v) : (L2.start N vs)[i]? = some (some v) := by
  unfold L2.start
  have hi := (List.getElem?_eq_some_iff.mp h).1
  rw [List.getElem?_append_left (by rw [List.length_map]; exact hi), List.getElem?_map, h]
  rfl
theorem fn_pure {t : TS} {b : DS} {f : List D → (D → Prop) → Prop} {N : List Str} {vs : List V} {H : Hp} {Q : VK} {E : XK} (hb : RfS K t b) (h : spD K f vs H Q E) (hn : vs.length ≤ N.length)
    (hf : ∀ ds Qd, f ds Qd → b { nx := fun _ => Qd .none, rt := Qd } (ev0 ds (N.length - ds.length))) : t { nx := fun _ H' => Q .non H', rt := Q } (L2.start N vs) H := by
  obtain ⟨A, ds, Qd, dom, r, hq, k⟩ := h
  have hl := r.len
  refine hb.run (A := A) (st := none) (H0 := H) (ow := fun _ => none) ⟨⟨fun q e => (by cases e), dom, fun q e => (by cases e), fun i a e => (by cases e), fun i a e => (by cases e), fun i j a e => (by cases e), fun i a e => (by cases e), ?_, fun i e he => ?_⟩, Keep.refl _ _, fun i a e => (by cases e)⟩ (hf ds Qd hq) ?_
  · unfold L2.start ev0
    simp only [List.length_append, List.length_map, List.length_replicate]
    omega
  · obtain ⟨d, v, rfl, hv, rv⟩ := ev0_get r he
    exact ⟨v, start_get hv, Rep.to (to_less fun a z => z.elim id fun ⟨i, e⟩ => by cases e) rv⟩
  · exact ⟨fun env' ow' σ' H' q b t => k _ _ _ q (fun b' o e => b.kp b' o e (by simp [exs])) .non, fun d v H' q s r => k _ _ _ q (fun b' o e => s.k b' o e (by simp [exs])) r, fun _ _ _ _ q => q.elim, fun _ _ _ _ q => q.elim⟩
theorem fn_state {t : TS} {b : DS} {f : List D → (D → Prop) → Prop} {N : List Str} {vs : List V} {H : Hp} {Q : VK} {E : XK} (hb : RfS K t b) (h : spS K f vs H Q E) (hn : vs.length ≤ N.length)
    (hf : ∀ ds Qd, f ds Qd → b { nx := fun _ => Qd .none, rt := Qd } (some .st :: ev0 ds (N.length - (ds.length + 1)))) : t { nx := fun _ H' => Q .non H', rt := Q } (L2.start N vs) H := by
  obtain ⟨A, z, ds, ws, Qd, rfl, ls, a1, a2, dom, r, hq, k⟩ := h
  have hl := r.len
  refine hb.run (A := A) (st := some z) (H0 := H) (ow := fun _ => none) ⟨⟨fun q e => (by cases e; exact ls), dom, fun q e => (by cases e; exact ⟨a1, a2⟩), fun i a e => (by cases e), fun i a e => (by cases e), fun i j a e => (by cases e), fun i a e => (by cases e), ?_, fun i e he => ?_⟩, Keep.refl _ _, fun i a e => (by cases e)⟩ (hf ds Qd hq) ?_
  · unfold L2.start ev0
    simp only [List.length_append, List.length_map, List.length_replicate, List.length_cons] at hn ⊢
    omega
  · cases i with
    | zero =>
      rw [List.getElem?_cons_zero] at he
      cases he
      exact ⟨_, start_get (i := 0) rfl, z, rfl, rfl⟩
    | succ i =>
      rw [List.getElem?_cons_succ] at he
      obtain ⟨d, v, rfl, hv, rv⟩ := ev0_get r he
      exact ⟨v, start_get (i := i + 1) (by rw [List.getElem?_cons_succ]; exact hv), Rep.to (to_less fun a z => z.elim id fun ⟨i, e⟩ => by cases e) rv⟩
  · exact ⟨fun env' ow' σ' H' q b t => k _ _ _ q ⟨b.kp, b.r.ls⟩ .non, fun d v H' q s r => k _ _ _ q s r, fun _ _ _ _ q => q.elim, fun _ _ _ _ q => q.elim⟩
theorem spD_len {f : List D → (D → Prop) → Prop} {n : Nat} (hf : ∀ ds Qd, f ds Qd → ds.length = n) {vs : List V} {H : Hp} {Q : VK} {E : XK} (h : spD K f vs H Q E) : vs.length = n := by
  obtain ⟨A, ds, Qd, dom, r, hq, k⟩ := h
  rw [← r.len]
  exact hf ds Qd hq
theorem spS_len {f : List D → (D → Prop) → Prop} {n : Nat} (hf : ∀ ds Qd, f ds Qd → ds.length = n) {vs : List V} {H : Hp} {Q : VK} {E : XK} (h : spS K f vs H Q E) : vs.length = n + 1 := by
  obtain ⟨A, z, ds, ws, Qd, rfl, ls, a1, a2, dom, r, hq, k⟩ := h
  rw [List.length_cons, ← r.len, hf ds Qd hq]
end
section
variable {K : PySem.W.Frag}
def dUn (op : D → (D → Prop) → Prop) (da : Ev → (D → Prop) → Prop) : Ev → (D → Prop) → Prop := fun env Q => da env fun x => op x Q
structure RfV1 (K : PySem.W.Frag) (r : V → Hp → VK → Prop) (op : D → (D → Prop) → Prop) : Prop where
  run : ∀ {A : Addr → Prop} {st : Option (Addr × Addr)} {ow : Nat → Option Addr} {σ : L2.St} {H : Hp} {env : Ev} {a : D} {x : V} {Qd : D → Prop} {Q : VK},
  RE K A st ow σ H env → RepB K H A (Mo A ow) a x → op a Qd → (∀ d v H', Qd d → Stp st H H' → Rep K H' (Mo A ow) d v → Q v H') → r x H Q
theorem ru {r : V → Hp → VK → Prop} {op : D → (D → Prop) → Prop} {ta : TE} {da : Ev → (D → Prop) → Prop} (ho : RfV1 K r op) (ha : RfB K ta da) : RfE K (tUn r ta) (dUn op da) := ⟨fun R q k =>
  ha.run R q fun d v H1 q1 s1 r1 => ho.run (R.step s1) r1 q1 fun d v H2 q2 s2 r2 => k d v H2 q2 (s1.trans s2) r2⟩
def oNeg : D → (D → Prop) → Prop := fun x Q => match x with | .int i => Q (.int (-i)) | _ => False
theorem rv_neg : RfV1 K (rU fun i => .int (-i)) oNeg := ⟨fun R h q k => by
  unfold oNeg at q
  split at q
  · cases h.int
    exact ⟨_, rfl, k _ _ _ q (stp_refl R) (.int _)⟩
  · exact q.elim⟩
theorem rv_ninS : RfV2 K (fun x y H Q => ∃ (c : Nat) (z : Str), x = .str ⟨#[c]⟩ ∧ y = .str z ∧ Q (.bl (!decide (c ∈ z.cps.toList))) H) (oInS true) := ⟨fun R h1 h2 q k => by
  unfold oInS at q
  split at q
  · cases h1.str; cases h2.str
    obtain ⟨c, rfl, q⟩ := q
    exact ⟨_, _, rfl, rfl, k _ _ _ q (stp_refl R) (.bl _)⟩
  · exact q.elim⟩
def CDivW' (_ j : Int) : Prop := 0 < j ∧ j.natAbs < 2 ^ 64
/-! promises by their arguments -/
def F0 (P : (D → Prop) → Prop) : List D → (D → Prop) → Prop := fun ds Q => match ds with | [] => P Q | _ => False
def F1 (P : D → (D → Prop) → Prop) : List D → (D → Prop) → Prop := fun ds Q => match ds with | [a] => P a Q | _ => False
def F2 (P : D → D → (D → Prop) → Prop) : List D → (D → Prop) → Prop := fun ds Q => match ds with | [a, b] => P a b Q | _ => False
def F3 (P : D → D → D → (D → Prop) → Prop) : List D → (D → Prop) → Prop := fun ds Q => match ds with | [a, b, c] => P a b c Q | _ => False
def F4 (P : D → D → D → D → (D → Prop) → Prop) : List D → (D → Prop) → Prop := fun ds Q => match ds with | [a, b, c, d] => P a b c d Q | _ => False
def F5 (P : D → D → D → D → D → (D → Prop) → Prop) : List D → (D → Prop) → Prop := fun ds Q => match ds with | [a, b, c, d, e] => P a b c d e Q | _ => False
def F6 (P : D → D → D → D → D → D → (D → Prop) → Prop) : List D → (D → Prop) → Prop := fun ds Q => match ds with | [a, b, c, d, e, f] => P a b c d e f Q | _ => False
theorem F0_len {P} (ds : List D) (Q : D → Prop) (h : F0 P ds Q) : ds.length = 0 := by unfold F0 at h; split at h; rfl; exact h.elim
theorem F1_len {P} (ds : List D) (Q : D → Prop) (h : F1 P ds Q) : ds.length = 1 := by unfold F1 at h; split at h; rfl; exact h.elim
theorem F2_len {P} (ds : List D) (Q : D → Prop) (h : F2 P ds Q) : ds.length = 2 := by unfold F2 at h; split at h; rfl; exact h.elim
theorem F3_len {P} (ds : List D) (Q : D → Prop) (h : F3 P ds Q) : ds.length = 3 := by unfold F3 at h; split at h; rfl; exact h.elim
theorem F4_len {P} (ds : List D) (Q : D → Prop) (h : F4 P ds Q) : ds.length = 4 := by unfold F4 at h; split at h; rfl; exact h.elim
theorem F5_len {P} (ds : List D) (Q : D → Prop) (h : F5 P ds Q) : ds.length = 5 := by unfold F5 at h; split at h; rfl; exact h.elim
theorem F6_len {P} (ds : List D) (Q : D → Prop) (h : F6 P ds Q) : ds.length = 6 := by unfold F6 at h; split at h; rfl; exact h.elim
theorem F0_in {P} {G : List D → (D → Prop) → Prop} (h : ∀ Qd, P Qd → G [] Qd) : ∀ ds Qd, F0 P ds Qd → G ds Qd := fun ds Qd q => by unfold F0 at q; split at q; exact h _ q; exact q.elim
theorem F1_in {P} {G : List D → (D → Prop) → Prop} (h : ∀ a Qd, P a Qd → G [a] Qd) : ∀ ds Qd, F1 P ds Qd → G ds Qd := fun ds Qd q => by unfold F1 at q; split at q; exact h _ _ q; exact q.elim
theorem F2_in {P} {G : List D → (D → Prop) → Prop} (h : ∀ a b Qd, P a b Qd → G [a, b] Qd) : ∀ ds Qd, F2 P ds Qd → G ds Qd := fun ds Qd q => by unfold F2 at q; split at q; exact h _ _ _ q; exact q.elim
theorem F3_in {P} {G : List D → (D → Prop) → Prop} (h : ∀ a b c Qd, P a b c Qd → G [a, b, c] Qd) : ∀ ds Qd, F3 P ds Qd → G ds Qd := fun ds Qd q => by unfold F3 at q; split at q; exact h _ _ _ _ q; exact q.elim
theorem F4_in {P} {G : List D → (D → Prop) → Prop} (h : ∀ a b c d Qd, P a b c d Qd → G [a, b, c, d] Qd) : ∀ ds Qd, F4 P ds Qd → G ds Qd := fun ds Qd q => by unfold F4 at q; split at q; exact h _ _ _ _ _ q; exact q.elim
theorem F5_in {P} {G : List D → (D → Prop) → Prop} (h : ∀ a b c d e Qd, P a b c d e Qd → G [a, b, c, d, e] Qd) : ∀ ds Qd, F5 P ds Qd → G ds Qd := fun ds Qd q => by unfold F5 at q; split at q; exact h _ _ _ _ _ _ q; exact q.elim
theorem F6_in {P} {G : List D → (D → Prop) → Prop} (h : ∀ a b c d e f Qd, P a b c d e f Qd → G [a, b, c, d, e, f] Qd) : ∀ ds Qd, F6 P ds Qd → G ds Qd := fun ds Qd q => by unfold F6 at q; split at q; exact h _ _ _ _ _ _ _ q; exact q.elim
/-! the law's own run -/
def spState (K : PySem.W.Frag) : Sp := fun vs H Q _ => ∃ (a : Addr) (ns : List Int), vs = [.ref a] ∧ SqL K H a (ns.map V.int) ∧ ns.length ≤ 63 ∧
  ∀ (p c : Addr) (H' : Hp), LS H' p c → Same H H' → H p = none → H c = none → Q (.ref p) H'
def spLaw (K : PySem.W.Frag) : Sp := fun vs H Q _ => ∃ (a : Addr) (ns : List Int), vs = [.ref a] ∧ SqL K H a (ns.map V.int) ∧ ns.length ≤ 63 ∧ ∀ H', Q (.bl true) H'
theorem spLaw_len {vs : List V} {H : Hp} {Q : VK} {E : XK} (h : spLaw K vs H Q E) : vs.length = 1 := by
  obtain ⟨a, ns, rfl, _⟩ := h
  rfl
theorem law_run {i : Nat} {u : TS} {b : DS} {N : List Str} {vs : List V} {H : Hp} {Q : VK} {E E' : XK} (hb : RfS K u b) (h : spLaw K vs H Q E) (hi : 0 < i) (hN : i < N.length)
    (hf : b { nx := fun _ => False, rt := fun d => d = .bool true } ((List.replicate N.length none).set i (some .st))) :
    tSeq (tAsg (tCall (spState K) [] E' (tCons (tVar 0) tNil)) (gName i)) u { nx := fun _ H' => Q .non H', rt := Q } (L2.start N vs) H := by
  obtain ⟨a, ns, rfl, hS, hlen, q⟩ := h
  refine ⟨_, start_get (i := 0) rfl, a, ns, rfl, hS, hlen, fun p c H1 ls sm np nc => ?_⟩
  refine hb.run (A := fun x => x = p ∨ x = c) (st := some (p, c)) (H0 := H1) (ow := fun _ => none) ⟨⟨fun q e => (by cases e; exact ls), fun a ha => ?_, fun q e => (by cases e; exact ⟨.inl rfl, .inr rfl⟩), fun i a e => (by cases e), fun i a e => (by cases e), fun i j a e => (by cases e), fun i a e => (by cases e), ?_, fun j e he => ?_⟩, Keep.refl _ _, fun i a e => (by cases e)⟩ hf ?_
  · obtain ⟨k, ns, h1, h2, _⟩ := ls
    rcases ha with rfl | rfl
    · rw [h1]; intro z; cases z
    · rw [h2]; intro z; cases z
  · unfold L2.start
    simp only [List.length_set, List.length_append, List.length_map, List.length_replicate, List.length_cons, List.length_nil]
    omega
  · by_cases hj : i = j
    · subst hj
      rw [List.getElem?_set_self (by rw [List.length_replicate]; exact hN)] at he
      cases he
      refine ⟨_, List.getElem?_set_self ?_, (p, c), rfl, rfl⟩
      unfold L2.start
      simp only [List.length_append, List.length_map, List.length_replicate, List.length_cons, List.length_nil]
      omega
    · rw [List.getElem?_set_ne hj] at he
      have := List.mem_of_getElem? he
      rw [List.mem_replicate] at this
      cases this.2
  · exact ⟨fun env' ow' σ' H' q => q.elim, fun d v H' e s r => by subst e; cases r; exact q H', fun _ _ _ _ q => q.elim, fun _ _ _ _ q => q.elim⟩
/-! draws -/
def sTake : D → (D → Prop) → Prop := fun m Q => match m with | .int m => 0 < m ∧ m < 2 ^ 64 ∧ ∀ r, 0 ≤ r → r < m → Q (.int r) | _ => False
def sTake0 : D → (D → Prop) → Prop := fun m Q => match m with | .int m => m < 2 ^ 64 ∧ ∀ r, 0 ≤ r → (r < m ∨ r < 1) → Q (.int r) | _ => False
def spTake : Sp := fun vs H Q _ => ∃ (p c : Addr) (m : Int), vs = [.ref p, .int m] ∧ LS H p c ∧ 0 < m ∧ m < 2 ^ 64 ∧
  ∀ (r : Int) (H' : Hp), 0 ≤ r → r < m → LS H' p c → Keep [p, c] H H' → Q (.int r) H'
def spTake0 : Sp := fun vs H Q _ => ∃ (p c : Addr) (m : Int), vs = [.ref p, .int m] ∧ LS H p c ∧ m < 2 ^ 64 ∧
  ∀ (r : Int) (H' : Hp), 0 ≤ r → (r < m ∨ r < 1) → LS H' p c → Keep [p, c] H H' → Q (.int r) H'
theorem take_of (vs : List V) (H : Hp) (Q : VK) (E : XK) (h : spS K (F1 sTake) vs H Q E) : spTake vs H Q E := by
  obtain ⟨A, z, ds, ws, Qd, rfl, ls, a1, a2, dom, r, hq, k⟩ := h
  unfold F1 at hq
  split at hq
  · unfold sTake at hq
    split at hq
    · cases r with | cons r1 r2 =>
      cases r2
      cases r1
      exact ⟨z.1, z.2, _, rfl, ls, hq.1, hq.2.1, fun r H' h0 h1 l kk => k _ _ _ (hq.2.2 r h0 h1) ⟨kk, fun q e => by cases e; exact l⟩ (.int _)⟩
    · exact hq.elim
  · exact hq.elim
theorem take0_of (vs : List V) (H : Hp) (Q : VK) (E : XK) (h : spS K (F1 sTake0) vs H Q E) : spTake0 vs H Q E := by
  obtain ⟨A, z, ds, ws, Qd, rfl, ls, a1, a2, dom, r, hq, k⟩ := h
  unfold F1 at hq
  split at hq
  · unfold sTake0 at hq
    split at hq
    · cases r with | cons r1 r2 =>
      cases r2
      cases r1
      exact ⟨z.1, z.2, _, rfl, ls, hq.1, fun r H' h0 h1 l kk => k _ _ _ (hq.2 r h0 h1) ⟨kk, fun q e => by cases e; exact l⟩ (.int _)⟩
    · exact hq.elim
  · exact hq.elim
theorem emod_rng (x : Int) {m : Int} (h : 0 < m) : 0 ≤ x % m ∧ x % m < m := ⟨Int.emod_nonneg _ (by omega), Int.emod_lt_of_pos _ h⟩
theorem at_mod {α : Type} {xs : List α} (h : xs ≠ []) (k : Int) : ∃ (j : Nat) (v : α), k % (xs.length : Int) = (j : Int) ∧ j < xs.length ∧ xs[j]? = some v := by
  have hl : 0 < xs.length := by
    cases xs with
    | nil => exact absurd rfl h
    | cons _ _ => exact Nat.zero_lt_succ _
  have e := emod_rng k (m := (xs.length : Int)) (by omega)
  refine ⟨(k % (xs.length : Int)).toNat, xs[(k % (xs.length : Int)).toNat]'(by omega), by omega, by omega, List.getElem?_eq_getElem _⟩
theorem LS.ne {H : Hp} {p c : Addr} (h : LS H p c) : p ≠ c := by
  obtain ⟨k, ns, h1, h2, h3⟩ := h
  intro e
  subst e
  rw [h1] at h2
  cases ns with
  | nil => exact h3 rfl
  | cons x r =>
    cases r with
    | nil => cases h2
    | cons y r =>
      cases r with
      | nil => cases h2
      | cons _ _ => cases h2
theorem cut63 (xs : List V) (h : xs.length ≤ 63) : cutV xs none (some 63) = xs := by
  unfold cutV
  rw [HT.sIx_none, show HT.sIx xs.length xs.length (some 63) = min 63 xs.length from HT.sIx_nat xs.length xs.length 63]
  rw [List.drop_zero, Nat.min_eq_right h, Nat.sub_zero, List.take_length]
/-! rows that are drawn from -/
def sPick : D → (D → Prop) → Prop := fun m Q => match seqOf m with | some ds => ds ≠ [] ∧ ds.length ≤ 100000 ∧ ∀ d ∈ ds, Q d | none => False
def sNumber : D → D → (D → Prop) → Prop := fun a b Q => match a, b with | .int lo, .int hi => lo ≤ hi ∧ (-(2 ^ 63) ≤ lo ∧ hi < 2 ^ 63) ∧ ∀ r, lo ≤ r → r ≤ hi → Q (.int r) | _, _ => False
end
/-! defs that show data: no repr runs around them -/
structure FnG (P : Program) (w : World) (K : PySem.W.Frag) (mg : Str → Option Value) (base : Heap) (k : Nat) (f : Addr) (fd : FuncData) (ps : List Str) (sp : Sp) : Prop where
  len : ∀ us H Q E, sp us H Q E → us.length = ps.length
  go : ∀ (A : Around) (outer : List Env) (s : Shared) (H : Hp) (args : Args) (us : List Value) (vs : List V) (Q : VK) (E : XK), Room k A → A.guards = some [] → Env0 P w K mg base A outer s H → BindsTo s fd args (ps.zip us) → Vals vs us → sp vs H Q E →
    codeAny (model P w) A (.call (.ref f) args) (CR CX0 outer P w H s Q E) s
theorem FnG.of {P : Program} {w : World} {K : PySem.W.Frag} {mg : Str → Option Value} {base : Heap} {k : Nat} {f : Addr} {fd : FuncData} {ps : List Str} {sp : Sp} (F : FnOk P w K mg base CX0 k f fd ps sp) : FnG P w K mg base k f fd ps sp :=   ⟨F.len, fun A outer s H args us vs Q E hr _ => F.run A outer s H args us vs Q E hr⟩
section
variable {X : Cx} {k : Nat} {f : Addr} {fd : FuncData} {ps : List Str} {sp : Sp} {x : Str} {p pos : Pos} {e : Expr} {es : List Expr} {t : TA}
theorem go_fnG {pins : List (Addr × Obj)} {σ : L2.St} {H : Hp} {s : Shared} {Q : VK} {us : List Value} {vs : List V} (F : FnG X.prog X.w X.K X.mg X.base k f fd ps sp) (hr : Room k X.A) (gd : X.A.guards = some []) (hb : Binds X.K fd ps [])
    (J : Inv X pins σ H s) (r : Vals vs us) (h : sp vs H Q E0) : wpAny (model X.prog X.w) X.A (call (.ref f) us) (EP X pins σ Q) X.xe s := by
  have hl : (us ++ []).length = ps.length := by rw [List.append_nil, ← r.length]; exact F.len _ _ _ _ h
  have bb := hb s us J.kIn hl
  rw [List.append_nil] at bb
  refine wpAny_call (codeAny_mono (F.go X.A X.stack s H ⟨us, []⟩ us vs Q E0 hr gd J.env0 bb r h) fun rr s' hq => ?_)
  match rr, hq with
  | .error e, hq => exact False.elim hq
  | .ok (.ret u), hq => exact J.after hq
  | .ok .next, hq => cases hq
  | .ok .brk, hq => cases hq
  | .ok .cont, hq => cases hq
theorem pe_callG (F : FnG X.prog X.w X.K X.mg X.base k f fd ps sp) (hr : Room k X.A) (gd : X.A.guards = some []) (hg : Gl X x) (hm : X.mg x = some (.ref f)) (hk : PySem.W.keepIn X.K (.ref f) = true) (hb : Binds X.K fd ps [])
    (ha : PA X (e :: es) t) (hdb : (x == ("__debug__" : Str)) = false := by decide) (he : starEach (e :: es) X.env = (false, eval e X.env) :: starEach es X.env := by rfl) (hpl : (backTo pos (starEach es X.env)).any (·.1) = false := by rfl) :
    PE X (.Call (.Name x p) (e :: es) [] pos) (tCall sp [] E0 t) := ⟨fun pins s σ H Q J h => by
  refine wpAny_Call_Name_kw (ld_glob J hg hm ?_ hdb)
  refine PySem.W.callWith_K (h₀ := X.base) J.ok.mod.kin hk (thn (ha.run pos pins s σ H _ J h) fun us s2 ⟨vs, H2, J2, r2, q2⟩ => ⟨J2.kIn, ?_⟩) he hpl
  have q3 : sp (vs ++ []) H2 Q E0 := q2
  rw [List.append_nil] at q3
  exact go_fnG F hr gd hb J2 r2 q3⟩
end
section
variable {P : Program} {w : World} {K : PySem.W.Frag} {mg : Str → Option Value} {base : Heap}
theorem okG {x qual : Str} {st : Stmt} {f : Addr} {fd : FuncData} {N ps : List Str} {k : Nat} {sp : Sp} (F : Fun K x qual st f fd) (S : FnScope N ps (defScope st)) (len : ∀ us H Q E, sp us H Q E → us.length = ps.length)
    (hbody : ∀ (cdv : Value) (A : Around) (outer : List Env) (s : Shared) (H : Hp) (vs : List V) (Q : VK) (E : XK), Room k (A.deeper (envOfC qual (defScope st) s.heap.objs.size f cdv)) → A.guards = some [] → sp vs H Q E →
      ∃ t, PSs (cxOf CX0 P w K mg base N qual (defScope st) f cdv A outer s H E).nox (defBody st) t ∧ t { nx := fun _ H' => Q .non H', rt := Q } (L2.start N vs) H) : FnG P w K mg base (k + 1) f fd ps sp := by
  obtain ⟨oc, od, kV, doc, pm, an, cdv, ct, osl, rfl, lk, hcd⟩ := F.ex
  refine ⟨len, fun A outer s H args us vs Q E hr gd ee hb r hsp => ?_⟩
  have hl := len _ _ _ _ hsp
  have kin : K.In s.heap := ee.mod.kin.keeps fun b o e => (ee.bs b o e).1
  have nol : s.heap.NoLimit := ee.mod.nolimit.keeps fun b o e => (ee.bs b o e).1
  have kinds : ∀ y ∈ ps.zip us, (defScope st).names.lookup y.1 = some .local ∨ ((defScope st).names.lookup y.1 = some .cell ∧ ((cellsFrom (s.heap.objs.size + 1) (defScope st).names []).lookup y.1).isSome = true) := fun ⟨n, v⟩ hy => by
    rcases S.par n (List.of_mem_zip hy).1 with z | z
    · exact .inl z
    · exact .inr ⟨z, PySem.W.cellsFrom_some _ _ _ (.inl z)⟩
  refine codeAny_call_function hr.depth (kin _ _ lk) rfl S.co S.gen rfl (PySem.W.codeRec_of kin hcd) (hb _ _ _ _ ?_)
  refine wpAny_newFunctionEnv_cells S.kind kinds fun env he s2 y => ?_
  subst he
  refine ⟨nol.keeps y.toInCall.keep, codeAny_func ?_⟩
  obtain ⟨t, ht, hq⟩ := hbody cdv A outer s H vs Q E (hr.deeper _) gd hsp
  have J : Inv (cxOf CX0 P w K mg base N qual (defScope st) f cdv A outer s H E) [] (L2.start N vs) H s2 := inv_start S hr.hd ee hl r y
  refine wpAny_mono (ht.nox.run [] s2 (L2.start N vs) H _ J hq) (fun fl s' hs => ?_) fun e s' hs => hs
  match fl, hs with
  | .ret u, ⟨v, σ', H', J', rv, q⟩ => exact ⟨v, H', J'.os, J'.bare, J'.base, J'.hok, rv, q⟩
  | .next, ⟨σ', H', J', q⟩ => exact ⟨.non, H', J'.os, J'.bare, J'.base, J'.hok, rfl, q⟩
  | .brk, ⟨_, _, _, q⟩ => cases q
  | .cont, ⟨_, _, _, q⟩ => cases q
end
/-- the law's call, where no repr runs around it -/
theorem callG {P : Program} {w : World} {K : PySem.W.Frag} {mg mb : Str → Option Value} {k : Nat} {fa a : Addr} {fd : FuncData} {x : Str} {sp : Sp} {sA : Shared} {us : List Value} {zs : List Int}
    (kin : K.In sA.heap) (hns : sA.heap.Ns mainGlobals mg) (hb : sA.heap.Ns builtinsNs mb) (hbb : ∀ x : Str, x ≠ "__name__" → mb x = bootBuiltins x) (nol : sA.heap.NoLimit) (hg : sA.gens = #[])
    (ha : sA.heap.get? a = some { cls := .type "list", data := .seq us.toArray }) (hi : IntsAre us zs) (hl : zs.length ≤ sizeLine) (hr : Room k callerA)
    (F : ∀ base : Heap, K.In base → base.Ns mainGlobals mg → FnG P w K mg base k fa fd [x] sp) (bnd : ∀ (s : Shared) (u : Value), BindsTo s fd ⟨[u], []⟩ [(x, u)])
    (hsp : ∀ H : Hp, SqL K H a (zs.map V.int) → sp [.ref a] H (fun v _ => v = .bl true) E0) :
    codeAny (model P w) callerA (.call (.ref fa) ⟨[.ref a], []⟩) (fun r s' => r = .ok (.ret (.bool true)) ∧ OldK sA.heap s'.heap ∧ s'.os = sA.os ∧ AllBare s'.gens) sA := by
  have rv := vals_ints hi
  have key : ∀ Hh : Hp, Only Hh → SqL K Hh a (zs.map V.int) → HOk P w Hh sA.heap → (∀ b, Hh b ≠ none → b = a) → (Hh a ≠ none → K.lookup a = none) →
      codeAny (model P w) callerA (.call (.ref fa) ⟨[.ref a], []⟩) (fun r s' => r = .ok (.ret (.bool true)) ∧ OldK sA.heap s'.heap ∧ s'.os = sA.os ∧ AllBare s'.gens) sA := by
    intro Hh hO hS hok hA hK
    have under : ∀ {b : Addr} {o : Obj}, sA.heap.get? b = some o → Hh b = none → (hidT sA.heap Hh).get? b = some o := fun e n => hidT_get e n
    have dictN : ∀ {b : Addr} {o : Obj} {es : Array DictEntry} {ep : Nat}, sA.heap.get? b = some o → o.data = .dict es ep → Hh b = none := fun {b o es ep} e d => Decidable.byContradiction fun z => by
      have e' : b = a := hA b z
      rw [e', ha] at e
      cases e
      cases (show Data.seq us.toArray _ = Data.dict es ep from d)
    have nsU : ∀ {b : Addr} {m : Str → Option Value}, sA.heap.Ns b m → (hidT sA.heap Hh).Ns b m := fun {b m} ⟨o, es, ep, e, d, r⟩ => ⟨o, es, ep, under e (dictN e d), d, r⟩
    have kinU : K.In (hidT sA.heap Hh) := fun b o e => under (kin b o e) (Decidable.byContradiction fun z => by
      have e' : b = a := hA b z
      rw [e', hK (e' ▸ z)] at e
      cases e)
    have md : Mod K mg (hidT sA.heap Hh) := ⟨kinU, nsU hns, ⟨mb, nsU hb, hbb⟩, let ⟨mc, h1, h2⟩ := nol; ⟨mc, nsU h1, h2⟩⟩
    have ee : Env0 P w K mg (hidT sA.heap Hh) callerA [] sA Hh := ⟨rfl, md, fun b o e => of_hidT e, Nat.le_of_eq (hidT_size _ _), trivial, fun b hb => absurd hb (by simp [frs]), hok, .of_eq hg⟩
    refine codeAny_mono ((F _ kinU (nsU hns)).go callerA [] sA Hh ⟨[.ref a], []⟩ [.ref a] [.ref a] _ _ hr rfl ee (bnd sA (.ref a)) (.cons rfl .nil) (hsp Hh hS)) fun r s' h => ?_
    match r, h with
    | .error e, h => cases h
    | .ok .next, h => cases h
    | .ok .brk, h => cases h
    | .ok .cont, h => cases h
    | .ok (.ret u), ⟨v, H', os, bare, un, hok', r', q⟩ =>
      subst q
      obtain rfl : u = Value.bool true := r'
      refine ⟨rfl, OldK.of_keep fun b o e => ?_, os, bare⟩
      cases q : Hh b with
      | none => exact un.keep b o e q (by simp [frs]) (by simp)
      | some u =>
        rcases hO b with z | ⟨ob, xs, z⟩
        · rw [q] at z; cases z
        · have z2 := un.frzs b ob _ z
          obtain ⟨e1, _⟩ := hok b _ z
          obtain ⟨e2, _⟩ := hok' b _ z2
          rw [e] at e1; cases e1
          exact e2
  cases hk : K.lookup a with
  | some o =>
    have e := kin a o hk
    rw [ha] at e
    cases e
    exact key (fun _ => none) (fun _ => .inl rfl) (.inr ⟨_, us.toArray, _, hk, rfl, rfl, rfl, by rw [List.size_toArray, hi.length]; exact hl, by simpa using rv⟩) (fun b u z => by cases (show (none : Option HO) = some u from z)) (fun b z => absurd rfl z) fun z => absurd rfl z
  | none =>
    let Hs : Hp := fun b => if b = a then some (.frz { cls := .type "list", data := .seq us.toArray } (.lst (zs.map V.int))) else none
    have at_a : Hs a = some (.frz { cls := .type "list", data := .seq us.toArray } (.lst (zs.map V.int))) := if_pos rfl
    have off : ∀ {b : Addr}, b ≠ a → Hs b = none := fun h => if_neg h
    refine key Hs (fun b => ?_) (.inl (.inr ⟨_, at_a⟩)) (fun b u z => ?_) (fun b z => Decidable.byContradiction fun h => z (off h)) fun _ => hk
    · by_cases h : b = a
      · exact .inr ⟨_, _, by rw [h]; exact at_a⟩
      · exact .inl (off h)
    · by_cases h : b = a
      · subst h
        rw [at_a] at z
        cases z
        exact ⟨ha, by rw [List.length_map]; exact hl, us, _, rv, ha⟩
      · rw [off h] at z
        cases z
theorem walkG {l : PySem.W.OpenLaw} {k : Nat} {q : Program} {loose : List Str} {XP : (Str → Option Value) → Heap → Prop} {YP : World → Heap → Prop} {d : DefRec} {K : Params → PySem.W.Frag} {x : Str}
    (hn : l.most = some 63) (hdf : d.params.defaults = []) (hr : Room k callerA)
    (hY : ∀ (w : World) (h : Heap), YP w h → (K w.params).In h)
    (F : ∀ (w : World) (mg : Str → Option Value) (fa : Addr) (h : Heap), (K w.params).In h → h.Ns mainGlobals mg → mg d.name = some (.ref fa) →
      ∃ fd : FuncData, (∀ (s : Shared) (u : Value), BindsTo s fd ⟨[u], []⟩ [(x, u)]) ∧
        ∀ base : Heap, (K w.params).In base → base.Ns mainGlobals mg → FnG l.prog w (K w.params) mg base k fa fd [x] (spLaw (K w.params))) :
    PySem.W.WalkO q loose XP YP l.row.toRowW d [] (fun f vs => PySem.call f vs) := by
  refine Att.attach_call hn hdf fun w s0 sA mg mb fa o pm cd doc a us zs G Y ho hd hcd hmg hobj hints hlen hg => ?_
  have kin := hY w _ Y
  obtain ⟨fd, hb, hF⟩ := F w mg fa _ kin G.T.g hmg
  exact callG kin G.T.g G.T.b G.T.builtins G.T.nolimit hg hobj hints (Nat.le_trans hlen (by decide)) hr hF hb fun H hS => ⟨a, zs, rfl, hS, hlen, fun _ => rfl⟩

/-! repr -/
def rRepr (K : PySem.W.Frag) : List V → Hp → VK → Prop := fun xs H Q => ∃ x d, xs = [x] ∧ Dp K H x d ∧ d.showable = true ∧ d.hasDict = false ∧ d.depth ≤ 60 ∧ d.shown.length ≤ sizeLine ∧ Q (.str d.shown) H
theorem cr_repr {X : Cx} (gd : X.A.guards = some []) (hu : X.A.units + 64 < cLine) : CallR X (.builtin "repr") (rRepr X.K) := fun pins s σ H xs us Q J r h => by
  obtain ⟨x, d, rfl, hd, hs, hn, hdep, hsz, q⟩ := h
  obtain ⟨u, rfl, ru⟩ := vals1 r
  have hd' := hd
  cases hd with
  | non => cases (show u = Value.none from ru); exact P.repr_of_none ⟨.str PyData.none.shown, H, J.tok _, ⟨_, rfl⟩, q⟩
  | bl b => cases (show u = Value.bool b from ru); exact P.repr_of_bool ⟨.str (PyData.bool b).shown, H, J.tok _, ⟨_, by cases b <;> rfl⟩, q⟩
  | int i =>
    obtain ⟨t, rfl⟩ := ru
    exact P.repr_of_int (by simpa [PyData.showable] using hs) ⟨.str (PyData.int i).shown, H, J.tok _, ⟨_, rfl⟩, q⟩
  | str z =>
    obtain ⟨t, rfl⟩ := ru
    exact P.repr_of_str ⟨.str (PyData.str z).shown, H, J.tok _, ⟨_, rfl⟩, q⟩ hsz
  | @lst a xs ds hq ha =>
    obtain ⟨as, rd⟩ := Dp.reads J _ _ u hd' ru
    cases (show u = Value.ref a from ru)
    exact repr_of_reads' rd hs (fun z => by rw [hn] at z; cases z) gd (by omega) (fun b o e => e) (fun h' u tk k => ⟨.str (PyData.list ds).shown, H, J.kept k, ⟨_, rfl⟩, q⟩) hsz
  | @tup a xs ds hq ha =>
    obtain ⟨as, rd⟩ := Dp.reads J _ _ u hd' ru
    cases (show u = Value.ref a from ru)
    exact repr_of_reads' rd hs (fun z => by rw [hn] at z; cases z) gd (by omega) (fun b o e => e) (fun h' u tk k => ⟨.str (PyData.tuple ds).shown, H, J.kept k, ⟨_, rfl⟩, q⟩) hsz
/-! the size of data -/
structure Sz (d : D) (k w : Nat) : Prop where
  lay : d.canLay0 = true
  sml : d.intsShort 13 = true
  shw : d.showable = true
  dep : d.depth ≤ k
  wt : d.weight ≤ w
theorem Sz.mono {d : D} {k w k' w' : Nat} (h : Sz d k w) (hk : k ≤ k') (hw : w ≤ w') : Sz d k' w' := ⟨h.lay, h.sml, h.shw, Nat.le_trans h.dep hk, Nat.le_trans h.wt hw⟩
theorem Sz.none : Sz .none 0 0 := ⟨rfl, rfl, rfl, Nat.le_refl _, Nat.le_refl _⟩
theorem Sz.bool (b : Bool) : Sz (.bool b) 0 0 := ⟨rfl, rfl, rfl, Nat.le_refl _, Nat.le_refl _⟩
theorem log2_small {n : Nat} (h : n < 10 ^ 12) : n.log2 < 40 := by
  by_cases hz : n = 0
  · subst hz; decide
  · exact (Nat.log2_lt hz).mpr (Nat.lt_of_lt_of_le h (by decide))
theorem Sz.int {i : Int} (h : i.natAbs < 10 ^ 12) : Sz (.int i) 0 40 := by
  have l := log2_small h
  refine ⟨rfl, by simp only [PyData.intsShort, decide_eq_true_eq]; exact PyData.shown_int_le h, by simp only [PyData.showable, decide_eq_true_eq]; omega, Nat.le_refl _, ?_⟩
  simp only [PyData.weight]
  split <;> omega
theorem Sz.str {z : Str} {n : Nat} (h : PyData.strOk z = true) (hn : z.cps.size ≤ n) : Sz (.str z) 0 n := ⟨by simpa only [PyData.canLay0] using h, rfl, rfl, Nat.le_refl _, by simpa only [PyData.weight] using hn⟩
theorem Sz.all {k w : Nat} : ∀ {ds : List D}, (∀ d ∈ ds, Sz d k w) → PyData.canLayAll0 ds = true ∧ PyData.intsShortAll 13 ds = true ∧ PyData.showableAll ds = true ∧ PyData.depthAll ds ≤ k ∧ PyData.weightAll ds ≤ ds.length * (w + 1)
  | [], _ => ⟨rfl, rfl, rfl, Nat.zero_le _, Nat.zero_le _⟩
  | d :: r, h => by
    obtain ⟨a1, a2, a3, a4, a5⟩ := h d List.mem_cons_self
    obtain ⟨b1, b2, b3, b4, b5⟩ := Sz.all (ds := r) fun e he => h e (List.mem_cons_of_mem _ he)
    refine ⟨by simp only [PyData.canLayAll0, a1, b1, Bool.and_self], by simp only [PyData.intsShortAll, a2, b2, Bool.and_self], by simp only [PyData.showableAll, a3, b3, Bool.and_self], ?_, ?_⟩
    · simp only [PyData.depthAll]; omega
    · simp only [PyData.weightAll, List.length_cons, Nat.add_mul]; omega
theorem Sz.tup {k w n : Nat} {ds : List D} (h : ∀ d ∈ ds, Sz d k w) (hn : ds.length ≤ n) : Sz (.tuple ds) (k + 1) (n * (w + 1)) := by
  obtain ⟨b1, b2, b3, b4, b5⟩ := Sz.all h
  exact ⟨by simpa only [PyData.canLay0] using b1, by simpa only [PyData.intsShort] using b2, by simpa only [PyData.showable] using b3, by simp only [PyData.depth]; omega, by simp only [PyData.weight]; exact Nat.le_trans b5 (Nat.mul_le_mul_right _ hn)⟩
theorem Sz.list {k w n : Nat} {ds : List D} (h : ∀ d ∈ ds, Sz d k w) (hn : ds.length ≤ n) : Sz (.list ds) (k + 1) (n * (w + 1)) := by
  obtain ⟨b1, b2, b3, b4, b5⟩ := Sz.all h
  exact ⟨by simpa only [PyData.canLay0] using b1, by simpa only [PyData.intsShort] using b2, by simpa only [PyData.showable] using b3, by simp only [PyData.depth]; omega, by simp only [PyData.weight]; exact Nat.le_trans b5 (Nat.mul_le_mul_right _ hn)⟩
theorem Sz.ok {d : D} {k w : Nat} (h : Sz d k w) (hk : k ≤ 60 := by decide) : okD d = true := by
  unfold okD SeqAt.shaped
  rw [h.lay, decide_eq_true (show d.depth ≤ 64 from Nat.le_trans h.dep (by omega))]
  rfl
def repOK (d : D) : Prop := ∃ k w, Sz d k w ∧ k ≤ 60 ∧ w ≤ 1048576
theorem Sz.rep {d : D} {k w : Nat} (h : Sz d k w) (hk : k ≤ 60 := by decide) (hw : w ≤ 1048576 := by decide) : repOK d := ⟨k, w, h, hk, hw⟩
theorem repOK.short {d : D} (h : repOK d) : d.shown.length ≤ sizeLine := by
  obtain ⟨k, w, h, hk, hw⟩ := h
  refine PyData.shown_fits_of_layable0 (B := 13) (by decide) (by decide) ?_ h.sml
  show (PyData.canLay0 d && decide (PyData.depth d ≤ 64) && decide (PyData.weight d ≤ 2 ^ 20)) = true
  rw [h.lay, decide_eq_true (show PyData.depth d ≤ 64 from Nat.le_trans h.dep (by omega)), decide_eq_true (show PyData.weight d ≤ 2 ^ 20 from Nat.le_trans h.wt (by omega))]
  rfl
/-- what is shown of data -/
def oRepr : List D → (D → Prop) → Prop := fun xs Q => match xs with | [d] => repOK d ∧ Q (.str d.shown) | _ => False
theorem ro_repr {K : PySem.W.Frag} : RfVL K (rRepr K) oRepr := ⟨fun R h q k => by
  unfold oRepr at q
  split at q
  · rename_i d
    obtain ⟨v, rfl, z⟩ := h.one
    obtain ⟨r, q⟩ := q
    have sh := r.short
    obtain ⟨dp, w, hz, hk, hw⟩ := r
    exact ⟨v, d, rfl, z.dp hz.lay, hz.shw, PyData.hasDict_of_canLay d hz.lay, Nat.le_trans hz.dep hk, sh, k _ _ _ q (stp_refl R) (.str _)⟩
  · exact q.elim⟩
theorem eqv_same {d : D} (h : okD d = true) : PyData.eqv d d = true := SeqAt.eqv_refl d (okD_lay h)
/-! how comprehensions and loops go -/
/-- one turn of a comprehension gives T -/
def Turns (g : D → Ev → (Ev → Prop) → Prop) (c : Ev → (Bool → Prop) → Prop) (e : Ev → (D → Prop) → Prop) (env : Ev) (d : D) (T : Option D → Prop) : Prop :=
  ∀ R : Option D → Prop, (∀ o, T o → R o) → g d env fun env1 => c env1 fun b => if b = true then e env1 fun x => R (some x) else R none
theorem lc_any {g : D → Ev → (Ev → Prop) → Prop} {c : Ev → (Bool → Prop) → Prop} {e : Ev → (D → Prop) → Prop} {env : Ev} (T : D → Option D → Prop) : ∀ {ds : List D} {Q : List D → Prop}, (∀ d ∈ ds, Turns g c e env d (T d)) →
    (∀ os : List (Option D), Paired T ds os → Q (os.filterMap id)) → lcD g c e ds env Q
  | [], Q, _, q => q [] .nil
  | d :: r, Q, h, q => h d List.mem_cons_self (fun o => match o with | some x => lcD g c e r env fun xs => Q (x :: xs) | none => lcD g c e r env Q) fun o t => by
    have ih : ∀ {Q' : List D → Prop}, (∀ os : List (Option D), Paired T r os → Q' (os.filterMap id)) → lcD g c e r env Q' := fun {Q'} q' => lc_any T (fun d' h' => h d' (List.mem_cons_of_mem _ h')) q'
    cases o with
    | some x => exact ih fun os hp => q (some x :: os) (.cons t hp)
    | none => exact ih fun os hp => q (none :: os) (.cons t hp)
theorem lc_fun {α : Type} {g : D → Ev → (Ev → Prop) → Prop} {c : Ev → (Bool → Prop) → Prop} {e : Ev → (D → Prop) → Prop} {env : Ev} (enc : α → D) (f : α → Option D) : ∀ {as : List α} {Q : List D → Prop},
    (∀ a ∈ as, ∀ R : Option D → Prop, R (f a) → g (enc a) env fun env1 => c env1 fun b => if b = true then e env1 fun x => R (some x) else R none) → Q (as.filterMap f) → lcD g c e (as.map enc) env Q
  | [], Q, _, q => q
  | a :: r, Q, h, q => h a List.mem_cons_self (fun o => match o with | some x => lcD g c e (r.map enc) env fun xs => Q (x :: xs) | none => lcD g c e (r.map enc) env Q) (by
    have ih : ∀ {Q' : List D → Prop}, Q' (r.filterMap f) → lcD g c e (r.map enc) env Q' := fun {Q'} q' => lc_fun enc f (fun d' h' => h d' (List.mem_cons_of_mem _ h')) q'
    cases hf : f a with
    | some x =>
      rw [List.filterMap_cons, hf] at q
      exact ih q
    | none =>
      rw [List.filterMap_cons, hf] at q
      exact ih q)
/-- a loop by what holds ahead of each turn -/
theorem loop_by {g : D → Ev → (Ev → Prop) → Prop} {body : DS} {Ed : Dd} (I : List D → Ev → Prop) (hd : ∀ env, I [] env → Ed.nx env)
    (hs : ∀ d r env (N : Ev → Prop), I (d :: r) env → (∀ env', I r env' → N env') → g d env fun env1 => body { nx := N, ct := N, bk := Ed.nx, rt := Ed.rt } env1) : ∀ ds env, I ds env → loopD g body Ed ds env
  | [], env, h => hd env h
  | d :: r, env, h => hs d r env _ h fun env' h' => loop_by I hd hs r env' h'
theorem zip_map {α β : Type} (f : α → D) (h : β → D) : ∀ (as : List α) (bs : List β), zipD (as.map f) (bs.map h) = (as.zip bs).map fun p => PyData.tuple [f p.1, h p.2]
  | [], _ => by simp [zipD]
  | _ :: _, [] => by simp [zipD]
  | a :: r, b :: s => by
    rw [List.map_cons, List.map_cons, List.zip_cons_cons, List.map_cons, zipD, zip_map f h r s]
theorem bools_map {α : Type} (f : α → Bool) : ∀ as : List α, boolsOf (as.map fun a => PyData.bool (f a)) = some (as.map f)
  | [] => rfl
  | a :: r => by
    rw [List.map_cons, boolsOf, bools_map f r]
    rfl
theorem ints_map {α : Type} (f : α → Int) : ∀ as : List α, intsOf (as.map fun a => PyData.int (f a)) = some (as.map f)
  | [] => rfl
  | a :: r => by
    rw [List.map_cons, intsOf, ints_map f r]
    rfl
theorem fm_some {α β : Type} (f : α → β) : ∀ as : List α, as.filterMap (fun a => some (f a)) = as.map f
  | [] => rfl
  | a :: r => by rw [List.filterMap_cons, List.map_cons, fm_some f r]
/-! enumerate of a tuple -/
def IteT (K : PySem.W.Frag) (a : Addr) : It :=
  ⟨fun i H => ∃ (zs : List V) (x : V), SqT K H a zs ∧ zs[i]? = some x, fun i H v H' => ∃ T x, v = .ref T ∧ H T = none ∧ H' = upd H T (.tup [.int (i : Nat), x]) ∧ ∀ zs, SqT K H a zs → zs[i]? = some x, fun i H => ∃ zs : List V, SqT K H a zs ∧ i = zs.length⟩
theorem tupne {h : Heap} {a it : Addr} {i : Nat} {us : Array Value} (p : h.IsTuple a us) (q : h.IsTupleIter it a i) : a ≠ it := by
  rintro rfl
  obtain ⟨o, e1, c1, _⟩ := p
  obtain ⟨o', e2, c2, _⟩ := q
  rw [e1] at e2
  cases e2
  rw [c1] at c2
  exact absurd c2 (by decide +kernel)
theorem enumne {h : Heap} {a e it : Addr} {k : Int} {old : Value} {us : Array Value} (p : h.IsTuple a us) (q : IsEnum h e it k old) : e ≠ a := by
  rintro rfl
  obtain ⟨o, e1, c1, _⟩ := p
  rw [show h.get? e = _ from q] at e1
  cases e1
  exact absurd (show (Value.type "enumerate") = Value.type "tuple" from c1) (by decide +kernel)
theorem turn_enumT {P : Program} {w : World} {K : PySem.W.Frag} {elts : List Expr} {kk : Nat} {tpos : Pos} (a e it : Addr) :
    Turn P w K (.Tuple elts kk tpos) (IteT K a) [e, it] e (fun i h => (∃ old, IsEnum h e it ((i : Nat) : Int) old) ∧ h.IsTupleIter it a i ∧ e ≠ it) where
  mem := List.mem_cons_self
  obj := fun i h st b hb => by
    obtain ⟨⟨old, he⟩, ⟨o, ho, _, hd⟩, _⟩ := st
    simp only [List.mem_cons, List.not_mem_nil, or_false] at hb
    rcases hb with rfl | rfl
    · exact ⟨_, he, fun v z => nomatch z⟩
    · exact ⟨o, ho, fun v z => by rw [hd] at z; cases z⟩
  keep := fun i h h' ⟨⟨old, he⟩, hi, hne⟩ k => ⟨⟨old, k e (by simp) _ he⟩, hi.at fun o z => k it (by simp) o z, hne⟩
  item := by
    intro X hP hw hK hc i pins s σ H E J hf ⟨⟨old, he⟩, hit, hne⟩ ⟨zs, x, hq, hx⟩
    subst hP hw hK
    obtain ⟨its, rv, p, hz⟩ := J.tuple hq
    have p' : s.heap.IsTuple a its.toArray := p
    obtain ⟨u, hu, ru⟩ := rv.get hx
    have hil : i < its.toArray.size := by rw [List.size_toArray]; exact (List.getElem?_eq_some_iff.mp hu).1
    have lt_e : e < s.heap.objs.size := Heap.lt_size he
    have lt_it : it < s.heap.objs.size := by obtain ⟨_, z, _⟩ := hit; exact Heap.lt_size z
    refine wpAny_pyNext_enum_itemD (PySem.Draws.tuple (prog := X.prog) (w := X.w) (A := X.A.in1) (J.ok.hd hc) it a (tupne p' hit) its.toArray) he ⟨hit, p'⟩ hil hne (by simp only [List.mem_cons, List.not_mem_nil, or_false]; exact fun z => z.elim hne (enumne p' he)) fun x' h1 tk px ho st1 hT hsz hk => ?_
    rw [List.getElem?_toArray, hu] at px
    cases px
    refine ⟨_, rfl, wpAny_letOwnedTupleGo_enum (s := { s with heap := h1, toks := tk + 1 }) ho fun h2 he2 sb => ?_⟩
    have hT2 : h2.get? s.heap.objs.size = some { cls := .type "tuple", data := .seq #[.int i tk, u] } := (sb.2 _ (Nat.ne_of_gt lt_e)).trans hT
    have new : ObjOk X.prog X.w (upd H s.heap.objs.size (.tup [.int (i : Nat), x])) h2 s.heap.objs.size (.tup [.int (i : Nat), x]) := ⟨by show 2 ≤ sizeLine; decide, [.int i tk, u], .cons ⟨_, rfl⟩ (.cons ru .nil), ⟨_, hT2, rfl, _, rfl⟩⟩
    have J2 : Inv X pins σ (upd H s.heap.objs.size (.tup [.int (i : Nat), x])) { s with heap := h2, toks := tk + 1 } :=
      J.turnedNew (ch := [e, it]) (fun b ob hb z => (sb.2 b (fun y => hb (by simp [y]))).trans (hk b ob (fun y => hb (by simp [y])) (fun y => hb (by simp [y])) z)) hf (Nat.le_refl _) new
    refine ⟨.ref s.heap.objs.size, _, J2, rfl, ⟨_, x, rfl, J.hok.fresh (Nat.le_refl _), rfl, fun ys hy => by rw [J.tuple_inj hy hq]; exact hx⟩, ⟨⟨u, ?_⟩, st1.1.at fun o z => (sb.2 it (Ne.symm hne)).trans z, hne⟩, fun b hb => ?_⟩
    · rw [show ((i + 1 : Nat) : Int) = (i : Int) + 1 by omega]
      exact he2
    · have lb : b < s.heap.objs.size := by
        simp only [List.mem_cons, List.not_mem_nil, or_false] at hb
        rcases hb with rfl | rfl
        · exact lt_e
        · exact lt_it
      rw [upd_ne (Nat.ne_of_lt lb)]
      exact (hf b hb).1
  done := by
    intro X hP hw hK hc i pins s σ H E J hf ⟨⟨old, he⟩, hit, hne⟩ ⟨zs, hq, hx⟩
    subst hP hw hK
    obtain ⟨its, rv, p, hz⟩ := J.tuple hq
    have p' : s.heap.IsTuple a its.toArray := p
    obtain ⟨f0, f1, f2, f3, f4, f5⟩ := hf it (by simp)
    have hl := rv.length
    obtain rfl : i = its.toArray.size := by rw [List.size_toArray]; omega
    exact wpAny_pyNext_enum_endD (PySem.Draws.tuple (prog := X.prog) (w := X.w) (A := X.A.in1) (J.ok.hd hc) it a (tupne p' hit) its.toArray) he ⟨hit, p'⟩ fun h1 eb => ⟨rfl, J.turned (t' := s.toks) (fun b o hb z => eb b o hb z) f0 f1 f3 f4 f5⟩
  self := fun A i s Q E st h => let ⟨⟨_, he⟩, _⟩ := st; wpAny_pyIter_enum he h
set_option maxHeartbeats 4000000 in
theorem meets_enumT (a : Addr) (us : Array Value) (o : Obj) (hc : o.cls = .type "tuple") (n : Nat) (hd : o.data = .seq us n) :
    Meets (Builtin.«enumerate.__new__» ⟨[.type "enumerate", .ref a], []⟩) (fun _ R s => s.heap.get? a = some o ∧
      R (.ok (.ret (.ref (s.heap.push { cls := .type "tuple_iterator", data := .fields #[.ref a, .int 0 0] }).objs.size)))
        { s with heap := (s.heap.push { cls := .type "tuple_iterator", data := .fields #[.ref a, .int 0 0] }).push { cls := .type "enumerate", data := .fields #[.none, .bool false, .ref s.heap.objs.size, rawInt 0, .none, .none] } }) :=   .of_wp fun prog w A R s ⟨hl, h⟩ => by
    obtain ⟨hp, g, d, tk, os⟩ := s
    obtain ⟨c, dct, dt, sl⟩ := o
    replace hc : c = .type "tuple" := hc
    replace hd : dt = .seq us n := hd
    subst hc hd
    have hsub := sub_enumerate
    have tp : Heap.IsTuple (Shared.heap ⟨hp, g, d, tk, os⟩) a us := ⟨_, hl, rfl, n, rfl⟩
    wp_walk using AutoSeq1.wpAny_loadPart' hl
    refine wpAny_stack_any fun st => wpAny_pure ?_
    split
    · rename_i c2 _ _ _ _ _
      cases (c2 == Value.type "enumerate") <;> (wp_walk using AutoSeq1.wpAny_loadPart' hl, wpAny_pyIter_tuple tp; exact ⟨_, rfl, h⟩)
    · wp_walk using AutoSeq1.wpAny_loadPart' hl, wpAny_pyIter_tuple tp
      exact ⟨_, rfl, h⟩
theorem call_enumT {prog : Program} {w : World} {A : Around} {E : Value → Shared → Prop} {s : Shared} {a : Addr} {us : Array Value} {Q : Value → Shared → Prop} (hT : s.heap.IsTuple a us)
    (h : ∀ h1, IsEnum h1 (s.heap.objs.size + 1) s.heap.objs.size 0 .none → h1.IsTupleIter s.heap.objs.size a 0 → h1.objs.size = s.heap.objs.size + 2 → (∀ b o, s.heap.get? b = some o → h1.get? b = some o) → Q (.ref (s.heap.objs.size + 1)) { s with heap := h1 }) :
    wpAny (model prog w) A (call (.type "enumerate") [.ref a]) Q E s := by
  obtain ⟨o, hl, hc, n, hd⟩ := hT
  refine callType_new F.called_enumerate (by decide) (F.typeCall_enumerate_1 _) (F.newCall_enumerate_1 _) (fun obj => F.args_object_init_2 obj _) F.entry_enumerate_new (meets_enumT a us o hc n hd) ⟨hl, ?_⟩
  have sz : (s.heap.push { cls := .type "tuple_iterator", data := .fields #[.ref a, .int 0 0] }).objs.size = s.heap.objs.size + 1 := Heap.size_push ..
  show _ ∧ _
  rw [sz]
  have new : IsEnum ((s.heap.push { cls := .type "tuple_iterator", data := .fields #[.ref a, .int 0 0] }).push { cls := .type "enumerate", data := .fields #[.none, .bool false, .ref s.heap.objs.size, rawInt 0, .none, .none] }) (s.heap.objs.size + 1) s.heap.objs.size 0 .none := by
    have z := Heap.get?_push_size (s.heap.push { cls := .type "tuple_iterator", data := .fields #[.ref a, .int 0 0] }) (o := { cls := .type "enumerate", data := .fields #[.none, .bool false, .ref s.heap.objs.size, rawInt 0, .none, .none] }) rfl
    rw [sz] at z
    exact z
  exact ⟨⟨_, new, rfl⟩, h _ new ⟨_, Heap.get?_push_of_some _ (Heap.get?_push_size _ rfl), rfl, rfl⟩ (by rw [Heap.size_push, sz]) fun b o z => Heap.get?_push_of_some _ (Heap.get?_push_of_some _ z)⟩
def iEnumT (K : PySem.W.Frag) (ta : TA) : TI := fun σ H R => ta σ H fun vs H1 => ∃ a zs, vs = [.ref a] ∧ SqT K H1 a zs ∧ R (IteT K a) H1
theorem pi_enumT {X : Cx} {e : Expr} {ta : TA} {p pos tpos : Pos} {elts : List Expr} {kk : Nat} (hg : Gl X "enumerate") (hm : X.mg "enumerate" = none) (ha : PA X [e] ta) (hs : starEach [e] X.env = [(false, eval e X.env)] := by rfl) :
    PI X (.Tuple elts kk tpos) (.Call (.Name "enumerate" p) [e] [] pos) (iEnumT X.K ta) := ⟨fun pins s σ H R J h => by
  refine Call_ (ld_blt J hg hm boot_enumerate (PyProof.Rows.callWith_type1 (thn (ha.run pos pins s σ H _ J h) fun us s2 ⟨vs, H2, J2, r2, a, zs, ex, hq, q⟩ => ?_) hs rfl))
  subst ex
  cases r2 with
  | cons r rr =>
    cases rr
    cases r
    obtain ⟨its, rv, p', hz⟩ := J2.tuple hq
    refine call_enumT p' fun h1 he hit hsz hk => wpAny_pyIter_enum he ?_
    have J3 : Inv X pins σ H2 { s2 with heap := h1 } := J2.kept (t' := s2.toks) hk
    refine ⟨s2.heap.objs.size + 1, [s2.heap.objs.size + 1, s2.heap.objs.size], _, _, H2, rfl, J3, turn_enumT a (s2.heap.objs.size + 1) s2.heap.objs.size, ⟨⟨.none, he⟩, hit, Nat.succ_ne_self _⟩, fun b hb => ?_, q⟩
    have hle : s2.heap.objs.size ≤ b := by
      simp only [List.mem_cons, List.not_mem_nil, or_false] at hb
      rcases hb with rfl | rfl
      · exact Nat.le_succ _
      · exact Nat.le_refl _
    exact J2.fpOk hle (J2.hok.fresh hle)⟩
section
variable {K : PySem.W.Frag}
theorem iteT_ok {a : Addr} {xs : List V} {ds : List D} {M : Addr → Prop} {H : Hp} (h : TupAt K H M a xs) (r : RepL K H M ds xs) : ItOk K (IteT K a) (enumD 0 ds) M H := fun M' H' t al i => by
  have g1 := (h.to t).sq
  refine ⟨fun l => ⟨xs, g1, by rw [enumD_len, r.len] at l; exact l⟩, fun d e => ?_⟩
  obtain ⟨x, e1, rfl⟩ := enumD_get e
  obtain ⟨v, ev, rv⟩ := r.get e1
  refine ⟨⟨xs, v, g1, ev⟩, fun x' H2 ⟨T, x1, z1, z2, z3, z4⟩ => ?_⟩
  subst z1 z3
  have w1 := z4 xs g1
  rw [ev] at w1
  cases w1
  rw [Nat.zero_add]
  exact ⟨same_upd z2, pair_rep z2 al (.int _) (Rep.to t rv)⟩
def dEnumT (da : Ev → (List D → Prop) → Prop) : Ev → (List D → Prop) → Prop := fun env Q => da env fun xs => match xs with | [.tuple a] => Q (enumD 0 a) | _ => False
theorem ri_enumT {n : Nat} {t : TA} {da : Ev → (List D → Prop) → Prop} (h : RfN K n t da) : RfI K (iEnumT K t) (dEnumT da) := ⟨fun R q k => h.run R q fun ds vs H1 q1 _ s1 r1 => by
  split at q1
  · cases r1 with | cons h1 r1 =>
    cases r1
    cases h1 with | tup h1 r1 =>
    exact ⟨_, _, rfl, h1.sq, k _ _ _ q1 s1 (iteT_ok h1 r1)⟩
  · exact q1.elim⟩
/-! two names at once, one of them owning a new list -/
def dParO1 (i j : Nat) (df : Ev → (List D → Prop) → Prop) (de : Ev → (D → Prop) → Prop) : DS := fun Ed env => i < env.length ∧ i ≠ j ∧ df env fun ds => de env fun x => Ed.nx (eset (eset env i (some (.own ds))) j (some (.d x)))
/-- a new list is shut while more is made -/
theorem RE.shut {A : Addr → Prop} {st : Option (Addr × Addr)} {ow : Nat → Option Addr} {σ : L2.St} {H H1 : Hp} {env : Ev} (R : RE K A st ow σ H env) (s1 : Stp st H H1) {L : Addr} {vs : List V} (n : H L = none) (e : H1 L = some (.lst vs)) : RE K (fun b => A b ∨ b = L) st ow σ H1 env := by
  have R1 := R.step s1
  refine ⟨R1.ls, fun a z => z.elim (R1.dom a) fun y => (by rw [y, e]; intro z; cases z), fun q z => ⟨.inl (R1.sta q z).1, .inl (R1.sta q z).2⟩, R1.al, fun j a z y => y.elim (R1.na j a z) fun w => R.al j a z (w ▸ n), R1.inj, R1.tie, R1.len, fun j' e' he' => ?_⟩
  obtain ⟨u, hu, rr⟩ := R.sl j' e' he'
  have t : To H H1 (Mo A ow) (Mo (fun b => A b ∨ b = L) ow) := ⟨fun b o x m => ⟨((R.toS s1).h b o x m).1, fun z => by
    rcases z with (z | z) | z
    · exact m (.inl z)
    · rw [z, n] at x; cases x
    · exact m (.inr z)⟩⟩
  refine ⟨u, hu, ?_⟩
  cases e' with
  | d x => exact Rep.to t rr
  | own ds =>
    obtain ⟨a, vs, h1, h2, h3, h4⟩ := rr
    exact ⟨a, vs, h1, h2, s1.k a _ h3 fun z => R.na j' a h1 (R.exA a z), RepL.to t h4⟩
  | odk ds =>
    obtain ⟨a, vs, h1, h2, h3, h4⟩ := rr
    exact ⟨a, vs, h1, h2, s1.k a _ h3 fun z => R.na j' a h1 (R.exA a z), RepK.to t h4⟩
  | st => exact rr
theorem owPut_fr {A : Addr → Prop} {st : Option (Addr × Addr)} {H0 H : Hp} {ow : Nat → Option Addr} {σ : L2.St} {env : Ev} (B : BE K A st H0 ow σ H env) {i : Nat} {L : Addr} (n : H L = none) : ∀ j a, owPut ow i L j = some a → H0 a = none := fun j a h => by
  unfold owPut at h
  split at h
  · cases h
    cases z : H0 L with
    | none => rfl
    | some o => rw [B.kp L o z fun y => B.r.ls.ne L y n] at n; cases n
  · exact B.fr j a h
theorem rs_parO1 (i j : Nat) {ta tb : TE} {df : Ev → (List D → Prop) → Prop} {de : Ev → (D → Prop) → Prop} (h : RfF K ta df) (hb : RfE K tb de) : RfS K (tPar i j (tCons ta (tCons tb tNil))) (dParO1 i j df de) := ⟨fun {A st H0 ow σ H env Ed E} B ⟨hi, hij, q⟩ k =>
  h.run B.r q fun ds L vs H1 q1 s1 n e r => by
    have nL : L ∉ exs st := fun z => B.r.ls.ne L z n
    have SH := B.r.shut s1 n e
    refine hb.run SH q1 fun x v H2 q2 s2 r2 => ?_
    have e2 : H2 L = some (.lst vs) := s2.k L _ e nL
    have s12 := s1.trans s2
    have t1 := own_to B.r s12 i n
    have sub : ∀ b, Mo A (owPut ow i L) b → Mo (fun b => A b ∨ b = L) ow b := fun b z => (owPut_sub z).elim (fun y => y.elim (fun y => .inl (.inl y)) .inr) fun y => .inl (.inr y)
    have r3 : RepL K H2 (Mo A (owPut ow i L)) ds vs := RepL.to ((to_less (M' := Mo (fun b => A b ∨ b = L) ow) fun b z => by
      rcases z with (z | z) | z
      · exact .inl (.inl z)
      · exact .inr z
      · exact .inl (.inr z)).trans ((SH.toS s2).trans (to_less sub))) r
    have B1 : BE K A st H0 (owPut ow i L) (σ.set i (some (.ref L))) H2 (eset env i (some (.own ds))) :=
      ⟨B.r.own s12 i n e2 (en := .own ds) ⟨L, vs, by unfold owPut; rw [if_pos rfl], rfl, e2, r3⟩ (.inl ⟨ds, rfl⟩) hi, B.kp.trans s12.k, owPut_fr B n⟩
    exact ⟨_, _, rfl, k.nx _ _ _ _ q2 (B1.put j (Rep.to (to_less sub) r2)) (t1.trans (to_del _ _ _ _))⟩⟩
def dParO2 (i j : Nat) (de : Ev → (D → Prop) → Prop) (df : Ev → (List D → Prop) → Prop) : DS := fun Ed env => j < env.length ∧ de env fun x => df env fun ds => Ed.nx (eset (eset env i (some (.d x))) j (some (.own ds)))
theorem rs_parO2 (i j : Nat) {ta tb : TE} {df : Ev → (List D → Prop) → Prop} {de : Ev → (D → Prop) → Prop} (h : RfE K ta de) (hb : RfF K tb df) : RfS K (tPar i j (tCons ta (tCons tb tNil))) (dParO2 i j de df) := ⟨fun {A st H0 ow σ H env Ed E} B ⟨hj, q⟩ k =>
  h.run B.r q fun x v H1 q1 s1 r1 => hb.run (B.r.step s1) q1 fun ds L vs H2 q2 s2 n e r => by
    have s12 := s1.trans s2
    have n0 := s1.none n
    have r1' : Rep K H2 (Mo A ow) x v := Rep.to ((B.r.step s1).toS s2) r1
    -- the slot i first
    have B1 := (B.step s1).put i r1
    have t0 : To H H1 (Mo A ow) (Mo A (owDel ow i)) := (B.r.toS s1).trans (to_del _ _ _ _)
    have t1 := own_to B1.r s2 j n
    have subD : ∀ b, Mo A (owDel ow i) b → Mo A ow b := fun b => Mo.sub fun j a e => (owDel_sub e).1
    refine ⟨_, _, rfl, k.nx _ _ _ _ q2 ⟨B1.r.own s2 j n e (en := .own ds) ⟨L, vs, by unfold owPut; rw [if_pos rfl], rfl, e, RepL.to (to_less fun b z => (owPut_sub z).imp (subD b) id) r⟩ (.inl ⟨ds, rfl⟩) (by unfold eset; rw [List.length_set]; exact hj), B1.kp.trans s2.k, owPut_fr B1 n⟩ (t0.trans t1)⟩⟩
end
theorem enum_map {α : Type} (f : α → D) : ∀ (as : List α) (k : Nat), enumD k (as.map f) = (as.zipIdx k).map fun p => PyData.tuple [.int (p.2 : Nat), f p.1]
  | [], _ => rfl
  | a :: r, k => by
    rw [List.map_cons, List.zipIdx_cons, List.map_cons, enumD, enum_map f r (k + 1)]
section
variable {K : PySem.W.Frag}
/-- a written dict of the top, asked by a text -/
def dKd (tab : List (Str × D)) (db : Ev → (D → Prop) → Prop) : Ev → (D → Prop) → Prop := fun env Q => db env fun y => match y with
  | .str z => (match tab.lookup z with | some d => Q d | none => False)
  | _ => False
theorem look_mem {α : Type} : ∀ {tab : List (Str × α)} {z : Str} {d : α}, tab.lookup z = some d → (z, d) ∈ tab
  | [], _, _, h => by cases h
  | (k, e) :: r, z, d, h => by
    rw [List.lookup_cons] at h
    by_cases c : z = k
    · subst c
      simp at h
      subst h
      exact List.mem_cons_self
    · have : (z == k) = false := by simpa using c
      rw [this] at h
      exact List.mem_cons_of_mem _ (look_mem h)
theorem re_kd {w : World} {a : Addr} {tb : TE} {db : Ev → (D → Prop) → Prop} (tab : List (Str × D)) (ht : ∀ p ∈ tab, ∃ v, KDct K w a p.1 v ∧ Sc p.2 v) (hb : RfB K tb db) : RfE K (tOp (rIxD K w) (tC (.ref a)) tb) (dKd tab db) := ⟨fun R q k =>
  hb.run R q fun y u H1 q1 s1 r1 => by
    split at q1
    · rename_i z
      cases r1.str
      split at q1
      · rename_i d e
        obtain ⟨v, h1, h2⟩ := ht _ (look_mem e)
        exact ⟨a, z, v, rfl, rfl, h1, k d v H1 q1 s1 h2.rep⟩
      · exact q1.elim
    · exact q1.elim⟩
end
theorem cut_lo {α : Type} (xs : List α) {i : Int} (h : 0 ≤ i) : cutD xs none (some i) = xs.take i.toNat := by
  obtain ⟨n, rfl⟩ := Int.eq_ofNat_of_zero_le h
  unfold cutD
  rw [HT.sIx_none, HT.sIx_nat, List.drop_zero, Nat.sub_zero]
  by_cases h2 : n ≤ xs.length
  · rw [Nat.min_eq_left h2]; rfl
  · rw [Nat.min_eq_right (by omega), List.take_length]
    exact (List.take_of_length_le (by omega)).symm
theorem cut_hi {α : Type} (xs : List α) {i : Int} (h : 0 ≤ i) : cutD xs (some i) none = xs.drop i.toNat := by
  obtain ⟨n, rfl⟩ := Int.eq_ofNat_of_zero_le h
  unfold cutD
  rw [HT.sIx_none, HT.sIx_nat]
  by_cases h2 : n ≤ xs.length
  · rw [Nat.min_eq_left h2]
    exact List.take_of_length_le (by rw [List.length_drop]; exact Nat.le_refl _)
  · rw [Nat.min_eq_right (by omega), List.drop_length, Nat.sub_self, List.take_zero]
    exact (List.drop_of_length_le (by omega)).symm
theorem set_cut {α : Type} {xs : List α} {n : Nat} {x : α} (h : n < xs.length) : xs.take n ++ [x] ++ xs.drop (n + 1) = xs.set n x := by
  rw [List.set_eq_take_append_cons_drop, if_pos h, List.append_assoc]
  rfl
theorem decT {p : Prop} [Decidable p] (h : p) : decide p = true := decide_eq_true h
/-- a draw -/
theorem rng_eq (n : Nat) : rng 0 n = (List.range n).map fun i => PyData.int (i : Nat) := by
  unfold rng
  simp
theorem rng_1 : rng 0 (Int.toNat 1) = [.int 0] := rfl
theorem rng_2 : rng 0 (Int.toNat 2) = [.int 0, .int 1] := rfl
theorem rng_3 : rng 0 (Int.toNat 3) = [.int 0, .int 1, .int 2] := rfl
theorem rng_4 : rng 0 (Int.toNat 4) = [.int 0, .int 1, .int 2, .int 3] := rfl
theorem rng_6 : rng 0 (Int.toNat 6) = [.int 0, .int 1, .int 2, .int 3, .int 4, .int 5] := rfl
theorem rng_len (n : Nat) : (rng 0 n).length = n := by unfold rng; rw [List.length_map, List.length_range]
/-- one of a written row -/
theorem dix_all {ds : List D} {r : Int} {Q : D → Prop} (h0 : 0 ≤ r) (h1 : r < ds.length) (h : ∀ d ∈ ds, Q d) : match dix ds r with | some d => Q d | none => False := by
  have hl : r.toNat < ds.length := by omega
  rw [dix_nn h0 (List.getElem?_eq_getElem hl)]
  exact h _ (List.getElem_mem hl)
theorem dix_two {a b : D} {r : Int} {Q : D → Prop} (h0 : 0 ≤ r) (h1 : r < 2) (ha : Q a) (hb : Q b) : match dix [a, b] r with | some d => Q d | none => False :=   dix_all h0 h1 fun d h => by simp at h; rcases h with rfl | rfl <;> assumption
theorem dix_three {a b c : D} {r : Int} {Q : D → Prop} (h0 : 0 ≤ r) (h1 : r < 3) (ha : Q a) (hb : Q b) (hc : Q c) : match dix [a, b, c] r with | some d => Q d | none => False :=   dix_all h0 h1 fun d h => by simp at h; rcases h with rfl | rfl | rfl <;> assumption
/-- one of a written row of numbers -/
theorem dix_ints {ns : List Int} {r : Int} {Q : D → Prop} (h0 : 0 ≤ r) (h1 : r < ns.length) (h : ∀ n ∈ ns, Q (.int n)) : match dix (ns.map PyData.int) r with | some d => Q d | none => False :=   dix_all h0 (by rw [List.length_map]; exact h1) fun d hd => by
    obtain ⟨n, hn, rfl⟩ := List.mem_map.mp hd
    exact h n hn
/-- a row that is drawn item by item -/
theorem lc_draws {g : D → Ev → (Ev → Prop) → Prop} {c : Ev → (Bool → Prop) → Prop} {e : Ev → (D → Prop) → Prop} {env : Ev} (T : D → Prop) {ds : List D} {Q : List D → Prop}
    (h : ∀ d ∈ ds, ∀ R : Option D → Prop, (∀ x, T x → R (some x)) → g d env fun env1 => c env1 fun b => if b = true then e env1 fun x => R (some x) else R none)
    (q : ∀ xs : List D, xs.length = ds.length → (∀ x ∈ xs, T x) → Q xs) : lcD g c e ds env Q := by
  refine lc_any (fun _ o => ∃ x, T x ∧ o = some x) (fun d hd R hR => h d hd R fun x tx => hR _ ⟨x, tx, rfl⟩) fun os hp => ?_
  have key : ∀ {ds : List D} {os : List (Option D)}, Paired (fun (_ : D) o => ∃ x, T x ∧ o = some x) ds os → (os.filterMap id).length = ds.length ∧ ∀ x ∈ os.filterMap id, T x := by
    intro ds os hp
    induction hp with
    | nil => exact ⟨rfl, fun _ h => nomatch h⟩
    | cons t _ ih =>
      obtain ⟨x, tx, rfl⟩ := t
      rw [List.filterMap_cons]
      exact ⟨congrArg (· + 1) ih.1, fun y hy => (List.mem_cons.mp hy).elim (fun z => z ▸ tx) (ih.2 y)⟩
  exact q _ (key hp).1 (key hp).2
/-! sizes of written rows -/
theorem szn {k w : Nat} : ∀ d ∈ ([] : List D), Sz d k w := fun _ h => nomatch h
theorem szc {d : D} {ds : List D} {k w : Nat} (h : Sz d k w) (hs : ∀ d ∈ ds, Sz d k w) : ∀ e ∈ d :: ds, Sz e k w := fun e he => (List.mem_cons.mp he).elim (fun z => z ▸ h) (hs e)
theorem sI {i : Int} {k w : Nat} (h1 : -1000000000000 < i) (h2 : i < 1000000000000) (hw : 40 ≤ w := by decide) : Sz (.int i) k w := (Sz.int (by omega)).mono (Nat.zero_le _) hw
theorem sBl {b : Bool} {k w : Nat} : Sz (.bool b) k w := (Sz.bool b).mono (Nat.zero_le _) (Nat.zero_le _)
theorem sNo {k w : Nat} : Sz .none k w := Sz.none.mono (Nat.zero_le _) (Nat.zero_le _)
theorem sS {z : Str} {k w : Nat} (h : (PyData.strOk z && decide (z.cps.size ≤ 40)) = true) (hw : 40 ≤ w := by decide) : Sz (.str z) k w := by
  rw [Bool.and_eq_true] at h
  exact (Sz.str h.1 (of_decide_eq_true h.2)).mono (Nat.zero_le _) hw
theorem sT {ds : List D} {k w n k' w' : Nat} (h : ∀ d ∈ ds, Sz d k w) (hn : ds.length ≤ n) (hk : k + 1 ≤ k' := by decide) (hw : n * (w + 1) ≤ w' := by decide) : Sz (.tuple ds) k' w' := (Sz.tup h hn).mono hk hw
theorem sL {ds : List D} {k w n k' w' : Nat} (h : ∀ d ∈ ds, Sz d k w) (hn : ds.length ≤ n) (hk : k + 1 ≤ k' := by decide) (hw : n * (w + 1) ≤ w' := by decide) : Sz (.list ds) k' w' := (Sz.list h hn).mono hk hw
/-! isinstance of each kind -/
theorem it_bool_none  : isTy "bool" .none = false := by simp [isTy]
theorem it_bool_bool {x : Bool} : isTy "bool" (.bool x) = true := by simp [isTy]
theorem it_bool_int {x : Int} : isTy "bool" (.int x) = false := by simp [isTy]
theorem it_bool_str {x : Str} : isTy "bool" (.str x) = false := by simp [isTy]
theorem it_bool_list {x : List D} : isTy "bool" (.list x) = false := by simp [isTy]
theorem it_bool_tuple {x : List D} : isTy "bool" (.tuple x) = false := by simp [isTy]
theorem it_bool_dict {x : List (D × D)} : isTy "bool" (.dict x) = false := by simp [isTy]
theorem it_int_none  : isTy "int" .none = false := by simp [isTy]
theorem it_int_bool {x : Bool} : isTy "int" (.bool x) = true := by simp [isTy]
theorem it_int_int {x : Int} : isTy "int" (.int x) = true := by simp [isTy]
theorem it_int_str {x : Str} : isTy "int" (.str x) = false := by simp [isTy]
theorem it_int_list {x : List D} : isTy "int" (.list x) = false := by simp [isTy]
theorem it_int_tuple {x : List D} : isTy "int" (.tuple x) = false := by simp [isTy]
theorem it_int_dict {x : List (D × D)} : isTy "int" (.dict x) = false := by simp [isTy]
theorem it_str_none  : isTy "str" .none = false := by simp [isTy]
theorem it_str_bool {x : Bool} : isTy "str" (.bool x) = false := by simp [isTy]
theorem it_str_int {x : Int} : isTy "str" (.int x) = false := by simp [isTy]
theorem it_str_str {x : Str} : isTy "str" (.str x) = true := by simp [isTy]
theorem it_str_list {x : List D} : isTy "str" (.list x) = false := by simp [isTy]
theorem it_str_tuple {x : List D} : isTy "str" (.tuple x) = false := by simp [isTy]
theorem it_str_dict {x : List (D × D)} : isTy "str" (.dict x) = false := by simp [isTy]
theorem it_list_none  : isTy "list" .none = false := by simp [isTy]
theorem it_list_bool {x : Bool} : isTy "list" (.bool x) = false := by simp [isTy]
theorem it_list_int {x : Int} : isTy "list" (.int x) = false := by simp [isTy]
theorem it_list_str {x : Str} : isTy "list" (.str x) = false := by simp [isTy]
theorem it_list_list {x : List D} : isTy "list" (.list x) = true := by simp [isTy]
theorem it_list_tuple {x : List D} : isTy "list" (.tuple x) = false := by simp [isTy]
theorem it_list_dict {x : List (D × D)} : isTy "list" (.dict x) = false := by simp [isTy]
theorem it_tuple_none  : isTy "tuple" .none = false := by simp [isTy]
theorem it_tuple_bool {x : Bool} : isTy "tuple" (.bool x) = false := by simp [isTy]
theorem it_tuple_int {x : Int} : isTy "tuple" (.int x) = false := by simp [isTy]
theorem it_tuple_str {x : Str} : isTy "tuple" (.str x) = false := by simp [isTy]
theorem it_tuple_list {x : List D} : isTy "tuple" (.list x) = false := by simp [isTy]
theorem it_tuple_tuple {x : List D} : isTy "tuple" (.tuple x) = true := by simp [isTy]
theorem it_tuple_dict {x : List (D × D)} : isTy "tuple" (.dict x) = false := by simp [isTy]
theorem it_dict_none  : isTy "dict" .none = false := by simp [isTy]
theorem it_dict_bool {x : Bool} : isTy "dict" (.bool x) = false := by simp [isTy]
theorem it_dict_int {x : Int} : isTy "dict" (.int x) = false := by simp [isTy]
theorem it_dict_str {x : Str} : isTy "dict" (.str x) = false := by simp [isTy]
theorem it_dict_list {x : List D} : isTy "dict" (.list x) = false := by simp [isTy]
theorem it_dict_tuple {x : List D} : isTy "dict" (.tuple x) = false := by simp [isTy]
theorem it_dict_dict {x : List (D × D)} : isTy "dict" (.dict x) = true := by simp [isTy]
theorem eqv_nf {a b : D} (hb : okD b = true) (e : a = b) : ¬ PyData.eqv a b = false := by
  subst e
  rw [eqv_same hb]
  exact Bool.noConfusion
theorem ite_nf {a b : D} {X Y : Prop} (hb : okD b = true) (e : a = b) (h : Y) : if PyData.eqv a b = false then X else Y := by
  rw [if_neg (eqv_nf hb e)]
  exact h
theorem bool_eqv {a b : D} (hb : okD b = true) (e : a = b) : PyData.bool (PyData.eqv a b) = PyData.bool true := by
  subst e
  rw [eqv_same hb]
def topS (i : Nat) : Stmt := PySem.Challenge.pw_onepolicy_k62_leaves_field_by_field.main.body.getD i (.Pass ⟨0, 0, 0, 0⟩)
abbrev s_fate_of : Stmt := topS 1
abbrev Ns_fate_of : List Str := ["table", "index", "rules", "last"]
theorem x_fate_of : FnScope Ns_fate_of ["table", "index"] (defScope s_fate_of) := ⟨rfl, rfl, rfl, by decide +kernel, rfl, by decide +kernel, by decide +kernel⟩
abbrev s_meets_range : Stmt := topS 3
abbrev Ns_meets_range : List Str := ["row", "part", "low", "high", "start", "end"]
theorem x_meets_range : FnScope Ns_meets_range ["row", "part"] (defScope s_meets_range) := ⟨rfl, rfl, rfl, by decide +kernel, rfl, by decide +kernel, by decide +kernel⟩
abbrev s_contains_range : Stmt := topS 4
abbrev Ns_contains_range : List Str := ["row", "part", "low", "high", "start", "end"]
theorem x_contains_range : FnScope Ns_contains_range ["row", "part"] (defScope s_contains_range) := ⟨rfl, rfl, rfl, by decide +kernel, rfl, by decide +kernel, by decide +kernel⟩
abbrev s_meets : Stmt := topS 5
abbrev Ns_meets : List Str := ["match", "box", "row", "part"]
theorem x_meets : FnScope Ns_meets ["match", "box"] (defScope s_meets) := ⟨rfl, rfl, rfl, by decide +kernel, rfl, by decide +kernel, by decide +kernel⟩
abbrev s_contains : Stmt := topS 6
abbrev Ns_contains : List Str := ["match", "box", "row", "part"]
theorem x_contains : FnScope Ns_contains ["match", "box"] (defScope s_contains) := ⟨rfl, rfl, rfl, by decide +kernel, rfl, by decide +kernel, by decide +kernel⟩
abbrev s_meeting : Stmt := topS 7
abbrev Ns_meeting : List Str := ["table", "box", "index", "rule"]
theorem x_meeting : FnScope Ns_meeting ["table", "box"] (defScope s_meeting) := ⟨rfl, rfl, rfl, by decide +kernel, rfl, by decide +kernel, by decide +kernel⟩
abbrev s_decides : Stmt := topS 8
abbrev Ns_decides : List Str := ["table", "box", "index"]
theorem x_decides : FnScope Ns_decides ["table", "box", "index"] (defScope s_decides) := ⟨rfl, rfl, rfl, by decide +kernel, rfl, by decide +kernel, by decide +kernel⟩
abbrev s_is_alike : Stmt := topS 9
abbrev Ns_is_alike : List Str := ["table", "box", "index"]
theorem x_is_alike : FnScope Ns_is_alike ["table", "box", "index"] (defScope s_is_alike) := ⟨rfl, rfl, rfl, by decide +kernel, rfl, by decide +kernel, by decide +kernel⟩
abbrev s_is_decided : Stmt := topS 10
abbrev Ns_is_decided : List Str := ["table", "box", "met", "index", "rules"]
theorem x_is_decided : FnScope Ns_is_decided ["table", "box", "met", "index"] (defScope s_is_decided) := ⟨rfl, rfl, rfl, by decide +kernel, rfl, by decide +kernel, by decide +kernel⟩
abbrev sU_is_alike : Stmt := topS 11
abbrev NsU_is_alike : List Str := ["table", "box", "met", "index", "rules", "fate", "other"]
theorem xU_is_alike : FnScope NsU_is_alike ["table", "box", "met", "index"] (defScope sU_is_alike) := ⟨rfl, rfl, rfl, by decide +kernel, rfl, by decide +kernel, by decide +kernel⟩
abbrev s_law_state : Stmt := topS 13
abbrev Ns_law_state : List Str := ["script", "cells", "cell"]
theorem x_law_state : FnScope Ns_law_state ["script"] (defScope s_law_state) := ⟨rfl, rfl, rfl, by decide +kernel, rfl, by decide +kernel, by decide +kernel⟩
abbrev s_law_take : Stmt := topS 14
abbrev Ns_law_take : List Str := ["state", "most", "cells", "at", "cell", "mixed"]
theorem x_law_take : FnScope Ns_law_take ["state", "most"] (defScope s_law_take) := ⟨rfl, rfl, rfl, by decide +kernel, rfl, by decide +kernel, by decide +kernel⟩
abbrev s_law_row : Stmt := topS 15
abbrev Ns_law_row : List Str := ["state", "most", "kind", "found", "low", "k", "high"]
theorem x_law_row : FnScope Ns_law_row ["state", "most"] (defScope s_law_row) := ⟨rfl, rfl, rfl, by decide +kernel, rfl, by decide +kernel, by decide +kernel⟩
abbrev s_law_match : Stmt := topS 16
abbrev Ns_law_match : List Str := ["state", "found", "turn", "field", "most"]
theorem x_law_match : FnScope Ns_law_match ["state"] (defScope s_law_match) := ⟨rfl, rfl, rfl, by decide +kernel, rfl, by decide +kernel, by decide +kernel⟩
abbrev s_law_table : Stmt := topS 17
abbrev Ns_law_table : List Str := ["state", "most", "fates", "rules", "k", "names"]
theorem x_law_table : FnScope Ns_law_table ["state", "most"] (defScope s_law_table) := ⟨rfl, rfl, rfl, by decide +kernel, rfl, by decide +kernel, by decide +kernel⟩
abbrev s_law_in : Stmt := topS 18
abbrev Ns_law_in : List Str := ["match", "point", "found", "k", "low", "high"]
theorem x_law_in : FnScope Ns_law_in ["match", "point"] (defScope s_law_in) := ⟨rfl, rfl, rfl, by decide +kernel, rfl, by decide +kernel, by decide +kernel⟩
abbrev s_law_decider : Stmt := topS 19
abbrev Ns_law_decider : List Str := ["table", "point", "k"]
theorem x_law_decider : FnScope Ns_law_decider ["table", "point"] (defScope s_law_decider) := ⟨rfl, rfl, rfl, by decide +kernel, rfl, by decide +kernel, by decide +kernel⟩
abbrev s_law_fate : Stmt := topS 20
abbrev Ns_law_fate : List Str := ["table", "k"]
theorem x_law_fate : FnScope Ns_law_fate ["table", "k"] (defScope s_law_fate) := ⟨rfl, rfl, rfl, by decide +kernel, rfl, by decide +kernel, by decide +kernel⟩
abbrev s_law_corners : Stmt := topS 21
abbrev Ns_law_corners : List Str := ["state", "table", "found", "field", "most", "numbers", "match", "fate", "names", "low", "high", "one", "other"]
theorem x_law_corners : FnScope Ns_law_corners ["state", "table"] (defScope s_law_corners) := ⟨rfl, rfl, rfl, by decide +kernel, rfl, by decide +kernel, by decide +kernel⟩
abbrev s_law_touches : Stmt := topS 22
abbrev Ns_law_touches : List Str := ["match", "box", "count", "k", "low", "high"]
theorem x_law_touches : FnScope Ns_law_touches ["match", "box"] (defScope s_law_touches) := ⟨rfl, rfl, rfl, by decide +kernel, rfl, by decide +kernel, by decide +kernel⟩
abbrev s_law_covers : Stmt := topS 23
abbrev Ns_law_covers : List Str := ["match", "box", "count", "k", "low", "high"]
theorem x_law_covers : FnScope Ns_law_covers ["match", "box"] (defScope s_law_covers) := ⟨rfl, rfl, rfl, by decide +kernel, rfl, by decide +kernel, by decide +kernel⟩
abbrev s_law_rule_leaf : Stmt := topS 24
abbrev Ns_law_rule_leaf : List Str := ["table", "box", "k", "j"]
theorem x_law_rule_leaf : FnScope Ns_law_rule_leaf ["table", "box", "k"] (defScope s_law_rule_leaf) := ⟨rfl, rfl, rfl, by decide +kernel, rfl, by decide +kernel, by decide +kernel⟩
abbrev s_law_fate_leaf : Stmt := topS 25
abbrev Ns_law_fate_leaf : List Str := ["table", "box", "k", "match", "fate", "names"]
theorem x_law_fate_leaf : FnScope Ns_law_fate_leaf ["table", "box", "k"] (defScope s_law_fate_leaf) := ⟨rfl, rfl, rfl, by decide +kernel, rfl, by decide +kernel, by decide +kernel⟩
abbrev s_law_inner : Stmt := topS 26
abbrev Ns_law_inner : List Str := ["state", "box", "found", "low", "high"]
theorem x_law_inner : FnScope Ns_law_inner ["state", "box"] (defScope s_law_inner) := ⟨rfl, rfl, rfl, by decide +kernel, rfl, by decide +kernel, by decide +kernel⟩
abbrev s_law : Stmt := topS 27
abbrev Ns_law : List Str := ["script", "state", "table", "kept", "count", "turn", "box", "match", "fate", "names", "points", "k", "point", "at", "number"]
theorem x_law : FnScope Ns_law ["script"] (defScope s_law) := ⟨rfl, rfl, rfl, by decide +kernel, rfl, by decide +kernel, by decide +kernel⟩
/-- what the top has written -/
structure Df (K : PySem.W.Frag) (mg : Str → Option Value) (x : Str) (st : Stmt) (ps : List Str) (a : Addr) (fd : FuncData) : Prop where
  F : Fun K x x st a fd
  b : Binds K fd ps []
  g : mg x = some (.ref a)
structure Tx (K : PySem.W.Frag) (mg : Str → Option Value) where
  ad_fate_of : Addr
  fd_fate_of : FuncData
  d_fate_of : Df K mg "fate_of" s_fate_of ["table", "index"] ad_fate_of fd_fate_of
  ad_meets_range : Addr
  fd_meets_range : FuncData
  d_meets_range : Df K mg "meets_range" s_meets_range ["row", "part"] ad_meets_range fd_meets_range
  ad_contains_range : Addr
  fd_contains_range : FuncData
  d_contains_range : Df K mg "contains_range" s_contains_range ["row", "part"] ad_contains_range fd_contains_range
  ad_meets : Addr
  fd_meets : FuncData
  d_meets : Df K mg "meets" s_meets ["match", "box"] ad_meets fd_meets
  ad_contains : Addr
  fd_contains : FuncData
  d_contains : Df K mg "contains" s_contains ["match", "box"] ad_contains fd_contains
  ad_meeting : Addr
  fd_meeting : FuncData
  d_meeting : Df K mg "meeting" s_meeting ["table", "box"] ad_meeting fd_meeting
  ad_decides : Addr
  fd_decides : FuncData
  d_decides : Df K mg "decides" s_decides ["table", "box", "index"] ad_decides fd_decides
  ad_is_alike : Addr
  fd_is_alike : FuncData
  d_is_alike : Df K mg "is_alike" s_is_alike ["table", "box", "index"] ad_is_alike fd_is_alike
  ad_is_decided : Addr
  fd_is_decided : FuncData
  d_is_decided : Df K mg "_is_decided" s_is_decided ["table", "box", "met", "index"] ad_is_decided fd_is_decided
  adU_is_alike : Addr
  fdU_is_alike : FuncData
  dU_is_alike : Df K mg "_is_alike" sU_is_alike ["table", "box", "met", "index"] adU_is_alike fdU_is_alike
  ad_law_state : Addr
  fd_law_state : FuncData
  d_law_state : Df K mg "_law_state" s_law_state ["script"] ad_law_state fd_law_state
  ad_law_take : Addr
  fd_law_take : FuncData
  d_law_take : Df K mg "_law_take" s_law_take ["state", "most"] ad_law_take fd_law_take
  ad_law_row : Addr
  fd_law_row : FuncData
  d_law_row : Df K mg "_law_row" s_law_row ["state", "most"] ad_law_row fd_law_row
  ad_law_match : Addr
  fd_law_match : FuncData
  d_law_match : Df K mg "_law_match" s_law_match ["state"] ad_law_match fd_law_match
  ad_law_table : Addr
  fd_law_table : FuncData
  d_law_table : Df K mg "_law_table" s_law_table ["state", "most"] ad_law_table fd_law_table
  ad_law_in : Addr
  fd_law_in : FuncData
  d_law_in : Df K mg "_law_in" s_law_in ["match", "point"] ad_law_in fd_law_in
  ad_law_decider : Addr
  fd_law_decider : FuncData
  d_law_decider : Df K mg "_law_decider" s_law_decider ["table", "point"] ad_law_decider fd_law_decider
  ad_law_fate : Addr
  fd_law_fate : FuncData
  d_law_fate : Df K mg "_law_fate" s_law_fate ["table", "k"] ad_law_fate fd_law_fate
  ad_law_corners : Addr
  fd_law_corners : FuncData
  d_law_corners : Df K mg "_law_corners" s_law_corners ["state", "table"] ad_law_corners fd_law_corners
  ad_law_touches : Addr
  fd_law_touches : FuncData
  d_law_touches : Df K mg "_law_touches" s_law_touches ["match", "box"] ad_law_touches fd_law_touches
  ad_law_covers : Addr
  fd_law_covers : FuncData
  d_law_covers : Df K mg "_law_covers" s_law_covers ["match", "box"] ad_law_covers fd_law_covers
  ad_law_rule_leaf : Addr
  fd_law_rule_leaf : FuncData
  d_law_rule_leaf : Df K mg "_law_rule_leaf" s_law_rule_leaf ["table", "box", "k"] ad_law_rule_leaf fd_law_rule_leaf
  ad_law_fate_leaf : Addr
  fd_law_fate_leaf : FuncData
  d_law_fate_leaf : Df K mg "_law_fate_leaf" s_law_fate_leaf ["table", "box", "k"] ad_law_fate_leaf fd_law_fate_leaf
  ad_law_inner : Addr
  fd_law_inner : FuncData
  d_law_inner : Df K mg "_law_inner" s_law_inner ["state", "box"] ad_law_inner fd_law_inner
  ad_law : Addr
  fd_law : FuncData
  d_law : Df K mg "law" s_law ["script"] ad_law fd_law
  b_len : mg "len" = none
  b_zip : mg "zip" = none
  b_enumerate : mg "enumerate" = none
  b_abs : mg "abs" = none
  b_int : mg "int" = none
  b_range : mg "range" = none
  b_tuple : mg "tuple" = none
  b_max : mg "max" = none
  b_min : mg "min" = none
  b_repr : mg "repr" = none
section
variable {P : Program} {w : World} {K : PySem.W.Frag} {mg : Str → Option Value} {base : Heap}
theorem ixL0 {K : PySem.W.Frag} {H : Hp} {a : Addr} {xs : List V} {i : Int} {v : V} {Q : VK} (h : H a = some (.lst xs)) (hi : atI xs i = some v) (q : Q v H) : rIx K (.ref a) (.int i) H Q :=
  .inl ⟨a, xs, i, v, rfl, rfl, SqL.of h, hi, q⟩
theorem fits64 {m : Int} (h0 : 0 < m) (h : m < 2 ^ 64) : CDivW 0 m := wide_div (b := 64) h0 (by omega) (by decide) (by decide)
theorem ok0_law_take (T : Tx K mg) : FnOk P w K mg base CX0 1 T.ad_law_take T.fd_law_take ["state", "most"] spTake := by
  refine T.d_law_take.F.ok x_law_take (fun vs H Q E h => ?_) (fun cdv A outer s H vs Q E hr h => ?_)
  · obtain ⟨p, c, m, rfl, _⟩ := h
    rfl
  · obtain ⟨p, c, m, rfl, hL, hm0, hm, q0⟩ := h
    have nd := x_law_take.nd
    have npc := hL.ne
    have q : ∀ (r : Int) (H' : Hp), 0 ≤ r → (r < m ∨ r < 1) → LS H' p c → Keep [p, c] H H' → Q (.int r) H' := fun r H' h0 h1 => q0 r H' h0 (by omega)
    obtain ⟨k, ns, h1, h2, h3⟩ := id hL
    refine ⟨_, (pss_cons (ps_set (i := 2) nd rfl (Or.inl rfl) (pe_ix ix_seq (pv 0) pe_int (fun _ _ => rfl)))
        (pss_cons (ps_set (i := 3) nd rfl (Or.inl rfl) (pe_op op_mod (pe_callTy call_int1 (by rfl) T.b_int (by decide +kernel) (pa_cons (pe_ix ix_seq (pv 0) pe_int (fun _ _ => rfl)) pa_nil)) (pe_callB call_len_seq (by rfl) T.b_len (by decide +kernel) (pa_cons (pv 2) pa_nil))))
        (pss_cons (ps_set (i := 4) nd rfl (Or.inl rfl) (pe_ix ix_seq (pv 2) (pv 3) (fun _ _ => rfl)))
        (pss_cons (ps_if (pt_cmpR op_ge (pv 4) pe_int (nomark _)) (pss_cons (ps_asg (pe_op op_fdivW (pv 4) (pv 1)) (pg_sub (pv 2) (pv 3) set_list))
        (pss_one (ps_ret (pe_op op_mod (pe_callTy call_int1 (by rfl) T.b_int (by decide +kernel) (pa_cons (pv 4) pa_nil)) (pv 1))))) pss_nil)
        (pss_cons (ps_asg (pe_op op_add (pe_ix ix_seq (pv 0) pe_int (fun _ _ => rfl)) pe_int) (pg_sub (pv 0) pe_int set_list))
        (pss_cons (ps_set (i := 5) nd rfl (Or.inl rfl) (pe_op op_mod (pe_callTy call_int1 (by rfl) T.b_int (by decide +kernel) (pa_cons (pe_op op_add (pe_op op_mul (pv 4) pe_int) (pe_op op_mul (pe_ix ix_seq (pv 0) pe_int (fun _ _ => rfl)) pe_int)) pa_nil)) pe_int))
        (pss_cons (ps_set (i := 5) nd rfl (Or.inl rfl) (pe_op op_mod (pe_callTy call_int1 (by rfl) T.b_int (by decide +kernel) (pa_cons (pe_op op_add (pe_op op_mul (pv 5) pe_int) (pe_op op_mul (pe_ix ix_seq (pv 0) pe_int (fun _ _ => rfl)) pe_int)) pa_nil)) pe_int))
        (pss_one (ps_ret (pe_op op_mod (pe_callTy call_int1 (by rfl) T.b_int (by decide +kernel) (pa_cons (pe_op op_fdiv (pv 5) pe_int) pa_nil)) (pv 1))))))))))), ?_⟩
    have cd : ∀ x : Int, CDivW x m := fun x => fits64 hm0 hm
    have hl0 : (ns.map V.int) ≠ [] := by
      cases ns with
      | nil => exact absurd rfl h3
      | cons _ _ => intro z; cases z
    obtain ⟨j, v, ej, hj, hv⟩ := at_mod hl0 k
    have hjn : j < ns.length := by rw [List.length_map] at hj; exact hj
    obtain ⟨x, hx, rfl⟩ : ∃ x, ns[j]? = some x ∧ v = V.int x := by
      rw [List.getElem?_map] at hv
      cases e : ns[j]? with
      | none => rw [e] at hv; cases hv
      | some x => rw [e] at hv; exact ⟨x, rfl, (Option.some.inj hv).symm⟩
    have hpos : (0 : Int) < ((ns.map V.int).length : Int) := by omega
    refine ⟨_, rfl, ixL0 h1 (atI_nat (j := 1) rfl) ?_⟩
    refine ⟨_, rfl, ixL0 h1 (atI_nat (j := 0) rfl) (.inl ⟨_, rfl, ?_⟩)⟩
    refine ⟨_, rfl, _, _, rfl, .inl (SqL.of h2), _, _, rfl, rfl, hpos, ?_⟩
    refine ⟨_, rfl, _, rfl, ixL0 h2 (at_of ej hv) ?_⟩
    refine ⟨_, rfl, _, _, rfl, rfl, _, rfl, ite2 (fun eb => ?_) (fun eb => ?_)⟩
    · refine ⟨_, rfl, _, rfl, _, _, rfl, rfl, cd _, _, rfl, _, rfl, _, _, _, j, rfl, rfl, h2, ?_, ?_⟩
      · rw [ej]
        unfold ixN
        rw [if_pos (by omega), if_pos (by omega)]
        exact congrArg some (by omega)
      · refine ⟨_, rfl, .inl ⟨_, rfl, _, rfl, _, _, rfl, rfl, hm0, ?_⟩⟩
        have r := emod_rng x (m := m) hm0
        refine q _ _ r.1 (.inl r.2) ⟨k, ns.set j (x / m), by rw [upd_ne npc]; exact h1, by rw [upd_same, List.map_set], ?_⟩ fun b o e hb => by
          rw [upd_ne (fun z => hb (by rw [z]; simp))]
          exact e
        intro z
        have zz := congrArg List.length z
        rw [List.length_set] at zz
        have : ns.length = 0 := zz
        omega
    · refine ⟨_, rfl, ixL0 h1 (atI_nat (j := 0) rfl) ⟨_, _, rfl, rfl, _, rfl, _, _, _, 0, rfl, rfl, h1, rfl, ?_⟩⟩
      have g1 : (upd H p (.lst ([V.int k, V.ref c].set 0 (.int (k + 1))))) p = some (.lst [V.int (k + 1), V.ref c]) := upd_same
      have hL' : LS (upd H p (.lst ([V.int k, V.ref c].set 0 (.int (k + 1))))) p c := ⟨k + 1, ns, g1, by rw [upd_ne npc.symm]; exact h2, h3⟩
      have hk : Keep [p, c] H (upd H p (.lst ([V.int k, V.ref c].set 0 (.int (k + 1))))) := fun b o e hb => by
        rw [upd_ne (fun z => hb (by rw [z]; simp))]
        exact e
      generalize upd H p (.lst ([V.int k, V.ref c].set 0 (.int (k + 1)))) = H1 at g1 hL' hk ⊢
      refine ⟨_, rfl, _, _, rfl, rfl, .inr ⟨by decide, by decide⟩, _, rfl, ixL0 g1 (atI_nat (j := 0) rfl) ⟨_, _, rfl, rfl, .inr ⟨by decide, by decide⟩, _, _, rfl, rfl, .inl ⟨_, rfl, _, _, rfl, rfl, (by show (0 : Int) < 2147483647; decide), ?_⟩⟩⟩
      refine ⟨_, rfl, _, _, rfl, rfl, .inr ⟨by decide, by decide⟩, _, rfl, ixL0 g1 (atI_nat (j := 0) rfl) ⟨_, _, rfl, rfl, .inr ⟨by decide, by decide⟩, _, _, rfl, rfl, .inl ⟨_, rfl, _, _, rfl, rfl, (by show (0 : Int) < 1000000007; decide), ?_⟩⟩⟩
      refine ⟨_, rfl, _, _, rfl, rfl, ⟨by decide, by decide⟩, .inl ⟨_, rfl, _, rfl, _, _, rfl, rfl, hm0, ?_⟩⟩
      have r := emod_rng ((((x * 48271 + (k + 1) * 69621) % 2147483647 * 16807 + (k + 1) * 7919) % 1000000007) / 7) (m := m) hm0
      exact q _ _ r.1 (.inl r.2) hL' hk
theorem ok_law_take (T : Tx K mg) : FnOk P w K mg base CX0 1 T.ad_law_take T.fd_law_take ["state", "most"] (spS K (F1 sTake)) := (ok0_law_take T).imp take_of
theorem ok_law_state (T : Tx K mg) : FnOk P w K mg base CX0 1 T.ad_law_state T.fd_law_state ["script"] (spState K) := by
  refine T.d_law_state.F.ok x_law_state (fun vs H Q E h => ?_) (fun cdv A outer s H vs Q E hr h => ?_)
  · obtain ⟨a, ns, rfl, _⟩ := h
    rfl
  · obtain ⟨a, ns, rfl, hS, hlen, q⟩ := h
    have nd := x_law_state.nd
    refine ⟨_, (pss_cons (ps_setLc (i := 1) (own := [("cell", 2)]) (g := (gName 2)) rfl nd rfl rfl (sw_true rfl rfl rfl (by decide +kernel)) (pi_list (pe_slice sl_list (pv 0) po_none (po_some pe_int))) (blkOk_by (own := [("cell", 2)]) (N := Ns_law_state) (sc := defScope s_law_state) (by decide +kernel)) (fun _ _ _ _ _ => (pg_name (i := 2) nd rfl (Or.inl rfl))) (fun _ _ _ _ _ => pts_nil) (fun _ _ _ _ _ => (pe_callB call_abs (by rfl) T.b_abs (by decide +kernel) (pa_cons (pv 2) pa_nil))))
        (pss_cons (ps_if (pt_cmpR op_eq (pe_callB call_len_seq (by rfl) T.b_len (by decide +kernel) (pa_cons (pv 1) pa_nil)) pe_int (nomark _)) (pss_one (ps_set (i := 1) nd rfl (Or.inl rfl) (pe_lst (pa_cons pe_int pa_nil)))) pss_nil)
        (pss_one (ps_ret (pe_lst (pa_cons pe_int (pa_cons (pv 1) pa_nil))))))), ?_⟩
    have hml : (ns.map V.int).length ≤ 63 := by rw [List.length_map]; exact hlen
    refine ⟨_, rfl, 63, rfl, a, _, rfl, hS, fun p np => ?_⟩
    rw [cut63 _ hml]
    have g0 : (upd H p (.lst (ns.map V.int))) p = some (.lst (ns.map V.int)) := upd_same
    have s0 : Same H (upd H p (.lst (ns.map V.int))) := same_upd np
    generalize upd H p (.lst (ns.map V.int)) = H0 at g0 s0 ⊢
    refine ⟨p, rfl, ⟨_, SqL.of g0⟩, fun L hD => lc_list (K := K) (a := p) (xs := ns.map V.int) (fun i H1 => Same H0 H1 ∧ H1 L = some (.lst (((ns.take i).map fun x => if x < 0 then -x else x).map V.int))) ⟨same_upd hD, upd_same⟩ (fun i H1 _ z => SqL.of (z.1 _ _ g0)) ?_ ?_⟩
    · rintro i x H1 hi ⟨s1, g1⟩
      obtain ⟨z, hz, rfl⟩ : ∃ z, ns[i]? = some z ∧ x = V.int z := by
        rw [List.getElem?_map] at hi
        cases e : ns[i]? with
        | none => rw [e] at hi; cases hi
        | some z => rw [e] at hi; exact ⟨z, rfl, (Option.some.inj hi).symm⟩
      have hil := (List.getElem?_eq_some_iff.mp hz).1
      refine ⟨rfl, ?_⟩
      refine ⟨_, rfl, z, rfl, _, g1, ?_, fun b o e => ?_, ?_⟩
      · rw [List.length_map, List.length_map, List.length_take]
        exact small1000 (by omega)
      · rw [upd_ne (ne_of_none e hD)]
        exact s1 _ _ e
      · rw [upd_same, List.take_add_one, hz]
        simp
    · rintro H1 ⟨s1, g1⟩
      rw [List.length_map, List.take_length] at g1
      have np2 : H L = none := s0.free hD
      refine ⟨_, rfl, L, _, rfl, .inl (SqL.of g1), rfl, _, rfl, ite2 (fun e => ?_) (fun e => ?_)⟩
      · refine ⟨by show 1 ≤ sizeLine; decide, fun c hc => ?_⟩
        refine ⟨_, rfl, by show 2 ≤ sizeLine; decide, fun r hr' => ?_⟩
        have s2 : Same H1 (upd H1 c (.lst [.int 0])) := same_upd hc
        have s3 : Same (upd H1 c (.lst [.int 0])) (upd (upd H1 c (.lst [.int 0])) r (.lst [.int 0, .ref c])) := same_upd hr'
        refine q r c _ ⟨0, [0], upd_same, s3 _ _ upd_same, by intro z; cases z⟩ (s0.trans (s1.trans (s2.trans s3))) ?_ ?_
        · exact s0.free (s1.free (s2.free hr'))
        · exact s0.free (s1.free hc)
      · refine ⟨_, rfl, by show 2 ≤ sizeLine; decide, fun r hr' => ?_⟩
        have s3 : Same H1 (upd H1 r (.lst [.int 0, .ref L])) := same_upd hr'
        refine q r L _ ⟨0, _, upd_same, s3 _ _ g1, ?_⟩ (s0.trans (s1.trans s3)) (s0.free (s1.free hr')) np2
        intro z
        refine e (decide_eq_true (congrArg V.int ?_))
        rw [List.length_map, z]
        rfl
end

abbrev Row := List (Int × Int)
abbrev Rule := List Row × D × D
abbrev Tb := List Rule × D × D
def eR (r : Int × Int) : D := .tuple [.int r.1, .int r.2]
def eRow (r : Row) : D := .tuple (r.map eR)
def eM (m : List Row) : D := .tuple (m.map eRow)
def eB (b : Row) : D := .tuple (b.map eR)
def eRu (u : Rule) : D := .tuple [eM u.1, u.2.1, u.2.2]
def eT (t : Tb) : D := .tuple [.tuple (t.1.map eRu), .tuple [t.2.1, t.2.2]]
def eP (p : List Int) : D := .tuple (p.map PyData.int)
def tch (r : Row) (p : Int × Int) : Bool := r.any fun s => decide (s.1 ≤ p.2) && decide (p.1 ≤ s.2)
def cov (r : Row) (p : Int × Int) : Bool := r.any fun s => decide (s.1 ≤ p.1) && decide (p.2 ≤ s.2)
def tchs (m : List Row) (b : Row) : Bool := (m.zip b).all fun p => tch p.1 p.2
def covs (m : List Row) (b : Row) : Bool := (m.zip b).all fun p => cov p.1 p.2
def fateAt (t : Tb) (k : Nat) : D := match t.1[k]? with | some u => u.2.1 | none => t.2.1
def met (b : Row) (us : List Rule) : List Nat := us.zipIdx.filterMap fun p => if tchs p.1.1 b = true then some p.2 else none
section
variable {P : Program} {w : World} {K : PySem.W.Frag} {mg : Str → Option Value} {base : Heap}
theorem ok_fate_of (T : Tx K mg) : FnOk P w K mg base CX0 1 T.ad_fate_of T.fd_fate_of ["table", "index"] (spD K (F2 fun a b Q => ∃ t i, a = eT t ∧ b = .int i ∧ 0 ≤ i ∧ i ≤ t.1.length ∧ Q (fateAt t i.toNat))) := by
  refine T.d_fate_of.F.ok x_fate_of (fun vs H Q E h => spD_len F2_len h) (fun cdv A outer s H vs Q E hr h => ?_)
  have nd := x_fate_of.nd
  refine ⟨_, (pss_cons (ps_asg (pv 0) (pg_tup (n := 2) rfl (pgs_cons (pg_name (i := 2) nd rfl (Or.inl rfl)) (pgs_cons (pg_name (i := 3) nd rfl (Or.inl rfl)) pgs_nil))))
        (pss_one (ps_ret (pe_ifExp (pt_cmpR op_eq (pv 1) (pe_callB call_len_seq (by rfl) T.b_len (by decide +kernel) (pa_cons (pv 2) pa_nil)) (nomark _)) (pe_ix ix_seq (pv 3) pe_int (fun _ _ => rfl)) (pe_ix ix_seq (pe_ix ix_seq (pv 2) (pv 1) (fun _ _ => rfl)) pe_int (fun _ _ => rfl)))))), fn_pure ((rs_seq (rs_asg (rn 0) (rg_tup (rg_cons (rg_name 2) (rg_cons (rg_name 3) rg_nil))))
        (rs_ret (re_if (rt_test (ro rv_eq (RfE.b (rn 1)) (RfE.b (re_cb ro_len (rbC (RfE.b (rn 2)) rbN))))) (ro rv_ix (RfE.b (rn 3)) (RfE.b (rc_int _))) (ro rv_ix (RfE.b (ro rv_ix (RfE.b (rn 2)) (RfE.b (rn 1)))) (RfE.b (rc_int _))))))) h (by rw [spD_len F2_len h]; decide) (F2_in fun a0 a1 Qd q => ?_)⟩
  obtain ⟨t, i, rfl, rfl, h0, h1, q⟩ := q
  simp only [eT, eRu, true_and, ↓sTake, ↓sTake0, ↓sPick, ↓sNumber, rng_1, rng_2, rng_3, rng_4, rng_6, ↓dKd, dix_0, dix_1, dix_2, dix_3, dix_4, dix_5, dix_6, dix_7, dix_8, dix_9, Bool.not_false, Bool.not_true, Bool.and_true, Bool.true_and, Bool.and_false, Bool.false_and, decide_eq_true_eq, Bool.not_eq_true', decide_eq_false_iff_not, Bool.false_eq_true, if_true, if_false, ↓F0, ↓F1, ↓F2, ↓F3, ↓F4, ↓F5, ↓F6, ↓dParO1, ↓dParO2, ↓dEnumT, ↓oRepr, ↓dUn, ↓oNeg, ↓dSeq, ↓dRet, ↓dRetN, ↓dIf, ↓dAsg, ↓dDrop, ↓dBreak, ↓dCont, ↓dNext, ↓dOwn, ↓dApp, ↓dSetIx, ↓dFrz, frz, ↓dPar, ↓dAug, ↓dFor, ↓dN, ↓dNB, ↓dC, ↓dOp, ↓oI, ↓oI0, ↓oB, ↓oEq, ↓oEqS, eqS, ↓oIsN, isNo, ↓oIx, ↓oIxS, seqOf, ↓oCat, ↓oCatT, ↓oCatS, ↓oIn, ↓oInS, ↓dTb, ↓dAnd, ↓dOr, ↓dNot, ↓dYes, ↓dAndV, ↓dOrV, ↓dNotV, ↓dIfV, ↓dChain, ↓dNil, ↓dCons, ↓dL, ↓dTup, ↓dCB, ↓oAbs, ↓oI2, ↓oLen, ↓oLenS, ↓oInt, ↓oSum, ↓oBs, ↓oTupOf, ↓dSeqOf, ↓dIsi, it_bool_none, it_bool_bool, it_bool_int, it_bool_str, it_bool_list, it_bool_tuple, it_bool_dict, it_int_none, it_int_bool, it_int_int, it_int_str, it_int_list, it_int_tuple, it_int_dict, it_str_none, it_str_bool, it_str_int, it_str_str, it_str_list, it_str_tuple, it_str_dict, it_list_none, it_list_bool, it_list_int, it_list_str, it_list_list, it_list_tuple, it_list_dict, it_tuple_none, it_tuple_bool, it_tuple_int, it_tuple_str, it_tuple_list, it_tuple_tuple, it_tuple_dict, it_dict_none, it_dict_bool, it_dict_int, it_dict_str, it_dict_list, it_dict_tuple, it_dict_dict, ↓dNoP, ↓dPart, ↓dSlT, ↓dSlL, ↓dSlS, ↓dCall, ↓dCallS, ↓dItL, ↓dItT, ↓dItS, ↓dR1, ↓dR2, ↓dZip, ↓dEnum, ↓gN, ↓gNi, ↓gCo, ↓gT, ↓dLc, wipeE, eget, eset, List.set, ev0, List.map_cons, List.map_nil, List.cons_append, List.nil_append, List.replicate_succ, List.replicate_zero, noOwn, isOwn, List.all_cons, List.all_nil, List.length_cons, List.length_nil]
  refine ite2 (fun e => ?_) (fun e => ?_)
  · have e1 : i = (t.1.length : Int) := by simpa using e
    unfold fateAt at q
    rw [List.getElem?_eq_none (by omega)] at q
    exact q
  · have e1 : ¬ i = (t.1.length : Int) := by simpa using e
    have hlt : i.toNat < t.1.length := by omega
    rw [dix_map h0 (List.getElem?_eq_getElem hlt)]
    simp only [eRu, true_and, ↓sTake, ↓sTake0, ↓sPick, ↓sNumber, rng_1, rng_2, rng_3, rng_4, rng_6, ↓dKd, dix_0, dix_1, dix_2, dix_3, dix_4, dix_5, dix_6, dix_7, dix_8, dix_9, Bool.not_false, Bool.not_true, Bool.and_true, Bool.true_and, Bool.and_false, Bool.false_and, decide_eq_true_eq, Bool.not_eq_true', decide_eq_false_iff_not, Bool.false_eq_true, if_true, if_false, ↓F0, ↓F1, ↓F2, ↓F3, ↓F4, ↓F5, ↓F6, ↓dParO1, ↓dParO2, ↓dEnumT, ↓oRepr, ↓dUn, ↓oNeg, ↓dSeq, ↓dRet, ↓dRetN, ↓dIf, ↓dAsg, ↓dDrop, ↓dBreak, ↓dCont, ↓dNext, ↓dOwn, ↓dApp, ↓dSetIx, ↓dFrz, frz, ↓dPar, ↓dAug, ↓dFor, ↓dN, ↓dNB, ↓dC, ↓dOp, ↓oI, ↓oI0, ↓oB, ↓oEq, ↓oEqS, eqS, ↓oIsN, isNo, ↓oIx, ↓oIxS, seqOf, ↓oCat, ↓oCatT, ↓oCatS, ↓oIn, ↓oInS, ↓dTb, ↓dAnd, ↓dOr, ↓dNot, ↓dYes, ↓dAndV, ↓dOrV, ↓dNotV, ↓dIfV, ↓dChain, ↓dNil, ↓dCons, ↓dL, ↓dTup, ↓dCB, ↓oAbs, ↓oI2, ↓oLen, ↓oLenS, ↓oInt, ↓oSum, ↓oBs, ↓oTupOf, ↓dSeqOf, ↓dIsi, it_bool_none, it_bool_bool, it_bool_int, it_bool_str, it_bool_list, it_bool_tuple, it_bool_dict, it_int_none, it_int_bool, it_int_int, it_int_str, it_int_list, it_int_tuple, it_int_dict, it_str_none, it_str_bool, it_str_int, it_str_str, it_str_list, it_str_tuple, it_str_dict, it_list_none, it_list_bool, it_list_int, it_list_str, it_list_list, it_list_tuple, it_list_dict, it_tuple_none, it_tuple_bool, it_tuple_int, it_tuple_str, it_tuple_list, it_tuple_tuple, it_tuple_dict, it_dict_none, it_dict_bool, it_dict_int, it_dict_str, it_dict_list, it_dict_tuple, it_dict_dict, ↓dNoP, ↓dPart, ↓dSlT, ↓dSlL, ↓dSlS, ↓dCall, ↓dCallS, ↓dItL, ↓dItT, ↓dItS, ↓dR1, ↓dR2, ↓dZip, ↓dEnum, ↓gN, ↓gNi, ↓gCo, ↓gT, ↓dLc, wipeE, eget, eset, List.set, ev0, List.map_cons, List.map_nil, List.cons_append, List.nil_append, List.replicate_succ, List.replicate_zero, noOwn, isOwn, List.all_cons, List.all_nil, List.length_cons, List.length_nil]
    unfold fateAt at q
    rw [List.getElem?_eq_getElem hlt] at q
    exact q
theorem ok_meets_range (T : Tx K mg) : FnOk P w K mg base CX0 1 T.ad_meets_range T.fd_meets_range ["row", "part"] (spD K (F2 fun a b Q => ∃ r p, a = eRow r ∧ b = eR p ∧ Q (.bool (tch r p)))) := by
  refine T.d_meets_range.F.ok x_meets_range (fun vs H Q E h => spD_len F2_len h) (fun cdv A outer s H vs Q E hr h => ?_)
  have nd := x_meets_range.nd
  refine ⟨_, (pss_cons (ps_asg (pv 1) (pg_tup (n := 2) rfl (pgs_cons (pg_name (i := 2) nd rfl (Or.inl rfl)) (pgs_cons (pg_name (i := 3) nd rfl (Or.inl rfl)) pgs_nil))))
        (pss_cons (ps_for PassesOwn.never rfl (pi_tup (pv 0)) (pg_tup (n := 2) rfl (pgs_cons (pg_name (i := 4) nd rfl (Or.inl rfl)) (pgs_cons (pg_name (i := 5) nd rfl (Or.inl rfl)) pgs_nil))) (pss_one (ps_if (PW.pt (pw_and (pt_cmpR op_le (pv 4) (pv 3) (nomark _)) (pw_and1 (pt_cmpR op_le (pv 2) (pv 5) (nomark _))))) (pss_one (ps_ret pe_bl)) pss_nil)))
        (pss_one (ps_ret pe_bl)))), fn_pure ((rs_seq (rs_asg (rn 1) (rg_tup (rg_cons (rg_name 2) (rg_cons (rg_name 3) rg_nil))))
        (rs_seq (rs_for (ri_tup (rn 0)) (rg_tup (rg_cons (rg_name 4) (rg_cons (rg_name 5) rg_nil))) (rs_if (rt_and (rt_test (ro rv_le (RfE.b (rn 4)) (RfE.b (rn 3)))) (rt_test (ro rv_le (RfE.b (rn 2)) (RfE.b (rn 5))))) (rs_ret (rc_bl _)) rs_next))
        (rs_ret (rc_bl _))))) h (by rw [spD_len F2_len h]; decide) (F2_in fun a0 a1 Qd q => ?_)⟩
  obtain ⟨r, p, rfl, rfl, q⟩ := q
  simp only [eRow, eR, true_and, ↓sTake, ↓sTake0, ↓sPick, ↓sNumber, rng_1, rng_2, rng_3, rng_4, rng_6, ↓dKd, dix_0, dix_1, dix_2, dix_3, dix_4, dix_5, dix_6, dix_7, dix_8, dix_9, Bool.not_false, Bool.not_true, Bool.and_true, Bool.true_and, Bool.and_false, Bool.false_and, decide_eq_true_eq, Bool.not_eq_true', decide_eq_false_iff_not, Bool.false_eq_true, if_true, if_false, ↓F0, ↓F1, ↓F2, ↓F3, ↓F4, ↓F5, ↓F6, ↓dParO1, ↓dParO2, ↓dEnumT, ↓oRepr, ↓dUn, ↓oNeg, ↓dSeq, ↓dRet, ↓dRetN, ↓dIf, ↓dAsg, ↓dDrop, ↓dBreak, ↓dCont, ↓dNext, ↓dOwn, ↓dApp, ↓dSetIx, ↓dFrz, frz, ↓dPar, ↓dAug, ↓dFor, ↓dN, ↓dNB, ↓dC, ↓dOp, ↓oI, ↓oI0, ↓oB, ↓oEq, ↓oEqS, eqS, ↓oIsN, isNo, ↓oIx, ↓oIxS, seqOf, ↓oCat, ↓oCatT, ↓oCatS, ↓oIn, ↓oInS, ↓dTb, ↓dAnd, ↓dOr, ↓dNot, ↓dYes, ↓dAndV, ↓dOrV, ↓dNotV, ↓dIfV, ↓dChain, ↓dNil, ↓dCons, ↓dL, ↓dTup, ↓dCB, ↓oAbs, ↓oI2, ↓oLen, ↓oLenS, ↓oInt, ↓oSum, ↓oBs, ↓oTupOf, ↓dSeqOf, ↓dIsi, it_bool_none, it_bool_bool, it_bool_int, it_bool_str, it_bool_list, it_bool_tuple, it_bool_dict, it_int_none, it_int_bool, it_int_int, it_int_str, it_int_list, it_int_tuple, it_int_dict, it_str_none, it_str_bool, it_str_int, it_str_str, it_str_list, it_str_tuple, it_str_dict, it_list_none, it_list_bool, it_list_int, it_list_str, it_list_list, it_list_tuple, it_list_dict, it_tuple_none, it_tuple_bool, it_tuple_int, it_tuple_str, it_tuple_list, it_tuple_tuple, it_tuple_dict, it_dict_none, it_dict_bool, it_dict_int, it_dict_str, it_dict_list, it_dict_tuple, it_dict_dict, ↓dNoP, ↓dPart, ↓dSlT, ↓dSlL, ↓dSlS, ↓dCall, ↓dCallS, ↓dItL, ↓dItT, ↓dItS, ↓dR1, ↓dR2, ↓dZip, ↓dEnum, ↓gN, ↓gNi, ↓gCo, ↓gT, ↓dLc, wipeE, eget, eset, List.set, ev0, List.map_cons, List.map_nil, List.cons_append, List.nil_append, List.replicate_succ, List.replicate_zero, noOwn, isOwn, List.all_cons, List.all_nil, List.length_cons, List.length_nil]
  refine loop_by (fun rest env => ∃ r' s4 s5, rest = r'.map eR ∧ tch r' p = tch r p ∧ env = [some (En.d (eRow r)), some (En.d (eR p)), some (En.d (.int p.1)), some (En.d (.int p.2)), s4, s5]) ?_ ?_ _ _ ⟨r, _, _, rfl, rfl, rfl⟩
  · rintro env ⟨r', s4, s5, h1, h2, rfl⟩
    cases r' with
    | nil => rw [← h2] at q; exact q
    | cons _ _ => cases h1
  · rintro d rest env N ⟨r', s4, s5, h1, h2, rfl⟩ hN
    cases r' with
    | nil => cases h1
    | cons a r' =>
      cases h1
      simp only [eR, true_and, ↓sTake, ↓sTake0, ↓sPick, ↓sNumber, rng_1, rng_2, rng_3, rng_4, rng_6, ↓dKd, dix_0, dix_1, dix_2, dix_3, dix_4, dix_5, dix_6, dix_7, dix_8, dix_9, Bool.not_false, Bool.not_true, Bool.and_true, Bool.true_and, Bool.and_false, Bool.false_and, decide_eq_true_eq, Bool.not_eq_true', decide_eq_false_iff_not, Bool.false_eq_true, if_true, if_false, ↓F0, ↓F1, ↓F2, ↓F3, ↓F4, ↓F5, ↓F6, ↓dParO1, ↓dParO2, ↓dEnumT, ↓oRepr, ↓dUn, ↓oNeg, ↓dSeq, ↓dRet, ↓dRetN, ↓dIf, ↓dAsg, ↓dDrop, ↓dBreak, ↓dCont, ↓dNext, ↓dOwn, ↓dApp, ↓dSetIx, ↓dFrz, frz, ↓dPar, ↓dAug, ↓dFor, ↓dN, ↓dNB, ↓dC, ↓dOp, ↓oI, ↓oI0, ↓oB, ↓oEq, ↓oEqS, eqS, ↓oIsN, isNo, ↓oIx, ↓oIxS, seqOf, ↓oCat, ↓oCatT, ↓oCatS, ↓oIn, ↓oInS, ↓dTb, ↓dAnd, ↓dOr, ↓dNot, ↓dYes, ↓dAndV, ↓dOrV, ↓dNotV, ↓dIfV, ↓dChain, ↓dNil, ↓dCons, ↓dL, ↓dTup, ↓dCB, ↓oAbs, ↓oI2, ↓oLen, ↓oLenS, ↓oInt, ↓oSum, ↓oBs, ↓oTupOf, ↓dSeqOf, ↓dIsi, it_bool_none, it_bool_bool, it_bool_int, it_bool_str, it_bool_list, it_bool_tuple, it_bool_dict, it_int_none, it_int_bool, it_int_int, it_int_str, it_int_list, it_int_tuple, it_int_dict, it_str_none, it_str_bool, it_str_int, it_str_str, it_str_list, it_str_tuple, it_str_dict, it_list_none, it_list_bool, it_list_int, it_list_str, it_list_list, it_list_tuple, it_list_dict, it_tuple_none, it_tuple_bool, it_tuple_int, it_tuple_str, it_tuple_list, it_tuple_tuple, it_tuple_dict, it_dict_none, it_dict_bool, it_dict_int, it_dict_str, it_dict_list, it_dict_tuple, it_dict_dict, ↓dNoP, ↓dPart, ↓dSlT, ↓dSlL, ↓dSlS, ↓dCall, ↓dCallS, ↓dItL, ↓dItT, ↓dItS, ↓dR1, ↓dR2, ↓dZip, ↓dEnum, ↓gN, ↓gNi, ↓gCo, ↓gT, ↓dLc, wipeE, eget, eset, List.set, ev0, List.map_cons, List.map_nil, List.cons_append, List.nil_append, List.replicate_succ, List.replicate_zero, noOwn, isOwn, List.all_cons, List.all_nil, List.length_cons, List.length_nil]
      unfold tch at h2
      rw [List.any_cons] at h2
      by_cases c1 : a.1 ≤ p.2
      · rw [if_pos c1]
        by_cases c2 : p.1 ≤ a.2
        · rw [if_pos c2]
          rw [decT c1, decT c2, Bool.and_self, Bool.true_or] at h2
          unfold tch at q
          rw [← h2] at q
          exact q
        · rw [if_neg c2]
          exact hN _ ⟨r', _, _, rfl, by rw [decide_eq_false c2, Bool.and_false, Bool.false_or] at h2; exact h2, rfl⟩
      · rw [if_neg c1]
        exact hN _ ⟨r', _, _, rfl, by rw [decide_eq_false c1, Bool.false_and, Bool.false_or] at h2; exact h2, rfl⟩
theorem ok_contains_range (T : Tx K mg) : FnOk P w K mg base CX0 1 T.ad_contains_range T.fd_contains_range ["row", "part"] (spD K (F2 fun a b Q => ∃ r p, a = eRow r ∧ b = eR p ∧ Q (.bool (cov r p)))) := by
  refine T.d_contains_range.F.ok x_contains_range (fun vs H Q E h => spD_len F2_len h) (fun cdv A outer s H vs Q E hr h => ?_)
  have nd := x_contains_range.nd
  refine ⟨_, (pss_cons (ps_asg (pv 1) (pg_tup (n := 2) rfl (pgs_cons (pg_name (i := 2) nd rfl (Or.inl rfl)) (pgs_cons (pg_name (i := 3) nd rfl (Or.inl rfl)) pgs_nil))))
        (pss_cons (ps_for PassesOwn.never rfl (pi_tup (pv 0)) (pg_tup (n := 2) rfl (pgs_cons (pg_name (i := 4) nd rfl (Or.inl rfl)) (pgs_cons (pg_name (i := 5) nd rfl (Or.inl rfl)) pgs_nil))) (pss_one (ps_if (PW.pt (pw_and (pt_cmpR op_le (pv 4) (pv 2) (nomark _)) (pw_and1 (pt_cmpR op_le (pv 3) (pv 5) (nomark _))))) (pss_one (ps_ret pe_bl)) pss_nil)))
        (pss_one (ps_ret pe_bl)))), fn_pure ((rs_seq (rs_asg (rn 1) (rg_tup (rg_cons (rg_name 2) (rg_cons (rg_name 3) rg_nil))))
        (rs_seq (rs_for (ri_tup (rn 0)) (rg_tup (rg_cons (rg_name 4) (rg_cons (rg_name 5) rg_nil))) (rs_if (rt_and (rt_test (ro rv_le (RfE.b (rn 4)) (RfE.b (rn 2)))) (rt_test (ro rv_le (RfE.b (rn 3)) (RfE.b (rn 5))))) (rs_ret (rc_bl _)) rs_next))
        (rs_ret (rc_bl _))))) h (by rw [spD_len F2_len h]; decide) (F2_in fun a0 a1 Qd q => ?_)⟩
  obtain ⟨r, p, rfl, rfl, q⟩ := q
  simp only [eRow, eR, true_and, ↓sTake, ↓sTake0, ↓sPick, ↓sNumber, rng_1, rng_2, rng_3, rng_4, rng_6, ↓dKd, dix_0, dix_1, dix_2, dix_3, dix_4, dix_5, dix_6, dix_7, dix_8, dix_9, Bool.not_false, Bool.not_true, Bool.and_true, Bool.true_and, Bool.and_false, Bool.false_and, decide_eq_true_eq, Bool.not_eq_true', decide_eq_false_iff_not, Bool.false_eq_true, if_true, if_false, ↓F0, ↓F1, ↓F2, ↓F3, ↓F4, ↓F5, ↓F6, ↓dParO1, ↓dParO2, ↓dEnumT, ↓oRepr, ↓dUn, ↓oNeg, ↓dSeq, ↓dRet, ↓dRetN, ↓dIf, ↓dAsg, ↓dDrop, ↓dBreak, ↓dCont, ↓dNext, ↓dOwn, ↓dApp, ↓dSetIx, ↓dFrz, frz, ↓dPar, ↓dAug, ↓dFor, ↓dN, ↓dNB, ↓dC, ↓dOp, ↓oI, ↓oI0, ↓oB, ↓oEq, ↓oEqS, eqS, ↓oIsN, isNo, ↓oIx, ↓oIxS, seqOf, ↓oCat, ↓oCatT, ↓oCatS, ↓oIn, ↓oInS, ↓dTb, ↓dAnd, ↓dOr, ↓dNot, ↓dYes, ↓dAndV, ↓dOrV, ↓dNotV, ↓dIfV, ↓dChain, ↓dNil, ↓dCons, ↓dL, ↓dTup, ↓dCB, ↓oAbs, ↓oI2, ↓oLen, ↓oLenS, ↓oInt, ↓oSum, ↓oBs, ↓oTupOf, ↓dSeqOf, ↓dIsi, it_bool_none, it_bool_bool, it_bool_int, it_bool_str, it_bool_list, it_bool_tuple, it_bool_dict, it_int_none, it_int_bool, it_int_int, it_int_str, it_int_list, it_int_tuple, it_int_dict, it_str_none, it_str_bool, it_str_int, it_str_str, it_str_list, it_str_tuple, it_str_dict, it_list_none, it_list_bool, it_list_int, it_list_str, it_list_list, it_list_tuple, it_list_dict, it_tuple_none, it_tuple_bool, it_tuple_int, it_tuple_str, it_tuple_list, it_tuple_tuple, it_tuple_dict, it_dict_none, it_dict_bool, it_dict_int, it_dict_str, it_dict_list, it_dict_tuple, it_dict_dict, ↓dNoP, ↓dPart, ↓dSlT, ↓dSlL, ↓dSlS, ↓dCall, ↓dCallS, ↓dItL, ↓dItT, ↓dItS, ↓dR1, ↓dR2, ↓dZip, ↓dEnum, ↓gN, ↓gNi, ↓gCo, ↓gT, ↓dLc, wipeE, eget, eset, List.set, ev0, List.map_cons, List.map_nil, List.cons_append, List.nil_append, List.replicate_succ, List.replicate_zero, noOwn, isOwn, List.all_cons, List.all_nil, List.length_cons, List.length_nil]
  refine loop_by (fun rest env => ∃ r' s4 s5, rest = r'.map eR ∧ cov r' p = cov r p ∧ env = [some (En.d (eRow r)), some (En.d (eR p)), some (En.d (.int p.1)), some (En.d (.int p.2)), s4, s5]) ?_ ?_ _ _ ⟨r, _, _, rfl, rfl, rfl⟩
  · rintro env ⟨r', s4, s5, h1, h2, rfl⟩
    cases r' with
    | nil => rw [← h2] at q; exact q
    | cons _ _ => cases h1
  · rintro d rest env N ⟨r', s4, s5, h1, h2, rfl⟩ hN
    cases r' with
    | nil => cases h1
    | cons a r' =>
      cases h1
      simp only [eR, true_and, ↓sTake, ↓sTake0, ↓sPick, ↓sNumber, rng_1, rng_2, rng_3, rng_4, rng_6, ↓dKd, dix_0, dix_1, dix_2, dix_3, dix_4, dix_5, dix_6, dix_7, dix_8, dix_9, Bool.not_false, Bool.not_true, Bool.and_true, Bool.true_and, Bool.and_false, Bool.false_and, decide_eq_true_eq, Bool.not_eq_true', decide_eq_false_iff_not, Bool.false_eq_true, if_true, if_false, ↓F0, ↓F1, ↓F2, ↓F3, ↓F4, ↓F5, ↓F6, ↓dParO1, ↓dParO2, ↓dEnumT, ↓oRepr, ↓dUn, ↓oNeg, ↓dSeq, ↓dRet, ↓dRetN, ↓dIf, ↓dAsg, ↓dDrop, ↓dBreak, ↓dCont, ↓dNext, ↓dOwn, ↓dApp, ↓dSetIx, ↓dFrz, frz, ↓dPar, ↓dAug, ↓dFor, ↓dN, ↓dNB, ↓dC, ↓dOp, ↓oI, ↓oI0, ↓oB, ↓oEq, ↓oEqS, eqS, ↓oIsN, isNo, ↓oIx, ↓oIxS, seqOf, ↓oCat, ↓oCatT, ↓oCatS, ↓oIn, ↓oInS, ↓dTb, ↓dAnd, ↓dOr, ↓dNot, ↓dYes, ↓dAndV, ↓dOrV, ↓dNotV, ↓dIfV, ↓dChain, ↓dNil, ↓dCons, ↓dL, ↓dTup, ↓dCB, ↓oAbs, ↓oI2, ↓oLen, ↓oLenS, ↓oInt, ↓oSum, ↓oBs, ↓oTupOf, ↓dSeqOf, ↓dIsi, it_bool_none, it_bool_bool, it_bool_int, it_bool_str, it_bool_list, it_bool_tuple, it_bool_dict, it_int_none, it_int_bool, it_int_int, it_int_str, it_int_list, it_int_tuple, it_int_dict, it_str_none, it_str_bool, it_str_int, it_str_str, it_str_list, it_str_tuple, it_str_dict, it_list_none, it_list_bool, it_list_int, it_list_str, it_list_list, it_list_tuple, it_list_dict, it_tuple_none, it_tuple_bool, it_tuple_int, it_tuple_str, it_tuple_list, it_tuple_tuple, it_tuple_dict, it_dict_none, it_dict_bool, it_dict_int, it_dict_str, it_dict_list, it_dict_tuple, it_dict_dict, ↓dNoP, ↓dPart, ↓dSlT, ↓dSlL, ↓dSlS, ↓dCall, ↓dCallS, ↓dItL, ↓dItT, ↓dItS, ↓dR1, ↓dR2, ↓dZip, ↓dEnum, ↓gN, ↓gNi, ↓gCo, ↓gT, ↓dLc, wipeE, eget, eset, List.set, ev0, List.map_cons, List.map_nil, List.cons_append, List.nil_append, List.replicate_succ, List.replicate_zero, noOwn, isOwn, List.all_cons, List.all_nil, List.length_cons, List.length_nil]
      unfold cov at h2
      rw [List.any_cons] at h2
      by_cases c1 : a.1 ≤ p.1
      · rw [if_pos c1]
        by_cases c2 : p.2 ≤ a.2
        · rw [if_pos c2]
          rw [decT c1, decT c2, Bool.and_self, Bool.true_or] at h2
          unfold cov at q
          rw [← h2] at q
          exact q
        · rw [if_neg c2]
          exact hN _ ⟨r', _, _, rfl, by rw [decide_eq_false c2, Bool.and_false, Bool.false_or] at h2; exact h2, rfl⟩
      · rw [if_neg c1]
        exact hN _ ⟨r', _, _, rfl, by rw [decide_eq_false c1, Bool.false_and, Bool.false_or] at h2; exact h2, rfl⟩
theorem ok_meets (T : Tx K mg) : FnOk P w K mg base CX0 2 T.ad_meets T.fd_meets ["match", "box"] (spD K (F2 fun a b Q => ∃ m bx, a = eM m ∧ b = eB bx ∧ Q (.bool (tchs m bx)))) := by
  refine T.d_meets.F.ok x_meets (fun vs H Q E h => spD_len F2_len h) (fun cdv A outer s H vs Q E hr h => ?_)
  have nd := x_meets.nd
  refine ⟨_, (pss_cons (ps_for PassesOwn.never rfl (RZ.pi_zipA (by rfl) T.b_zip (pa_cons (pv 0) (pa_cons (pv 1) pa_nil))) (pg_tup (n := 2) rfl (pgs_cons (pg_name (i := 2) nd rfl (Or.inl rfl)) (pgs_cons (pg_name (i := 3) nd rfl (Or.inl rfl)) pgs_nil))) (pss_one (ps_if (pt_not (pt_val (pe_call (ok_meets_range T) hr (by rfl) T.d_meets_range.g T.d_meets_range.F.kp T.d_meets_range.b .nil pass0 (pa_cons (pv 2) (pa_cons (pv 3) pa_nil))))) (pss_one (ps_ret pe_bl)) pss_nil)))
        (pss_one (ps_ret pe_bl))), fn_pure ((rs_seq (rs_for (ri_zip (raC (rn 0) (raC (rn 1) raN))) (rg_tup (rg_cons (rg_name 2) (rg_cons (rg_name 3) rg_nil))) (rs_if (rt_not (rt_val (re_call (raC (rn 2) (raC (rn 3) raN))))) (rs_ret (rc_bl _)) rs_next))
        (rs_ret (rc_bl _)))) h (by rw [spD_len F2_len h]; decide) (F2_in fun a0 a1 Qd q => ?_)⟩
  obtain ⟨m, bx, rfl, rfl, q⟩ := q
  simp only [eM, eB, true_and, ↓sTake, ↓sTake0, ↓sPick, ↓sNumber, rng_1, rng_2, rng_3, rng_4, rng_6, ↓dKd, dix_0, dix_1, dix_2, dix_3, dix_4, dix_5, dix_6, dix_7, dix_8, dix_9, Bool.not_false, Bool.not_true, Bool.and_true, Bool.true_and, Bool.and_false, Bool.false_and, decide_eq_true_eq, Bool.not_eq_true', decide_eq_false_iff_not, Bool.false_eq_true, if_true, if_false, ↓F0, ↓F1, ↓F2, ↓F3, ↓F4, ↓F5, ↓F6, ↓dParO1, ↓dParO2, ↓dEnumT, ↓oRepr, ↓dUn, ↓oNeg, ↓dSeq, ↓dRet, ↓dRetN, ↓dIf, ↓dAsg, ↓dDrop, ↓dBreak, ↓dCont, ↓dNext, ↓dOwn, ↓dApp, ↓dSetIx, ↓dFrz, frz, ↓dPar, ↓dAug, ↓dFor, ↓dN, ↓dNB, ↓dC, ↓dOp, ↓oI, ↓oI0, ↓oB, ↓oEq, ↓oEqS, eqS, ↓oIsN, isNo, ↓oIx, ↓oIxS, seqOf, ↓oCat, ↓oCatT, ↓oCatS, ↓oIn, ↓oInS, ↓dTb, ↓dAnd, ↓dOr, ↓dNot, ↓dYes, ↓dAndV, ↓dOrV, ↓dNotV, ↓dIfV, ↓dChain, ↓dNil, ↓dCons, ↓dL, ↓dTup, ↓dCB, ↓oAbs, ↓oI2, ↓oLen, ↓oLenS, ↓oInt, ↓oSum, ↓oBs, ↓oTupOf, ↓dSeqOf, ↓dIsi, it_bool_none, it_bool_bool, it_bool_int, it_bool_str, it_bool_list, it_bool_tuple, it_bool_dict, it_int_none, it_int_bool, it_int_int, it_int_str, it_int_list, it_int_tuple, it_int_dict, it_str_none, it_str_bool, it_str_int, it_str_str, it_str_list, it_str_tuple, it_str_dict, it_list_none, it_list_bool, it_list_int, it_list_str, it_list_list, it_list_tuple, it_list_dict, it_tuple_none, it_tuple_bool, it_tuple_int, it_tuple_str, it_tuple_list, it_tuple_tuple, it_tuple_dict, it_dict_none, it_dict_bool, it_dict_int, it_dict_str, it_dict_list, it_dict_tuple, it_dict_dict, ↓dNoP, ↓dPart, ↓dSlT, ↓dSlL, ↓dSlS, ↓dCall, ↓dCallS, ↓dItL, ↓dItT, ↓dItS, ↓dR1, ↓dR2, ↓dZip, ↓dEnum, ↓gN, ↓gNi, ↓gCo, ↓gT, ↓dLc, wipeE, eget, eset, List.set, ev0, List.map_cons, List.map_nil, List.cons_append, List.nil_append, List.replicate_succ, List.replicate_zero, noOwn, isOwn, List.all_cons, List.all_nil, List.length_cons, List.length_nil, zip_map]
  refine loop_by (fun rest env => ∃ (r' : List (Row × (Int × Int))) (s2 s3 : Option En), rest = r'.map (fun p => PyData.tuple [eRow p.1, eR p.2]) ∧ (r'.all fun p => tch p.1 p.2) = tchs m bx ∧ env = [some (En.d (eM m)), some (En.d (eB bx)), s2, s3]) ?_ ?_ _ _ ⟨m.zip bx, _, _, rfl, rfl, rfl⟩
  · rintro env ⟨r', s4, s5, h1, h2, rfl⟩
    cases r' with
    | nil => rw [← h2] at q; exact q
    | cons _ _ => cases h1
  · rintro d rest env N ⟨r', s4, s5, h1, h2, rfl⟩ hN
    cases r' with
    | nil => cases h1
    | cons a r' =>
      cases h1
      simp only [true_and, ↓sTake, ↓sTake0, ↓sPick, ↓sNumber, rng_1, rng_2, rng_3, rng_4, rng_6, ↓dKd, dix_0, dix_1, dix_2, dix_3, dix_4, dix_5, dix_6, dix_7, dix_8, dix_9, Bool.not_false, Bool.not_true, Bool.and_true, Bool.true_and, Bool.and_false, Bool.false_and, decide_eq_true_eq, Bool.not_eq_true', decide_eq_false_iff_not, Bool.false_eq_true, if_true, if_false, ↓F0, ↓F1, ↓F2, ↓F3, ↓F4, ↓F5, ↓F6, ↓dParO1, ↓dParO2, ↓dEnumT, ↓oRepr, ↓dUn, ↓oNeg, ↓dSeq, ↓dRet, ↓dRetN, ↓dIf, ↓dAsg, ↓dDrop, ↓dBreak, ↓dCont, ↓dNext, ↓dOwn, ↓dApp, ↓dSetIx, ↓dFrz, frz, ↓dPar, ↓dAug, ↓dFor, ↓dN, ↓dNB, ↓dC, ↓dOp, ↓oI, ↓oI0, ↓oB, ↓oEq, ↓oEqS, eqS, ↓oIsN, isNo, ↓oIx, ↓oIxS, seqOf, ↓oCat, ↓oCatT, ↓oCatS, ↓oIn, ↓oInS, ↓dTb, ↓dAnd, ↓dOr, ↓dNot, ↓dYes, ↓dAndV, ↓dOrV, ↓dNotV, ↓dIfV, ↓dChain, ↓dNil, ↓dCons, ↓dL, ↓dTup, ↓dCB, ↓oAbs, ↓oI2, ↓oLen, ↓oLenS, ↓oInt, ↓oSum, ↓oBs, ↓oTupOf, ↓dSeqOf, ↓dIsi, it_bool_none, it_bool_bool, it_bool_int, it_bool_str, it_bool_list, it_bool_tuple, it_bool_dict, it_int_none, it_int_bool, it_int_int, it_int_str, it_int_list, it_int_tuple, it_int_dict, it_str_none, it_str_bool, it_str_int, it_str_str, it_str_list, it_str_tuple, it_str_dict, it_list_none, it_list_bool, it_list_int, it_list_str, it_list_list, it_list_tuple, it_list_dict, it_tuple_none, it_tuple_bool, it_tuple_int, it_tuple_str, it_tuple_list, it_tuple_tuple, it_tuple_dict, it_dict_none, it_dict_bool, it_dict_int, it_dict_str, it_dict_list, it_dict_tuple, it_dict_dict, ↓dNoP, ↓dPart, ↓dSlT, ↓dSlL, ↓dSlS, ↓dCall, ↓dCallS, ↓dItL, ↓dItT, ↓dItS, ↓dR1, ↓dR2, ↓dZip, ↓dEnum, ↓gN, ↓gNi, ↓gCo, ↓gT, ↓dLc, wipeE, eget, eset, List.set, ev0, List.map_cons, List.map_nil, List.cons_append, List.nil_append, List.replicate_succ, List.replicate_zero, noOwn, isOwn, List.all_cons, List.all_nil, List.length_cons, List.length_nil]
      rw [List.all_cons] at h2
      refine ⟨a.1, a.2, rfl, rfl, ?_⟩
      cases c : tch a.1 a.2 with
      | true => exact hN _ ⟨r', _, _, rfl, by rw [c, Bool.true_and] at h2; exact h2, rfl⟩
      | false =>
        rw [c, Bool.false_and] at h2
        rw [← h2] at q
        exact q
theorem ok_contains (T : Tx K mg) : FnOk P w K mg base CX0 2 T.ad_contains T.fd_contains ["match", "box"] (spD K (F2 fun a b Q => ∃ m bx, a = eM m ∧ b = eB bx ∧ Q (.bool (covs m bx)))) := by
  refine T.d_contains.F.ok x_contains (fun vs H Q E h => spD_len F2_len h) (fun cdv A outer s H vs Q E hr h => ?_)
  have nd := x_contains.nd
  refine ⟨_, (pss_cons (ps_for PassesOwn.never rfl (RZ.pi_zipA (by rfl) T.b_zip (pa_cons (pv 0) (pa_cons (pv 1) pa_nil))) (pg_tup (n := 2) rfl (pgs_cons (pg_name (i := 2) nd rfl (Or.inl rfl)) (pgs_cons (pg_name (i := 3) nd rfl (Or.inl rfl)) pgs_nil))) (pss_one (ps_if (pt_not (pt_val (pe_call (ok_contains_range T) hr (by rfl) T.d_contains_range.g T.d_contains_range.F.kp T.d_contains_range.b .nil pass0 (pa_cons (pv 2) (pa_cons (pv 3) pa_nil))))) (pss_one (ps_ret pe_bl)) pss_nil)))
        (pss_one (ps_ret pe_bl))), fn_pure ((rs_seq (rs_for (ri_zip (raC (rn 0) (raC (rn 1) raN))) (rg_tup (rg_cons (rg_name 2) (rg_cons (rg_name 3) rg_nil))) (rs_if (rt_not (rt_val (re_call (raC (rn 2) (raC (rn 3) raN))))) (rs_ret (rc_bl _)) rs_next))
        (rs_ret (rc_bl _)))) h (by rw [spD_len F2_len h]; decide) (F2_in fun a0 a1 Qd q => ?_)⟩
  obtain ⟨m, bx, rfl, rfl, q⟩ := q
  simp only [eM, eB, true_and, ↓sTake, ↓sTake0, ↓sPick, ↓sNumber, rng_1, rng_2, rng_3, rng_4, rng_6, ↓dKd, dix_0, dix_1, dix_2, dix_3, dix_4, dix_5, dix_6, dix_7, dix_8, dix_9, Bool.not_false, Bool.not_true, Bool.and_true, Bool.true_and, Bool.and_false, Bool.false_and, decide_eq_true_eq, Bool.not_eq_true', decide_eq_false_iff_not, Bool.false_eq_true, if_true, if_false, ↓F0, ↓F1, ↓F2, ↓F3, ↓F4, ↓F5, ↓F6, ↓dParO1, ↓dParO2, ↓dEnumT, ↓oRepr, ↓dUn, ↓oNeg, ↓dSeq, ↓dRet, ↓dRetN, ↓dIf, ↓dAsg, ↓dDrop, ↓dBreak, ↓dCont, ↓dNext, ↓dOwn, ↓dApp, ↓dSetIx, ↓dFrz, frz, ↓dPar, ↓dAug, ↓dFor, ↓dN, ↓dNB, ↓dC, ↓dOp, ↓oI, ↓oI0, ↓oB, ↓oEq, ↓oEqS, eqS, ↓oIsN, isNo, ↓oIx, ↓oIxS, seqOf, ↓oCat, ↓oCatT, ↓oCatS, ↓oIn, ↓oInS, ↓dTb, ↓dAnd, ↓dOr, ↓dNot, ↓dYes, ↓dAndV, ↓dOrV, ↓dNotV, ↓dIfV, ↓dChain, ↓dNil, ↓dCons, ↓dL, ↓dTup, ↓dCB, ↓oAbs, ↓oI2, ↓oLen, ↓oLenS, ↓oInt, ↓oSum, ↓oBs, ↓oTupOf, ↓dSeqOf, ↓dIsi, it_bool_none, it_bool_bool, it_bool_int, it_bool_str, it_bool_list, it_bool_tuple, it_bool_dict, it_int_none, it_int_bool, it_int_int, it_int_str, it_int_list, it_int_tuple, it_int_dict, it_str_none, it_str_bool, it_str_int, it_str_str, it_str_list, it_str_tuple, it_str_dict, it_list_none, it_list_bool, it_list_int, it_list_str, it_list_list, it_list_tuple, it_list_dict, it_tuple_none, it_tuple_bool, it_tuple_int, it_tuple_str, it_tuple_list, it_tuple_tuple, it_tuple_dict, it_dict_none, it_dict_bool, it_dict_int, it_dict_str, it_dict_list, it_dict_tuple, it_dict_dict, ↓dNoP, ↓dPart, ↓dSlT, ↓dSlL, ↓dSlS, ↓dCall, ↓dCallS, ↓dItL, ↓dItT, ↓dItS, ↓dR1, ↓dR2, ↓dZip, ↓dEnum, ↓gN, ↓gNi, ↓gCo, ↓gT, ↓dLc, wipeE, eget, eset, List.set, ev0, List.map_cons, List.map_nil, List.cons_append, List.nil_append, List.replicate_succ, List.replicate_zero, noOwn, isOwn, List.all_cons, List.all_nil, List.length_cons, List.length_nil, zip_map]
  refine loop_by (fun rest env => ∃ (r' : List (Row × (Int × Int))) (s2 s3 : Option En), rest = r'.map (fun p => PyData.tuple [eRow p.1, eR p.2]) ∧ (r'.all fun p => cov p.1 p.2) = covs m bx ∧ env = [some (En.d (eM m)), some (En.d (eB bx)), s2, s3]) ?_ ?_ _ _ ⟨m.zip bx, _, _, rfl, rfl, rfl⟩
  · rintro env ⟨r', s4, s5, h1, h2, rfl⟩
    cases r' with
    | nil => rw [← h2] at q; exact q
    | cons _ _ => cases h1
  · rintro d rest env N ⟨r', s4, s5, h1, h2, rfl⟩ hN
    cases r' with
    | nil => cases h1
    | cons a r' =>
      cases h1
      simp only [true_and, ↓sTake, ↓sTake0, ↓sPick, ↓sNumber, rng_1, rng_2, rng_3, rng_4, rng_6, ↓dKd, dix_0, dix_1, dix_2, dix_3, dix_4, dix_5, dix_6, dix_7, dix_8, dix_9, Bool.not_false, Bool.not_true, Bool.and_true, Bool.true_and, Bool.and_false, Bool.false_and, decide_eq_true_eq, Bool.not_eq_true', decide_eq_false_iff_not, Bool.false_eq_true, if_true, if_false, ↓F0, ↓F1, ↓F2, ↓F3, ↓F4, ↓F5, ↓F6, ↓dParO1, ↓dParO2, ↓dEnumT, ↓oRepr, ↓dUn, ↓oNeg, ↓dSeq, ↓dRet, ↓dRetN, ↓dIf, ↓dAsg, ↓dDrop, ↓dBreak, ↓dCont, ↓dNext, ↓dOwn, ↓dApp, ↓dSetIx, ↓dFrz, frz, ↓dPar, ↓dAug, ↓dFor, ↓dN, ↓dNB, ↓dC, ↓dOp, ↓oI, ↓oI0, ↓oB, ↓oEq, ↓oEqS, eqS, ↓oIsN, isNo, ↓oIx, ↓oIxS, seqOf, ↓oCat, ↓oCatT, ↓oCatS, ↓oIn, ↓oInS, ↓dTb, ↓dAnd, ↓dOr, ↓dNot, ↓dYes, ↓dAndV, ↓dOrV, ↓dNotV, ↓dIfV, ↓dChain, ↓dNil, ↓dCons, ↓dL, ↓dTup, ↓dCB, ↓oAbs, ↓oI2, ↓oLen, ↓oLenS, ↓oInt, ↓oSum, ↓oBs, ↓oTupOf, ↓dSeqOf, ↓dIsi, it_bool_none, it_bool_bool, it_bool_int, it_bool_str, it_bool_list, it_bool_tuple, it_bool_dict, it_int_none, it_int_bool, it_int_int, it_int_str, it_int_list, it_int_tuple, it_int_dict, it_str_none, it_str_bool, it_str_int, it_str_str, it_str_list, it_str_tuple, it_str_dict, it_list_none, it_list_bool, it_list_int, it_list_str, it_list_list, it_list_tuple, it_list_dict, it_tuple_none, it_tuple_bool, it_tuple_int, it_tuple_str, it_tuple_list, it_tuple_tuple, it_tuple_dict, it_dict_none, it_dict_bool, it_dict_int, it_dict_str, it_dict_list, it_dict_tuple, it_dict_dict, ↓dNoP, ↓dPart, ↓dSlT, ↓dSlL, ↓dSlS, ↓dCall, ↓dCallS, ↓dItL, ↓dItT, ↓dItS, ↓dR1, ↓dR2, ↓dZip, ↓dEnum, ↓gN, ↓gNi, ↓gCo, ↓gT, ↓dLc, wipeE, eget, eset, List.set, ev0, List.map_cons, List.map_nil, List.cons_append, List.nil_append, List.replicate_succ, List.replicate_zero, noOwn, isOwn, List.all_cons, List.all_nil, List.length_cons, List.length_nil]
      rw [List.all_cons] at h2
      refine ⟨a.1, a.2, rfl, rfl, ?_⟩
      cases c : cov a.1 a.2 with
      | true => exact hN _ ⟨r', _, _, rfl, by rw [c, Bool.true_and] at h2; exact h2, rfl⟩
      | false =>
        rw [c, Bool.false_and] at h2
        rw [← h2] at q
        exact q
theorem ok_meeting (T : Tx K mg) : FnOk P w K mg base CX0 3 T.ad_meeting T.fd_meeting ["table", "box"] (spD K (F2 fun a b Q => ∃ t bx, a = eT t ∧ b = eB bx ∧ t.1.length ≤ 1000 ∧ Q (.list ((met bx t.1).map fun k => PyData.int (k : Nat))))) := by
  refine T.d_meeting.F.ok x_meeting (fun vs H Q E h => spD_len F2_len h) (fun cdv A outer s H vs Q E hr h => ?_)
  have nd := x_meeting.nd
  refine ⟨_, (pss_one (ps_ret (pe_lc (own := [("index", 2), ("rule", 3)]) (g := (gTup K 2 (gCons (gName 2) (gCons (gName 3) gNil)))) rfl nd (pi_enumT (by rfl) T.b_enumerate (pa_cons (pe_ix ix_seq (pv 0) pe_int (fun _ _ => rfl)) pa_nil)) (blkOk_by (own := [("index", 2), ("rule", 3)]) (N := Ns_meeting) (sc := defScope s_meeting) (by decide +kernel)) (fun _ _ _ _ _ => (pg_tup (n := 2) rfl (pgs_cons (pg_name (i := 2) nd rfl (Or.inl rfl)) (pgs_cons (pg_name (i := 3) nd rfl (Or.inl rfl)) pgs_nil)))) (fun _ _ _ _ _ => pts_one (pt_val (pe_call (ok_meets T) hr (by rfl) T.d_meets.g T.d_meets.F.kp T.d_meets.b .nil pass0 (pa_cons (pe_ix (r := rIx K) ix_seq (pv 3) pe_int (fun _ _ => rfl)) (pa_cons (pv 1) pa_nil))))) (fun _ _ _ _ _ => (pv 2))))), fn_pure ((rs_ret (RfF.e (rf_lc (ri_enumT (raC (ro rv_ix (RfE.b (rn 0)) (RfE.b (rc_int _))) raN)) (rg_tup (rg_cons (rg_name 2) (rg_cons (rg_name 3) rg_nil))) (rt_val (re_call (raC (ro rv_ix (RfE.b (rn 3)) (RfE.b (rc_int _))) (raC (rn 1) raN)))) (rn 2))))) h (by rw [spD_len F2_len h]; decide) (F2_in fun a0 a1 Qd q => ?_)⟩
  obtain ⟨t, bx, rfl, rfl, hl, q⟩ := q
  simp only [eT, true_and, ↓sTake, ↓sTake0, ↓sPick, ↓sNumber, rng_1, rng_2, rng_3, rng_4, rng_6, ↓dKd, dix_0, dix_1, dix_2, dix_3, dix_4, dix_5, dix_6, dix_7, dix_8, dix_9, Bool.not_false, Bool.not_true, Bool.and_true, Bool.true_and, Bool.and_false, Bool.false_and, decide_eq_true_eq, Bool.not_eq_true', decide_eq_false_iff_not, Bool.false_eq_true, if_true, if_false, ↓F0, ↓F1, ↓F2, ↓F3, ↓F4, ↓F5, ↓F6, ↓dParO1, ↓dParO2, ↓dEnumT, ↓oRepr, ↓dUn, ↓oNeg, ↓dSeq, ↓dRet, ↓dRetN, ↓dIf, ↓dAsg, ↓dDrop, ↓dBreak, ↓dCont, ↓dNext, ↓dOwn, ↓dApp, ↓dSetIx, ↓dFrz, frz, ↓dPar, ↓dAug, ↓dFor, ↓dN, ↓dNB, ↓dC, ↓dOp, ↓oI, ↓oI0, ↓oB, ↓oEq, ↓oEqS, eqS, ↓oIsN, isNo, ↓oIx, ↓oIxS, seqOf, ↓oCat, ↓oCatT, ↓oCatS, ↓oIn, ↓oInS, ↓dTb, ↓dAnd, ↓dOr, ↓dNot, ↓dYes, ↓dAndV, ↓dOrV, ↓dNotV, ↓dIfV, ↓dChain, ↓dNil, ↓dCons, ↓dL, ↓dTup, ↓dCB, ↓oAbs, ↓oI2, ↓oLen, ↓oLenS, ↓oInt, ↓oSum, ↓oBs, ↓oTupOf, ↓dSeqOf, ↓dIsi, it_bool_none, it_bool_bool, it_bool_int, it_bool_str, it_bool_list, it_bool_tuple, it_bool_dict, it_int_none, it_int_bool, it_int_int, it_int_str, it_int_list, it_int_tuple, it_int_dict, it_str_none, it_str_bool, it_str_int, it_str_str, it_str_list, it_str_tuple, it_str_dict, it_list_none, it_list_bool, it_list_int, it_list_str, it_list_list, it_list_tuple, it_list_dict, it_tuple_none, it_tuple_bool, it_tuple_int, it_tuple_str, it_tuple_list, it_tuple_tuple, it_tuple_dict, it_dict_none, it_dict_bool, it_dict_int, it_dict_str, it_dict_list, it_dict_tuple, it_dict_dict, ↓dNoP, ↓dPart, ↓dSlT, ↓dSlL, ↓dSlS, ↓dCall, ↓dCallS, ↓dItL, ↓dItT, ↓dItS, ↓dR1, ↓dR2, ↓dZip, ↓dEnum, ↓gN, ↓gNi, ↓gCo, ↓gT, ↓dLc, wipeE, eget, eset, List.set, ev0, List.map_cons, List.map_nil, List.cons_append, List.nil_append, List.replicate_succ, List.replicate_zero, noOwn, isOwn, List.all_cons, List.all_nil, List.length_cons, List.length_nil]
  refine ⟨by rw [enumD_len, List.length_map]; omega, ?_⟩
  rw [enum_map]
  refine lc_fun (fun p : Rule × Nat => PyData.tuple [.int (p.2 : Nat), eRu p.1]) (fun p => if tchs p.1.1 bx = true then some (.int (p.2 : Nat)) else none) (as := t.1.zipIdx) (fun p hp R hR => ?_) ?_
  · simp only [eRu, true_and, ↓sTake, ↓sTake0, ↓sPick, ↓sNumber, rng_1, rng_2, rng_3, rng_4, rng_6, ↓dKd, dix_0, dix_1, dix_2, dix_3, dix_4, dix_5, dix_6, dix_7, dix_8, dix_9, Bool.not_false, Bool.not_true, Bool.and_true, Bool.true_and, Bool.and_false, Bool.false_and, decide_eq_true_eq, Bool.not_eq_true', decide_eq_false_iff_not, Bool.false_eq_true, if_true, if_false, ↓F0, ↓F1, ↓F2, ↓F3, ↓F4, ↓F5, ↓F6, ↓dParO1, ↓dParO2, ↓dEnumT, ↓oRepr, ↓dUn, ↓oNeg, ↓dSeq, ↓dRet, ↓dRetN, ↓dIf, ↓dAsg, ↓dDrop, ↓dBreak, ↓dCont, ↓dNext, ↓dOwn, ↓dApp, ↓dSetIx, ↓dFrz, frz, ↓dPar, ↓dAug, ↓dFor, ↓dN, ↓dNB, ↓dC, ↓dOp, ↓oI, ↓oI0, ↓oB, ↓oEq, ↓oEqS, eqS, ↓oIsN, isNo, ↓oIx, ↓oIxS, seqOf, ↓oCat, ↓oCatT, ↓oCatS, ↓oIn, ↓oInS, ↓dTb, ↓dAnd, ↓dOr, ↓dNot, ↓dYes, ↓dAndV, ↓dOrV, ↓dNotV, ↓dIfV, ↓dChain, ↓dNil, ↓dCons, ↓dL, ↓dTup, ↓dCB, ↓oAbs, ↓oI2, ↓oLen, ↓oLenS, ↓oInt, ↓oSum, ↓oBs, ↓oTupOf, ↓dSeqOf, ↓dIsi, it_bool_none, it_bool_bool, it_bool_int, it_bool_str, it_bool_list, it_bool_tuple, it_bool_dict, it_int_none, it_int_bool, it_int_int, it_int_str, it_int_list, it_int_tuple, it_int_dict, it_str_none, it_str_bool, it_str_int, it_str_str, it_str_list, it_str_tuple, it_str_dict, it_list_none, it_list_bool, it_list_int, it_list_str, it_list_list, it_list_tuple, it_list_dict, it_tuple_none, it_tuple_bool, it_tuple_int, it_tuple_str, it_tuple_list, it_tuple_tuple, it_tuple_dict, it_dict_none, it_dict_bool, it_dict_int, it_dict_str, it_dict_list, it_dict_tuple, it_dict_dict, ↓dNoP, ↓dPart, ↓dSlT, ↓dSlL, ↓dSlS, ↓dCall, ↓dCallS, ↓dItL, ↓dItT, ↓dItS, ↓dR1, ↓dR2, ↓dZip, ↓dEnum, ↓gN, ↓gNi, ↓gCo, ↓gT, ↓dLc, wipeE, eget, eset, List.set, ev0, List.map_cons, List.map_nil, List.cons_append, List.nil_append, List.replicate_succ, List.replicate_zero, noOwn, isOwn, List.all_cons, List.all_nil, List.length_cons, List.length_nil]
    refine ⟨_, _, rfl, rfl, ?_⟩
    split <;> rename_i c
    · rw [if_pos c] at hR; exact hR
    · rw [if_neg c] at hR; exact hR
  · have e : (t.1.zipIdx.filterMap fun p => if tchs p.1.1 bx = true then some (PyData.int (p.2 : Nat)) else none) = (met bx t.1).map fun k => PyData.int (k : Nat) := by
      unfold met
      rw [List.map_filterMap]
      refine congrFun (congrArg _ (funext fun p => ?_)) _
      split <;> rfl
    rw [e]
    exact q
def decB (t : Tb) (b : Row) (k : Nat) : Bool := if k = t.1.length then (met b t.1).isEmpty else match (met b t.1).head? with
  | some j => decide (j = k) && (match t.1[k]? with | some u => covs u.1 b | none => false)
  | none => false
theorem ok_is_decided (T : Tx K mg) : FnOk P w K mg base CX0 3 T.ad_is_decided T.fd_is_decided ["table", "box", "met", "index"] (spD K (F4 fun a b c d Q => ∃ t bx k, a = eT t ∧ b = eB bx ∧ c = .list ((met bx t.1).map fun k => PyData.int (k : Nat)) ∧ d = .int (k : Nat) ∧ k ≤ t.1.length ∧ Q (.bool (decB t bx k)))) := by
  refine T.d_is_decided.F.ok x_is_decided (fun vs H Q E h => spD_len F4_len h) (fun cdv A outer s H vs Q E hr h => ?_)
  have nd := x_is_decided.nd
  refine ⟨_, (pss_cons (ps_set (i := 4) nd rfl (Or.inl rfl) (pe_ix ix_seq (pv 0) pe_int (fun _ _ => rfl)))
        (pss_cons (ps_if (pt_cmpR op_eq (pv 3) (pe_callB call_len_seq (by rfl) T.b_len (by decide +kernel) (pa_cons (pv 4) pa_nil)) (nomark _)) (pss_one (ps_ret (pe_cmpR op_eq (pe_callB call_len_seq (by rfl) T.b_len (by decide +kernel) (pa_cons (pv 2) pa_nil)) pe_int (nomark _)))) pss_nil)
        (pss_one (ps_ret (pe_and (pe_cmpR op_gt (pe_callB call_len_seq (by rfl) T.b_len (by decide +kernel) (pa_cons (pv 2) pa_nil)) pe_int (nomark _)) (pe_and (pe_cmpR op_eq (pe_ix ix_seq (pv 2) pe_int (fun _ _ => rfl)) (pv 3) (nomark _)) (pe_one (pe_call (ok_contains T) hr (by rfl) T.d_contains.g T.d_contains.F.kp T.d_contains.b .nil pass0 (pa_cons (pe_ix ix_seq (pe_ix ix_seq (pv 4) (pv 3) (fun _ _ => rfl)) pe_int (fun _ _ => rfl)) (pa_cons (pv 1) pa_nil)))))))))), fn_pure ((rs_seq (rs_asg (ro rv_ix (RfE.b (rn 0)) (RfE.b (rc_int _))) (rg_name 4))
        (rs_seq (rs_if (rt_test (ro rv_eq (RfE.b (rn 3)) (RfE.b (re_cb ro_len (rbC (RfE.b (rn 4)) rbN))))) (rs_ret (ro rv_eq (RfE.b (re_cb ro_len (rbC (RfE.b (rn 2)) rbN))) (RfE.b (rc_int _)))) rs_next)
        (rs_ret (re_and (ro rv_gt (RfE.b (re_cb ro_len (rbC (RfE.b (rn 2)) rbN))) (RfE.b (rc_int _))) (re_and (ro rv_eq (RfE.b (ro rv_ix (RfE.b (rn 2)) (RfE.b (rc_int _)))) (RfE.b (rn 3))) (re_call (raC (ro rv_ix (RfE.b (ro rv_ix (RfE.b (rn 4)) (RfE.b (rn 3)))) (RfE.b (rc_int _))) (raC (rn 1) raN))))))))) h (by rw [spD_len F4_len h]; decide) (F4_in fun a0 a1 a2 a3 Qd q => ?_)⟩
  obtain ⟨t, bx, k, rfl, rfl, rfl, rfl, hk, q⟩ := q
  simp only [eT, true_and, ↓sTake, ↓sTake0, ↓sPick, ↓sNumber, rng_1, rng_2, rng_3, rng_4, rng_6, ↓dKd, dix_0, dix_1, dix_2, dix_3, dix_4, dix_5, dix_6, dix_7, dix_8, dix_9, Bool.not_false, Bool.not_true, Bool.and_true, Bool.true_and, Bool.and_false, Bool.false_and, decide_eq_true_eq, Bool.not_eq_true', decide_eq_false_iff_not, Bool.false_eq_true, if_true, if_false, ↓F0, ↓F1, ↓F2, ↓F3, ↓F4, ↓F5, ↓F6, ↓dParO1, ↓dParO2, ↓dEnumT, ↓oRepr, ↓dUn, ↓oNeg, ↓dSeq, ↓dRet, ↓dRetN, ↓dIf, ↓dAsg, ↓dDrop, ↓dBreak, ↓dCont, ↓dNext, ↓dOwn, ↓dApp, ↓dSetIx, ↓dFrz, frz, ↓dPar, ↓dAug, ↓dFor, ↓dN, ↓dNB, ↓dC, ↓dOp, ↓oI, ↓oI0, ↓oB, ↓oEq, ↓oEqS, eqS, ↓oIsN, isNo, ↓oIx, ↓oIxS, seqOf, ↓oCat, ↓oCatT, ↓oCatS, ↓oIn, ↓oInS, ↓dTb, ↓dAnd, ↓dOr, ↓dNot, ↓dYes, ↓dAndV, ↓dOrV, ↓dNotV, ↓dIfV, ↓dChain, ↓dNil, ↓dCons, ↓dL, ↓dTup, ↓dCB, ↓oAbs, ↓oI2, ↓oLen, ↓oLenS, ↓oInt, ↓oSum, ↓oBs, ↓oTupOf, ↓dSeqOf, ↓dIsi, it_bool_none, it_bool_bool, it_bool_int, it_bool_str, it_bool_list, it_bool_tuple, it_bool_dict, it_int_none, it_int_bool, it_int_int, it_int_str, it_int_list, it_int_tuple, it_int_dict, it_str_none, it_str_bool, it_str_int, it_str_str, it_str_list, it_str_tuple, it_str_dict, it_list_none, it_list_bool, it_list_int, it_list_str, it_list_list, it_list_tuple, it_list_dict, it_tuple_none, it_tuple_bool, it_tuple_int, it_tuple_str, it_tuple_list, it_tuple_tuple, it_tuple_dict, it_dict_none, it_dict_bool, it_dict_int, it_dict_str, it_dict_list, it_dict_tuple, it_dict_dict, ↓dNoP, ↓dPart, ↓dSlT, ↓dSlL, ↓dSlS, ↓dCall, ↓dCallS, ↓dItL, ↓dItT, ↓dItS, ↓dR1, ↓dR2, ↓dZip, ↓dEnum, ↓gN, ↓gNi, ↓gCo, ↓gT, ↓dLc, wipeE, eget, eset, List.set, ev0, List.map_cons, List.map_nil, List.cons_append, List.nil_append, List.replicate_succ, List.replicate_zero, noOwn, isOwn, List.all_cons, List.all_nil, List.length_cons, List.length_nil, List.length_map]
  unfold decB at q
  split <;> rename_i c
  · have c' : k = t.1.length := by omega
    rw [if_pos c'] at q
    cases hm : met bx t.1 with
    | nil => rw [hm] at q; exact q
    | cons j r =>
      rw [hm] at q
      rw [decide_eq_false (by rw [List.length_cons]; omega)]
      exact q
  · have c' : ¬ k = t.1.length := by omega
    rw [if_neg c'] at q
    have hlt : k < t.1.length := by omega
    cases hm : met bx t.1 with
    | nil =>
      rw [hm] at q
      rw [if_neg (by rw [List.length_nil]; decide)]
      exact q
    | cons j r =>
      rw [hm] at q
      rw [if_pos (by rw [List.length_cons]; omega)]
      simp only [true_and, ↓sTake, ↓sTake0, ↓sPick, ↓sNumber, rng_1, rng_2, rng_3, rng_4, rng_6, ↓dKd, dix_0, dix_1, dix_2, dix_3, dix_4, dix_5, dix_6, dix_7, dix_8, dix_9, Bool.not_false, Bool.not_true, Bool.and_true, Bool.true_and, Bool.and_false, Bool.false_and, decide_eq_true_eq, Bool.not_eq_true', decide_eq_false_iff_not, Bool.false_eq_true, if_true, if_false, ↓F0, ↓F1, ↓F2, ↓F3, ↓F4, ↓F5, ↓F6, ↓dParO1, ↓dParO2, ↓dEnumT, ↓oRepr, ↓dUn, ↓oNeg, ↓dSeq, ↓dRet, ↓dRetN, ↓dIf, ↓dAsg, ↓dDrop, ↓dBreak, ↓dCont, ↓dNext, ↓dOwn, ↓dApp, ↓dSetIx, ↓dFrz, frz, ↓dPar, ↓dAug, ↓dFor, ↓dN, ↓dNB, ↓dC, ↓dOp, ↓oI, ↓oI0, ↓oB, ↓oEq, ↓oEqS, eqS, ↓oIsN, isNo, ↓oIx, ↓oIxS, seqOf, ↓oCat, ↓oCatT, ↓oCatS, ↓oIn, ↓oInS, ↓dTb, ↓dAnd, ↓dOr, ↓dNot, ↓dYes, ↓dAndV, ↓dOrV, ↓dNotV, ↓dIfV, ↓dChain, ↓dNil, ↓dCons, ↓dL, ↓dTup, ↓dCB, ↓oAbs, ↓oI2, ↓oLen, ↓oLenS, ↓oInt, ↓oSum, ↓oBs, ↓oTupOf, ↓dSeqOf, ↓dIsi, it_bool_none, it_bool_bool, it_bool_int, it_bool_str, it_bool_list, it_bool_tuple, it_bool_dict, it_int_none, it_int_bool, it_int_int, it_int_str, it_int_list, it_int_tuple, it_int_dict, it_str_none, it_str_bool, it_str_int, it_str_str, it_str_list, it_str_tuple, it_str_dict, it_list_none, it_list_bool, it_list_int, it_list_str, it_list_list, it_list_tuple, it_list_dict, it_tuple_none, it_tuple_bool, it_tuple_int, it_tuple_str, it_tuple_list, it_tuple_tuple, it_tuple_dict, it_dict_none, it_dict_bool, it_dict_int, it_dict_str, it_dict_list, it_dict_tuple, it_dict_dict, ↓dNoP, ↓dPart, ↓dSlT, ↓dSlL, ↓dSlS, ↓dCall, ↓dCallS, ↓dItL, ↓dItT, ↓dItS, ↓dR1, ↓dR2, ↓dZip, ↓dEnum, ↓gN, ↓gNi, ↓gCo, ↓gT, ↓dLc, wipeE, eget, eset, List.set, ev0, List.map_cons, List.map_nil, List.cons_append, List.nil_append, List.replicate_succ, List.replicate_zero, noOwn, isOwn, List.all_cons, List.all_nil, List.length_cons, List.length_nil]
      simp only [List.head?_cons] at q
      by_cases hj : j = k
      · subst hj
        rw [decide_eq_true rfl, Bool.true_and, List.getElem?_eq_getElem hlt] at q
        rw [if_pos rfl]
        rw [dix_map (f := eRu) (as := t.1) (by omega) (a := t.1[j]) (by rw [Int.toNat_natCast, List.getElem?_eq_getElem hlt])]
        simp only [eRu, true_and, ↓sTake, ↓sTake0, ↓sPick, ↓sNumber, rng_1, rng_2, rng_3, rng_4, rng_6, ↓dKd, dix_0, dix_1, dix_2, dix_3, dix_4, dix_5, dix_6, dix_7, dix_8, dix_9, Bool.not_false, Bool.not_true, Bool.and_true, Bool.true_and, Bool.and_false, Bool.false_and, decide_eq_true_eq, Bool.not_eq_true', decide_eq_false_iff_not, Bool.false_eq_true, if_true, if_false, ↓F0, ↓F1, ↓F2, ↓F3, ↓F4, ↓F5, ↓F6, ↓dParO1, ↓dParO2, ↓dEnumT, ↓oRepr, ↓dUn, ↓oNeg, ↓dSeq, ↓dRet, ↓dRetN, ↓dIf, ↓dAsg, ↓dDrop, ↓dBreak, ↓dCont, ↓dNext, ↓dOwn, ↓dApp, ↓dSetIx, ↓dFrz, frz, ↓dPar, ↓dAug, ↓dFor, ↓dN, ↓dNB, ↓dC, ↓dOp, ↓oI, ↓oI0, ↓oB, ↓oEq, ↓oEqS, eqS, ↓oIsN, isNo, ↓oIx, ↓oIxS, seqOf, ↓oCat, ↓oCatT, ↓oCatS, ↓oIn, ↓oInS, ↓dTb, ↓dAnd, ↓dOr, ↓dNot, ↓dYes, ↓dAndV, ↓dOrV, ↓dNotV, ↓dIfV, ↓dChain, ↓dNil, ↓dCons, ↓dL, ↓dTup, ↓dCB, ↓oAbs, ↓oI2, ↓oLen, ↓oLenS, ↓oInt, ↓oSum, ↓oBs, ↓oTupOf, ↓dSeqOf, ↓dIsi, it_bool_none, it_bool_bool, it_bool_int, it_bool_str, it_bool_list, it_bool_tuple, it_bool_dict, it_int_none, it_int_bool, it_int_int, it_int_str, it_int_list, it_int_tuple, it_int_dict, it_str_none, it_str_bool, it_str_int, it_str_str, it_str_list, it_str_tuple, it_str_dict, it_list_none, it_list_bool, it_list_int, it_list_str, it_list_list, it_list_tuple, it_list_dict, it_tuple_none, it_tuple_bool, it_tuple_int, it_tuple_str, it_tuple_list, it_tuple_tuple, it_tuple_dict, it_dict_none, it_dict_bool, it_dict_int, it_dict_str, it_dict_list, it_dict_tuple, it_dict_dict, ↓dNoP, ↓dPart, ↓dSlT, ↓dSlL, ↓dSlS, ↓dCall, ↓dCallS, ↓dItL, ↓dItT, ↓dItS, ↓dR1, ↓dR2, ↓dZip, ↓dEnum, ↓gN, ↓gNi, ↓gCo, ↓gT, ↓dLc, wipeE, eget, eset, List.set, ev0, List.map_cons, List.map_nil, List.cons_append, List.nil_append, List.replicate_succ, List.replicate_zero, noOwn, isOwn, List.all_cons, List.all_nil, List.length_cons, List.length_nil]
        exact ⟨_, _, rfl, rfl, q⟩
      · rw [decide_eq_false hj, Bool.false_and] at q
        rw [if_neg (by omega)]
        exact q
theorem ok_decides (T : Tx K mg) : FnOk P w K mg base CX0 4 T.ad_decides T.fd_decides ["table", "box", "index"] (spD K (F3 fun a b c Q => ∃ t bx k, a = eT t ∧ b = eB bx ∧ c = .int (k : Nat) ∧ k ≤ t.1.length ∧ t.1.length ≤ 1000 ∧ Q (.bool (decB t bx k)))) := by
  refine T.d_decides.F.ok x_decides (fun vs H Q E h => spD_len F3_len h) (fun cdv A outer s H vs Q E hr h => ?_)
  have nd := x_decides.nd
  refine ⟨_, (pss_one (ps_ret (pe_call (ok_is_decided T) hr (by rfl) T.d_is_decided.g T.d_is_decided.F.kp T.d_is_decided.b .nil pass0 (pa_cons (pv 0) (pa_cons (pv 1) (pa_cons (pe_call (ok_meeting T) hr (by rfl) T.d_meeting.g T.d_meeting.F.kp T.d_meeting.b .nil pass0 (pa_cons (pv 0) (pa_cons (pv 1) pa_nil))) (pa_cons (pv 2) pa_nil))))))), fn_pure ((rs_ret (re_call (raC (rn 0) (raC (rn 1) (raC (re_call (raC (rn 0) (raC (rn 1) raN))) (raC (rn 2) raN))))))) h (by rw [spD_len F3_len h]; decide) (F3_in fun a0 a1 a2 Qd q => ?_)⟩
  obtain ⟨t, bx, k, rfl, rfl, rfl, hk, hl, q⟩ := q
  simp only [true_and, ↓sTake, ↓sTake0, ↓sPick, ↓sNumber, rng_1, rng_2, rng_3, rng_4, rng_6, ↓dKd, dix_0, dix_1, dix_2, dix_3, dix_4, dix_5, dix_6, dix_7, dix_8, dix_9, Bool.not_false, Bool.not_true, Bool.and_true, Bool.true_and, Bool.and_false, Bool.false_and, decide_eq_true_eq, Bool.not_eq_true', decide_eq_false_iff_not, Bool.false_eq_true, if_true, if_false, ↓F0, ↓F1, ↓F2, ↓F3, ↓F4, ↓F5, ↓F6, ↓dParO1, ↓dParO2, ↓dEnumT, ↓oRepr, ↓dUn, ↓oNeg, ↓dSeq, ↓dRet, ↓dRetN, ↓dIf, ↓dAsg, ↓dDrop, ↓dBreak, ↓dCont, ↓dNext, ↓dOwn, ↓dApp, ↓dSetIx, ↓dFrz, frz, ↓dPar, ↓dAug, ↓dFor, ↓dN, ↓dNB, ↓dC, ↓dOp, ↓oI, ↓oI0, ↓oB, ↓oEq, ↓oEqS, eqS, ↓oIsN, isNo, ↓oIx, ↓oIxS, seqOf, ↓oCat, ↓oCatT, ↓oCatS, ↓oIn, ↓oInS, ↓dTb, ↓dAnd, ↓dOr, ↓dNot, ↓dYes, ↓dAndV, ↓dOrV, ↓dNotV, ↓dIfV, ↓dChain, ↓dNil, ↓dCons, ↓dL, ↓dTup, ↓dCB, ↓oAbs, ↓oI2, ↓oLen, ↓oLenS, ↓oInt, ↓oSum, ↓oBs, ↓oTupOf, ↓dSeqOf, ↓dIsi, it_bool_none, it_bool_bool, it_bool_int, it_bool_str, it_bool_list, it_bool_tuple, it_bool_dict, it_int_none, it_int_bool, it_int_int, it_int_str, it_int_list, it_int_tuple, it_int_dict, it_str_none, it_str_bool, it_str_int, it_str_str, it_str_list, it_str_tuple, it_str_dict, it_list_none, it_list_bool, it_list_int, it_list_str, it_list_list, it_list_tuple, it_list_dict, it_tuple_none, it_tuple_bool, it_tuple_int, it_tuple_str, it_tuple_list, it_tuple_tuple, it_tuple_dict, it_dict_none, it_dict_bool, it_dict_int, it_dict_str, it_dict_list, it_dict_tuple, it_dict_dict, ↓dNoP, ↓dPart, ↓dSlT, ↓dSlL, ↓dSlS, ↓dCall, ↓dCallS, ↓dItL, ↓dItT, ↓dItS, ↓dR1, ↓dR2, ↓dZip, ↓dEnum, ↓gN, ↓gNi, ↓gCo, ↓gT, ↓dLc, wipeE, eget, eset, List.set, ev0, List.map_cons, List.map_nil, List.cons_append, List.nil_append, List.replicate_succ, List.replicate_zero, noOwn, isOwn, List.all_cons, List.all_nil, List.length_cons, List.length_nil]
  exact ⟨t, bx, rfl, rfl, hl, t, bx, k, rfl, rfl, rfl, rfl, hk, q⟩
/-- what a leaf of a fate says, rule by rule -/
def alk (b : Row) (f lf : D) : List Rule → Bool
  | [] => PyData.eqv lf f
  | u :: r => if tchs u.1 b = true then (if PyData.eqv u.2.1 f = false then false else if covs u.1 b = true then true else alk b f lf r) else alk b f lf r
def okT (t : Tb) : Prop := (∀ u ∈ t.1, okD u.2.1 = true) ∧ okD t.2.1 = true
theorem okT.at {t : Tb} (h : okT t) (k : Nat) : okD (fateAt t k) = true := by
  unfold fateAt
  cases e : t.1[k]? with
  | none => exact h.2
  | some u => exact h.1 u (List.mem_of_getElem? e)
def metz (b : Row) (ps : List (Rule × Nat)) : List Nat := ps.filterMap fun p => if tchs p.1.1 b = true then some p.2 else none
theorem metz_nil {b : Row} {f lf : D} : ∀ {ps : List (Rule × Nat)}, metz b ps = [] → alk b f lf (ps.map (·.1)) = PyData.eqv lf f
  | [], _ => rfl
  | p :: ps, h => by
    unfold metz at h
    rw [List.filterMap_cons] at h
    rw [List.map_cons, alk]
    by_cases c : tchs p.1.1 b = true
    · rw [if_pos c] at h; cases h
    · rw [if_neg c] at h ⊢
      exact metz_nil h
theorem metz_cons {b : Row} {f lf : D} : ∀ {ps : List (Rule × Nat)} {j : Nat} {r : List Nat}, metz b ps = j :: r →
    ∃ u ps', (u, j) ∈ ps ∧ metz b ps' = r ∧ (∀ p ∈ ps', p ∈ ps) ∧ alk b f lf (ps.map (·.1)) = (if PyData.eqv u.2.1 f = false then false else if covs u.1 b = true then true else alk b f lf (ps'.map (·.1)))
  | [], _, _, h => by cases h
  | p :: ps, j, r, h => by
    unfold metz at h
    rw [List.filterMap_cons] at h
    by_cases c : tchs p.1.1 b = true
    · rw [if_pos c] at h
      cases h
      refine ⟨p.1, ps, List.mem_cons_self, rfl, fun x hx => List.mem_cons_of_mem _ hx, ?_⟩
      rw [List.map_cons, alk, if_pos c]
    · rw [if_neg c] at h
      obtain ⟨u, ps', h1, h2, h3, h4⟩ := metz_cons (f := f) (lf := lf) h
      refine ⟨u, ps', List.mem_cons_of_mem _ h1, h2, fun x hx => List.mem_cons_of_mem _ (h3 x hx), ?_⟩
      rw [List.map_cons, alk, if_neg c]
      exact h4
theorem okU_is_alike (T : Tx K mg) : FnOk P w K mg base CX0 3 T.adU_is_alike T.fdU_is_alike ["table", "box", "met", "index"] (spD K (F4 fun a b c d Q => ∃ t bx k, a = eT t ∧ b = eB bx ∧ c = .list ((met bx t.1).map fun k => PyData.int (k : Nat)) ∧ d = .int (k : Nat) ∧ k ≤ t.1.length ∧ okT t ∧ Q (.bool (alk bx (fateAt t k) t.2.1 t.1)))) := by
  refine T.dU_is_alike.F.ok xU_is_alike (fun vs H Q E h => spD_len F4_len h) (fun cdv A outer s H vs Q E hr h => ?_)
  have nd := xU_is_alike.nd
  refine ⟨_, (pss_cons (ps_set (i := 4) nd rfl (Or.inl rfl) (pe_ix ix_seq (pv 0) pe_int (fun _ _ => rfl)))
        (pss_cons (ps_if (pt_not (pt_chain op_le op_le pe_int (pv 3) (pe_callB call_len_seq (by rfl) T.b_len (by decide +kernel) (pa_cons (pv 4) pa_nil)))) (pss_one (ps_ret pe_bl)) pss_nil)
        (pss_cons (ps_set (i := 5) nd rfl (Or.inl rfl) (pe_call (ok_fate_of T) (hr.mono (by decide)) (by rfl) T.d_fate_of.g T.d_fate_of.F.kp T.d_fate_of.b .nil pass0 (pa_cons (pv 0) (pa_cons (pv 3) pa_nil))))
        (pss_cons (ps_for PassesOwn.never rfl (pi_list (pv 2)) (pg_name (i := 6) nd rfl (Or.inl rfl)) (pss_cons (ps_if (pt_cmpR (op_neD hr.units) (pe_ix ix_seq (pe_ix ix_seq (pv 4) (pv 6) (fun _ _ => rfl)) pe_int (fun _ _ => rfl)) (pv 5) (nomark _)) (pss_one (ps_ret pe_bl)) pss_nil)
        (pss_one (ps_if (pt_val (pe_call (ok_contains T) hr (by rfl) T.d_contains.g T.d_contains.F.kp T.d_contains.b .nil pass0 (pa_cons (pe_ix ix_seq (pe_ix ix_seq (pv 4) (pv 6) (fun _ _ => rfl)) pe_int (fun _ _ => rfl)) (pa_cons (pv 1) pa_nil)))) (pss_one (ps_ret pe_bl)) pss_nil))))
        (pss_one (ps_ret (pe_cmpR (op_eqD hr.units) (pe_call (ok_fate_of T) (hr.mono (by decide)) (by rfl) T.d_fate_of.g T.d_fate_of.F.kp T.d_fate_of.b .nil pass0 (pa_cons (pv 0) (pa_cons (pe_callB call_len_seq (by rfl) T.b_len (by decide +kernel) (pa_cons (pv 4) pa_nil)) pa_nil))) (pv 5) (nomark _)))))))), fn_pure ((rs_seq (rs_asg (ro rv_ix (RfE.b (rn 0)) (RfE.b (rc_int _))) (rg_name 4))
        (rs_seq (rs_if (rt_not (rt_test (re_chain rv_le rv_le (RfE.b (rc_int _)) (RfE.b (rn 3)) (RfE.b (re_cb ro_len (rbC (RfE.b (rn 4)) rbN)))))) (rs_ret (rc_bl _)) rs_next)
        (rs_seq (rs_asg (re_call (raC (rn 0) (raC (rn 3) raN))) (rg_name 5))
        (rs_seq (rs_for (ri_list (rn 2)) (rg_name 6) (rs_seq (rs_if (rt_test (ro rv_neD (RfE.b (ro rv_ix (RfE.b (ro rv_ix (RfE.b (rn 4)) (RfE.b (rn 6)))) (RfE.b (rc_int _)))) (RfE.b (rn 5)))) (rs_ret (rc_bl _)) rs_next)
        (rs_if (rt_val (re_call (raC (ro rv_ix (RfE.b (ro rv_ix (RfE.b (rn 4)) (RfE.b (rn 6)))) (RfE.b (rc_int _))) (raC (rn 1) raN)))) (rs_ret (rc_bl _)) rs_next)))
        (rs_ret (ro rv_eqD (RfE.b (re_call (raC (rn 0) (raC (re_cb ro_len (rbC (RfE.b (rn 4)) rbN)) raN)))) (RfE.b (rn 5))))))))) h (by rw [spD_len F4_len h]; decide) (F4_in fun a0 a1 a2 a3 Qd q => ?_)⟩
  obtain ⟨t, bx, k, rfl, rfl, rfl, rfl, hk, ok, q⟩ := q
  simp only [eT, true_and, ↓sTake, ↓sTake0, ↓sPick, ↓sNumber, rng_1, rng_2, rng_3, rng_4, rng_6, ↓dKd, dix_0, dix_1, dix_2, dix_3, dix_4, dix_5, dix_6, dix_7, dix_8, dix_9, Bool.not_false, Bool.not_true, Bool.and_true, Bool.true_and, Bool.and_false, Bool.false_and, decide_eq_true_eq, Bool.not_eq_true', decide_eq_false_iff_not, Bool.false_eq_true, if_true, if_false, ↓F0, ↓F1, ↓F2, ↓F3, ↓F4, ↓F5, ↓F6, ↓dParO1, ↓dParO2, ↓dEnumT, ↓oRepr, ↓dUn, ↓oNeg, ↓dSeq, ↓dRet, ↓dRetN, ↓dIf, ↓dAsg, ↓dDrop, ↓dBreak, ↓dCont, ↓dNext, ↓dOwn, ↓dApp, ↓dSetIx, ↓dFrz, frz, ↓dPar, ↓dAug, ↓dFor, ↓dN, ↓dNB, ↓dC, ↓dOp, ↓oI, ↓oI0, ↓oB, ↓oEq, ↓oEqS, eqS, ↓oIsN, isNo, ↓oIx, ↓oIxS, seqOf, ↓oCat, ↓oCatT, ↓oCatS, ↓oIn, ↓oInS, ↓dTb, ↓dAnd, ↓dOr, ↓dNot, ↓dYes, ↓dAndV, ↓dOrV, ↓dNotV, ↓dIfV, ↓dChain, ↓dNil, ↓dCons, ↓dL, ↓dTup, ↓dCB, ↓oAbs, ↓oI2, ↓oLen, ↓oLenS, ↓oInt, ↓oSum, ↓oBs, ↓oTupOf, ↓dSeqOf, ↓dIsi, it_bool_none, it_bool_bool, it_bool_int, it_bool_str, it_bool_list, it_bool_tuple, it_bool_dict, it_int_none, it_int_bool, it_int_int, it_int_str, it_int_list, it_int_tuple, it_int_dict, it_str_none, it_str_bool, it_str_int, it_str_str, it_str_list, it_str_tuple, it_str_dict, it_list_none, it_list_bool, it_list_int, it_list_str, it_list_list, it_list_tuple, it_list_dict, it_tuple_none, it_tuple_bool, it_tuple_int, it_tuple_str, it_tuple_list, it_tuple_tuple, it_tuple_dict, it_dict_none, it_dict_bool, it_dict_int, it_dict_str, it_dict_list, it_dict_tuple, it_dict_dict, ↓dNoP, ↓dPart, ↓dSlT, ↓dSlL, ↓dSlS, ↓dCall, ↓dCallS, ↓dItL, ↓dItT, ↓dItS, ↓dR1, ↓dR2, ↓dZip, ↓dEnum, ↓gN, ↓gNi, ↓gCo, ↓gT, ↓dLc, wipeE, eget, eset, List.set, ev0, List.map_cons, List.map_nil, List.cons_append, List.nil_append, List.replicate_succ, List.replicate_zero, noOwn, isOwn, List.all_cons, List.all_nil, List.length_cons, List.length_nil, List.length_map]
  rw [if_pos (by omega), if_neg (by omega)]
  refine ⟨t, (k : Nat), rfl, rfl, by omega, by omega, ?_⟩
  rw [Int.toNat_natCast]
  have okf := ok.at k
  refine loop_by (fun rest env => ∃ (ps : List (Rule × Nat)) (s6 : Option En), rest = (metz bx ps).map (fun k => PyData.int (k : Nat)) ∧ (∀ p ∈ ps, t.1[p.2]? = some p.1) ∧ alk bx (fateAt t k) t.2.1 (ps.map (·.1)) = alk bx (fateAt t k) t.2.1 t.1 ∧
    env = [some (.d (eT t)), some (.d (eB bx)), some (.d (.list ((met bx t.1).map fun k => PyData.int (k : Nat)))), some (.d (.int (k : Nat))), some (.d (.tuple (t.1.map eRu))), some (.d (fateAt t k)), s6]) ?_ ?_ _ _ ⟨t.1.zipIdx, none, rfl, fun p hp => ?_, by rw [List.zipIdx_map_fst], rfl⟩
  · rintro env ⟨ps, s6, h1, h2, h3, rfl⟩
    have hz : metz bx ps = [] := List.map_eq_nil_iff.mp h1.symm
    simp only [true_and, ↓sTake, ↓sTake0, ↓sPick, ↓sNumber, rng_1, rng_2, rng_3, rng_4, rng_6, ↓dKd, dix_0, dix_1, dix_2, dix_3, dix_4, dix_5, dix_6, dix_7, dix_8, dix_9, Bool.not_false, Bool.not_true, Bool.and_true, Bool.true_and, Bool.and_false, Bool.false_and, decide_eq_true_eq, Bool.not_eq_true', decide_eq_false_iff_not, Bool.false_eq_true, if_true, if_false, ↓F0, ↓F1, ↓F2, ↓F3, ↓F4, ↓F5, ↓F6, ↓dParO1, ↓dParO2, ↓dEnumT, ↓oRepr, ↓dUn, ↓oNeg, ↓dSeq, ↓dRet, ↓dRetN, ↓dIf, ↓dAsg, ↓dDrop, ↓dBreak, ↓dCont, ↓dNext, ↓dOwn, ↓dApp, ↓dSetIx, ↓dFrz, frz, ↓dPar, ↓dAug, ↓dFor, ↓dN, ↓dNB, ↓dC, ↓dOp, ↓oI, ↓oI0, ↓oB, ↓oEq, ↓oEqS, eqS, ↓oIsN, isNo, ↓oIx, ↓oIxS, seqOf, ↓oCat, ↓oCatT, ↓oCatS, ↓oIn, ↓oInS, ↓dTb, ↓dAnd, ↓dOr, ↓dNot, ↓dYes, ↓dAndV, ↓dOrV, ↓dNotV, ↓dIfV, ↓dChain, ↓dNil, ↓dCons, ↓dL, ↓dTup, ↓dCB, ↓oAbs, ↓oI2, ↓oLen, ↓oLenS, ↓oInt, ↓oSum, ↓oBs, ↓oTupOf, ↓dSeqOf, ↓dIsi, it_bool_none, it_bool_bool, it_bool_int, it_bool_str, it_bool_list, it_bool_tuple, it_bool_dict, it_int_none, it_int_bool, it_int_int, it_int_str, it_int_list, it_int_tuple, it_int_dict, it_str_none, it_str_bool, it_str_int, it_str_str, it_str_list, it_str_tuple, it_str_dict, it_list_none, it_list_bool, it_list_int, it_list_str, it_list_list, it_list_tuple, it_list_dict, it_tuple_none, it_tuple_bool, it_tuple_int, it_tuple_str, it_tuple_list, it_tuple_tuple, it_tuple_dict, it_dict_none, it_dict_bool, it_dict_int, it_dict_str, it_dict_list, it_dict_tuple, it_dict_dict, ↓dNoP, ↓dPart, ↓dSlT, ↓dSlL, ↓dSlS, ↓dCall, ↓dCallS, ↓dItL, ↓dItT, ↓dItS, ↓dR1, ↓dR2, ↓dZip, ↓dEnum, ↓gN, ↓gNi, ↓gCo, ↓gT, ↓dLc, wipeE, eget, eset, List.set, ev0, List.map_cons, List.map_nil, List.cons_append, List.nil_append, List.replicate_succ, List.replicate_zero, noOwn, isOwn, List.all_cons, List.all_nil, List.length_cons, List.length_nil, List.length_map]
    refine ⟨t, (t.1.length : Nat), rfl, rfl, by omega, by omega, ?_⟩
    rw [Int.toNat_natCast]
    have fl : fateAt t t.1.length = t.2.1 := by unfold fateAt; rw [List.getElem?_eq_none (Nat.le_refl _)]
    rw [fl]
    refine ⟨ok.2, okf, ?_⟩
    rw [← h3, metz_nil hz] at q
    exact q
  · rintro d rest env N ⟨ps, s6, h1, h2, h3, rfl⟩ hN
    cases hz : metz bx ps with
    | nil => rw [hz] at h1; cases h1
    | cons j r =>
      rw [hz] at h1
      cases h1
      obtain ⟨u, ps', g1, g2, g3, g4⟩ := metz_cons (f := fateAt t k) (lf := t.2.1) hz
      have hj := h2 _ g1
      have dj : dix (t.1.map eRu) (j : Int) = some (eRu u) := dix_map (by omega) (by rw [Int.toNat_natCast]; exact hj)
      simp only [true_and, ↓sTake, ↓sTake0, ↓sPick, ↓sNumber, rng_1, rng_2, rng_3, rng_4, rng_6, ↓dKd, dix_0, dix_1, dix_2, dix_3, dix_4, dix_5, dix_6, dix_7, dix_8, dix_9, Bool.not_false, Bool.not_true, Bool.and_true, Bool.true_and, Bool.and_false, Bool.false_and, decide_eq_true_eq, Bool.not_eq_true', decide_eq_false_iff_not, Bool.false_eq_true, if_true, if_false, ↓F0, ↓F1, ↓F2, ↓F3, ↓F4, ↓F5, ↓F6, ↓dParO1, ↓dParO2, ↓dEnumT, ↓oRepr, ↓dUn, ↓oNeg, ↓dSeq, ↓dRet, ↓dRetN, ↓dIf, ↓dAsg, ↓dDrop, ↓dBreak, ↓dCont, ↓dNext, ↓dOwn, ↓dApp, ↓dSetIx, ↓dFrz, frz, ↓dPar, ↓dAug, ↓dFor, ↓dN, ↓dNB, ↓dC, ↓dOp, ↓oI, ↓oI0, ↓oB, ↓oEq, ↓oEqS, eqS, ↓oIsN, isNo, ↓oIx, ↓oIxS, seqOf, ↓oCat, ↓oCatT, ↓oCatS, ↓oIn, ↓oInS, ↓dTb, ↓dAnd, ↓dOr, ↓dNot, ↓dYes, ↓dAndV, ↓dOrV, ↓dNotV, ↓dIfV, ↓dChain, ↓dNil, ↓dCons, ↓dL, ↓dTup, ↓dCB, ↓oAbs, ↓oI2, ↓oLen, ↓oLenS, ↓oInt, ↓oSum, ↓oBs, ↓oTupOf, ↓dSeqOf, ↓dIsi, it_bool_none, it_bool_bool, it_bool_int, it_bool_str, it_bool_list, it_bool_tuple, it_bool_dict, it_int_none, it_int_bool, it_int_int, it_int_str, it_int_list, it_int_tuple, it_int_dict, it_str_none, it_str_bool, it_str_int, it_str_str, it_str_list, it_str_tuple, it_str_dict, it_list_none, it_list_bool, it_list_int, it_list_str, it_list_list, it_list_tuple, it_list_dict, it_tuple_none, it_tuple_bool, it_tuple_int, it_tuple_str, it_tuple_list, it_tuple_tuple, it_tuple_dict, it_dict_none, it_dict_bool, it_dict_int, it_dict_str, it_dict_list, it_dict_tuple, it_dict_dict, ↓dNoP, ↓dPart, ↓dSlT, ↓dSlL, ↓dSlS, ↓dCall, ↓dCallS, ↓dItL, ↓dItT, ↓dItS, ↓dR1, ↓dR2, ↓dZip, ↓dEnum, ↓gN, ↓gNi, ↓gCo, ↓gT, ↓dLc, wipeE, eget, eset, List.set, ev0, List.map_cons, List.map_nil, List.cons_append, List.nil_append, List.replicate_succ, List.replicate_zero, noOwn, isOwn, List.all_cons, List.all_nil, List.length_cons, List.length_nil, dj]
      simp only [eRu, true_and, ↓sTake, ↓sTake0, ↓sPick, ↓sNumber, rng_1, rng_2, rng_3, rng_4, rng_6, ↓dKd, dix_0, dix_1, dix_2, dix_3, dix_4, dix_5, dix_6, dix_7, dix_8, dix_9, Bool.not_false, Bool.not_true, Bool.and_true, Bool.true_and, Bool.and_false, Bool.false_and, decide_eq_true_eq, Bool.not_eq_true', decide_eq_false_iff_not, Bool.false_eq_true, if_true, if_false, ↓F0, ↓F1, ↓F2, ↓F3, ↓F4, ↓F5, ↓F6, ↓dParO1, ↓dParO2, ↓dEnumT, ↓oRepr, ↓dUn, ↓oNeg, ↓dSeq, ↓dRet, ↓dRetN, ↓dIf, ↓dAsg, ↓dDrop, ↓dBreak, ↓dCont, ↓dNext, ↓dOwn, ↓dApp, ↓dSetIx, ↓dFrz, frz, ↓dPar, ↓dAug, ↓dFor, ↓dN, ↓dNB, ↓dC, ↓dOp, ↓oI, ↓oI0, ↓oB, ↓oEq, ↓oEqS, eqS, ↓oIsN, isNo, ↓oIx, ↓oIxS, seqOf, ↓oCat, ↓oCatT, ↓oCatS, ↓oIn, ↓oInS, ↓dTb, ↓dAnd, ↓dOr, ↓dNot, ↓dYes, ↓dAndV, ↓dOrV, ↓dNotV, ↓dIfV, ↓dChain, ↓dNil, ↓dCons, ↓dL, ↓dTup, ↓dCB, ↓oAbs, ↓oI2, ↓oLen, ↓oLenS, ↓oInt, ↓oSum, ↓oBs, ↓oTupOf, ↓dSeqOf, ↓dIsi, it_bool_none, it_bool_bool, it_bool_int, it_bool_str, it_bool_list, it_bool_tuple, it_bool_dict, it_int_none, it_int_bool, it_int_int, it_int_str, it_int_list, it_int_tuple, it_int_dict, it_str_none, it_str_bool, it_str_int, it_str_str, it_str_list, it_str_tuple, it_str_dict, it_list_none, it_list_bool, it_list_int, it_list_str, it_list_list, it_list_tuple, it_list_dict, it_tuple_none, it_tuple_bool, it_tuple_int, it_tuple_str, it_tuple_list, it_tuple_tuple, it_tuple_dict, it_dict_none, it_dict_bool, it_dict_int, it_dict_str, it_dict_list, it_dict_tuple, it_dict_dict, ↓dNoP, ↓dPart, ↓dSlT, ↓dSlL, ↓dSlS, ↓dCall, ↓dCallS, ↓dItL, ↓dItT, ↓dItS, ↓dR1, ↓dR2, ↓dZip, ↓dEnum, ↓gN, ↓gNi, ↓gCo, ↓gT, ↓dLc, wipeE, eget, eset, List.set, ev0, List.map_cons, List.map_nil, List.cons_append, List.nil_append, List.replicate_succ, List.replicate_zero, noOwn, isOwn, List.all_cons, List.all_nil, List.length_cons, List.length_nil]
      refine ⟨ok.1 u (List.mem_of_getElem? hj), okf, ?_⟩
      rw [← h3, g4] at q
      rw [g4] at h3
      split <;> rename_i c
      · rw [if_pos c] at q; exact q
      · rw [if_neg c] at q h3
        refine ⟨_, _, rfl, rfl, ?_⟩
        split <;> rename_i c2
        · rw [if_pos c2] at q; exact q
        · rw [if_neg c2] at h3
          exact hN _ ⟨ps', _, by rw [g2], fun p hp => h2 p (g3 p hp), h3, rfl⟩
  · exact (List.mem_zipIdx_iff_getElem?).mp hp
theorem ok_is_alike (T : Tx K mg) : FnOk P w K mg base CX0 4 T.ad_is_alike T.fd_is_alike ["table", "box", "index"] (spD K (F3 fun a b c Q => ∃ t bx k, a = eT t ∧ b = eB bx ∧ c = .int (k : Nat) ∧ k ≤ t.1.length ∧ t.1.length ≤ 1000 ∧ okT t ∧ Q (.bool (alk bx (fateAt t k) t.2.1 t.1)))) := by
  refine T.d_is_alike.F.ok x_is_alike (fun vs H Q E h => spD_len F3_len h) (fun cdv A outer s H vs Q E hr h => ?_)
  have nd := x_is_alike.nd
  refine ⟨_, (pss_one (ps_ret (pe_call (okU_is_alike T) hr (by rfl) T.dU_is_alike.g T.dU_is_alike.F.kp T.dU_is_alike.b .nil pass0 (pa_cons (pv 0) (pa_cons (pv 1) (pa_cons (pe_call (ok_meeting T) hr (by rfl) T.d_meeting.g T.d_meeting.F.kp T.d_meeting.b .nil pass0 (pa_cons (pv 0) (pa_cons (pv 1) pa_nil))) (pa_cons (pv 2) pa_nil))))))), fn_pure ((rs_ret (re_call (raC (rn 0) (raC (rn 1) (raC (re_call (raC (rn 0) (raC (rn 1) raN))) (raC (rn 2) raN))))))) h (by rw [spD_len F3_len h]; decide) (F3_in fun a0 a1 a2 Qd q => ?_)⟩
  obtain ⟨t, bx, k, rfl, rfl, rfl, hk, hl, ok, q⟩ := q
  simp only [true_and, ↓sTake, ↓sTake0, ↓sPick, ↓sNumber, rng_1, rng_2, rng_3, rng_4, rng_6, ↓dKd, dix_0, dix_1, dix_2, dix_3, dix_4, dix_5, dix_6, dix_7, dix_8, dix_9, Bool.not_false, Bool.not_true, Bool.and_true, Bool.true_and, Bool.and_false, Bool.false_and, decide_eq_true_eq, Bool.not_eq_true', decide_eq_false_iff_not, Bool.false_eq_true, if_true, if_false, ↓F0, ↓F1, ↓F2, ↓F3, ↓F4, ↓F5, ↓F6, ↓dParO1, ↓dParO2, ↓dEnumT, ↓oRepr, ↓dUn, ↓oNeg, ↓dSeq, ↓dRet, ↓dRetN, ↓dIf, ↓dAsg, ↓dDrop, ↓dBreak, ↓dCont, ↓dNext, ↓dOwn, ↓dApp, ↓dSetIx, ↓dFrz, frz, ↓dPar, ↓dAug, ↓dFor, ↓dN, ↓dNB, ↓dC, ↓dOp, ↓oI, ↓oI0, ↓oB, ↓oEq, ↓oEqS, eqS, ↓oIsN, isNo, ↓oIx, ↓oIxS, seqOf, ↓oCat, ↓oCatT, ↓oCatS, ↓oIn, ↓oInS, ↓dTb, ↓dAnd, ↓dOr, ↓dNot, ↓dYes, ↓dAndV, ↓dOrV, ↓dNotV, ↓dIfV, ↓dChain, ↓dNil, ↓dCons, ↓dL, ↓dTup, ↓dCB, ↓oAbs, ↓oI2, ↓oLen, ↓oLenS, ↓oInt, ↓oSum, ↓oBs, ↓oTupOf, ↓dSeqOf, ↓dIsi, it_bool_none, it_bool_bool, it_bool_int, it_bool_str, it_bool_list, it_bool_tuple, it_bool_dict, it_int_none, it_int_bool, it_int_int, it_int_str, it_int_list, it_int_tuple, it_int_dict, it_str_none, it_str_bool, it_str_int, it_str_str, it_str_list, it_str_tuple, it_str_dict, it_list_none, it_list_bool, it_list_int, it_list_str, it_list_list, it_list_tuple, it_list_dict, it_tuple_none, it_tuple_bool, it_tuple_int, it_tuple_str, it_tuple_list, it_tuple_tuple, it_tuple_dict, it_dict_none, it_dict_bool, it_dict_int, it_dict_str, it_dict_list, it_dict_tuple, it_dict_dict, ↓dNoP, ↓dPart, ↓dSlT, ↓dSlL, ↓dSlS, ↓dCall, ↓dCallS, ↓dItL, ↓dItT, ↓dItS, ↓dR1, ↓dR2, ↓dZip, ↓dEnum, ↓gN, ↓gNi, ↓gCo, ↓gT, ↓dLc, wipeE, eget, eset, List.set, ev0, List.map_cons, List.map_nil, List.cons_append, List.nil_append, List.replicate_succ, List.replicate_zero, noOwn, isOwn, List.all_cons, List.all_nil, List.length_cons, List.length_nil]
  exact ⟨t, bx, rfl, rfl, hl, t, bx, k, rfl, rfl, rfl, rfl, hk, ok, q⟩
end
section
variable {P : Program} {w : World} {K : PySem.W.Frag} {mg : Str → Option Value} {base : Heap}
theorem fm_pos {α : Type} {p : α → Bool} {x : D} : ∀ as : List α, (0 < (((as.filterMap fun a => if p a = true then some x else none).length : Nat) : Int)) ↔ as.any p = true
  | [] => by simp
  | a :: r => by
    rw [List.filterMap_cons, List.any_cons]
    by_cases c : p a = true
    · rw [if_pos c, c, Bool.true_or]
      exact ⟨fun _ => rfl, fun _ => by rw [List.length_cons]; omega⟩
    · rw [if_neg c, fm_pos r, Bool.eq_false_iff.mpr c, Bool.false_or]
def ix6 (i : Nat) : List D := ((List.range 6).drop i).map fun j => PyData.int (j : Nat)
theorem ix6_0 : [PyData.int 0, PyData.int 1, PyData.int 2, PyData.int 3, PyData.int 4, PyData.int 5] = ix6 0 := rfl
theorem ix6_cons {i : Nat} {d : D} {r : List D} (h : d :: r = ix6 i) : i < 6 ∧ d = .int (i : Nat) ∧ r = ix6 (i + 1) := by
  unfold ix6 at h
  by_cases c : i < 6
  · rw [List.drop_eq_getElem_cons (by rw [List.length_range]; exact c), List.map_cons, List.getElem_range] at h
    cases h
    exact ⟨c, rfl, rfl⟩
  · rw [List.drop_of_length_le (by rw [List.length_range]; omega)] at h
    cases h
theorem ix6_nil {i : Nat} (hi : i ≤ 6) (h : [] = ix6 i) : i = 6 := by
  have := congrArg List.length h
  unfold ix6 at this
  rw [List.length_map, List.length_drop, List.length_range, List.length_nil] at this
  omega
def ixn (n i : Nat) : List D := ((List.range n).drop i).map fun j => PyData.int (j : Nat)
theorem ixn_cons {n i : Nat} {d : D} {r : List D} (h : d :: r = ixn n i) : i < n ∧ d = .int (i : Nat) ∧ r = ixn n (i + 1) := by
  unfold ixn at h
  by_cases c : i < n
  · rw [List.drop_eq_getElem_cons (by rw [List.length_range]; exact c), List.map_cons, List.getElem_range] at h
    cases h
    exact ⟨c, rfl, rfl⟩
  · rw [List.drop_of_length_le (by rw [List.length_range]; omega)] at h
    cases h
theorem ixn_nil {n i : Nat} (hi : i ≤ n) (h : [] = ixn n i) : i = n := by
  have := congrArg List.length h
  unfold ixn at this
  rw [List.length_map, List.length_drop, List.length_range, List.length_nil] at this
  omega
theorem count6 {α : Type} {p : α → Bool} {xs : List α} (h : xs.length = 6) : decide (((((xs.take 6).countP p) : Nat) : Int) = 6) = xs.all p := by
  rw [List.take_of_length_le (by omega), Bool.eq_iff_iff, decide_eq_true_eq, List.all_eq_true]
  have := List.countP_eq_length (p := p) (l := xs)
  rw [h] at this
  rw [← this]
  omega
theorem zip_get {α β : Type} {as : List α} {bs : List β} {i : Nat} {a : α} {b : β} (h1 : as[i]? = some a) (h2 : bs[i]? = some b) : (as.zip bs)[i]? = some (a, b) := by
  rw [List.getElem?_zip_eq_some]
  exact ⟨h1, h2⟩
theorem countP_next {α : Type} {p : α → Bool} {xs : List α} {i : Nat} {x : α} (h : xs[i]? = some x) : (xs.take (i + 1)).countP p = (xs.take i).countP p + (if p x = true then 1 else 0) := by
  rw [List.take_add_one, h, List.countP_append]
  simp only [Option.toList, List.countP_cons, List.countP_nil]
  omega
theorem ok_law_touches (T : Tx K mg) : FnOk P w K mg base CX0 1 T.ad_law_touches T.fd_law_touches ["match", "box"] (spD K (F2 fun a b Q => ∃ m bx, a = eM m ∧ b = eB bx ∧ m.length = 6 ∧ bx.length = 6 ∧ (∀ r ∈ m, r.length ≤ 1000) ∧ Q (.bool (tchs m bx)))) := by
  refine T.d_law_touches.F.ok x_law_touches (fun vs H Q E h => spD_len F2_len h) (fun cdv A outer s H vs Q E hr h => ?_)
  have nd := x_law_touches.nd
  refine ⟨_, (pss_cons (ps_set (i := 2) nd rfl (Or.inl rfl) pe_int)
        (pss_cons (ps_for PassesOwn.never rfl (pi_range1 (by rfl) T.b_range (pa_cons pe_int pa_nil)) (pg_name (i := 3) nd rfl (Or.inr rfl)) (pss_one (ps_set (i := 2) nd rfl (Or.inl rfl) (pe_op op_add (pv 2) (pe_callTy call_int1 (by rfl) T.b_int (by decide +kernel) (pa_cons (pe_cmpR op_gt (pe_callB call_len_seq (by rfl) T.b_len (by decide +kernel) (pa_cons (pe_lc (own := [("low", 4), ("high", 5)]) (g := (gTup K 2 (gCons (gName 4) (gCons (gName 5) gNil)))) rfl nd (pi_tup (pe_ix ix_seq (pv 0) (pv 3) (fun _ _ => rfl))) (blkOk_by (own := [("low", 4), ("high", 5)]) (N := Ns_law_touches) (sc := defScope s_law_touches) (by decide +kernel)) (fun _ _ _ _ _ => (pg_tup (n := 2) rfl (pgs_cons (pg_name (i := 4) nd rfl (Or.inl rfl)) (pgs_cons (pg_name (i := 5) nd rfl (Or.inl rfl)) pgs_nil)))) (fun _ _ _ _ _ => pts_one (pt_not (PW.pt (pw_or (pt_cmpR op_lt (pv 5) (pe_ix (r := rIx K) ix_seq (pe_ix (r := rIx K) ix_seq (pv 1) (pv 3) (fun _ _ => rfl)) pe_int (fun _ _ => rfl)) (nomark _)) (pw_or1 (pt_cmpR op_gt (pv 4) (pe_ix (r := rIx K) ix_seq (pe_ix (r := rIx K) ix_seq (pv 1) (pv 3) (fun _ _ => rfl)) pe_int (fun _ _ => rfl)) (nomark _))))))) (fun _ _ _ _ _ => pe_int)) pa_nil)) pe_int (nomark _)) pa_nil))))))
        (pss_one (ps_ret (pe_cmpR op_eq (pv 2) pe_int (nomark _)))))), fn_pure ((rs_seq (rs_asg (rc_int _) (rg_name 2))
        (rs_seq (rs_for (ri_r1 (rbC (RfE.b (rc_int _)) rbN)) (rg_name 3) (rs_asg (ro rv_add (RfE.b (rn 2)) (RfE.b (re_cb ro_int (rbC (RfE.b (ro rv_gt (RfE.b (re_cb ro_len (rbC (RfE.b (RfF.e (rf_lc (ri_tup (ro rv_ix (RfE.b (rn 0)) (RfE.b (rn 3)))) (rg_tup (rg_cons (rg_name 4) (rg_cons (rg_name 5) rg_nil))) (rt_not (rt_or (rt_test (ro rv_lt (RfE.b (rn 5)) (RfE.b (ro rv_ix (RfE.b (ro rv_ix (RfE.b (rn 1)) (RfE.b (rn 3)))) (RfE.b (rc_int _)))))) (rt_test (ro rv_gt (RfE.b (rn 4)) (RfE.b (ro rv_ix (RfE.b (ro rv_ix (RfE.b (rn 1)) (RfE.b (rn 3)))) (RfE.b (rc_int _)))))))) (rc_int _)))) rbN))) (RfE.b (rc_int _)))) rbN)))) (rg_name 2)))
        (rs_ret (ro rv_eq (RfE.b (rn 2)) (RfE.b (rc_int _))))))) h (by rw [spD_len F2_len h]; decide) (F2_in fun a0 a1 Qd q => ?_)⟩
  obtain ⟨m, bx, rfl, rfl, hm, hb, hr, q⟩ := q
  simp only [eM, eB, true_and, ↓sTake, ↓sTake0, ↓sPick, ↓sNumber, rng_1, rng_2, rng_3, rng_4, rng_6, ↓dKd, dix_0, dix_1, dix_2, dix_3, dix_4, dix_5, dix_6, dix_7, dix_8, dix_9, Bool.not_false, Bool.not_true, Bool.and_true, Bool.true_and, Bool.and_false, Bool.false_and, decide_eq_true_eq, Bool.not_eq_true', decide_eq_false_iff_not, Bool.false_eq_true, if_true, if_false, ↓F0, ↓F1, ↓F2, ↓F3, ↓F4, ↓F5, ↓F6, ↓dParO1, ↓dParO2, ↓dEnumT, ↓oRepr, ↓dUn, ↓oNeg, ↓dSeq, ↓dRet, ↓dRetN, ↓dIf, ↓dAsg, ↓dDrop, ↓dBreak, ↓dCont, ↓dNext, ↓dOwn, ↓dApp, ↓dSetIx, ↓dFrz, frz, ↓dPar, ↓dAug, ↓dFor, ↓dN, ↓dNB, ↓dC, ↓dOp, ↓oI, ↓oI0, ↓oB, ↓oEq, ↓oEqS, eqS, ↓oIsN, isNo, ↓oIx, ↓oIxS, seqOf, ↓oCat, ↓oCatT, ↓oCatS, ↓oIn, ↓oInS, ↓dTb, ↓dAnd, ↓dOr, ↓dNot, ↓dYes, ↓dAndV, ↓dOrV, ↓dNotV, ↓dIfV, ↓dChain, ↓dNil, ↓dCons, ↓dL, ↓dTup, ↓dCB, ↓oAbs, ↓oI2, ↓oLen, ↓oLenS, ↓oInt, ↓oSum, ↓oBs, ↓oTupOf, ↓dSeqOf, ↓dIsi, it_bool_none, it_bool_bool, it_bool_int, it_bool_str, it_bool_list, it_bool_tuple, it_bool_dict, it_int_none, it_int_bool, it_int_int, it_int_str, it_int_list, it_int_tuple, it_int_dict, it_str_none, it_str_bool, it_str_int, it_str_str, it_str_list, it_str_tuple, it_str_dict, it_list_none, it_list_bool, it_list_int, it_list_str, it_list_list, it_list_tuple, it_list_dict, it_tuple_none, it_tuple_bool, it_tuple_int, it_tuple_str, it_tuple_list, it_tuple_tuple, it_tuple_dict, it_dict_none, it_dict_bool, it_dict_int, it_dict_str, it_dict_list, it_dict_tuple, it_dict_dict, ↓dNoP, ↓dPart, ↓dSlT, ↓dSlL, ↓dSlS, ↓dCall, ↓dCallS, ↓dItL, ↓dItT, ↓dItS, ↓dR1, ↓dR2, ↓dZip, ↓dEnum, ↓gN, ↓gNi, ↓gCo, ↓gT, ↓dLc, wipeE, eget, eset, List.set, ev0, List.map_cons, List.map_nil, List.cons_append, List.nil_append, List.replicate_succ, List.replicate_zero, noOwn, isOwn, List.all_cons, List.all_nil, List.length_cons, List.length_nil]
  refine ⟨by decide, by decide, ?_⟩
  have hz : (m.zip bx).length = 6 := by rw [List.length_zip]; omega
  refine loop_by (fun rest env => ∃ (i : Nat) (s3 : Option En), i ≤ 6 ∧ rest = ix6 i ∧ env = [some (.d (eM m)), some (.d (eB bx)), some (.d (.int ((((m.zip bx).take i).countP fun p => tch p.1 p.2) : Nat))), s3, none, none]) ?_ ?_ _ _ ⟨0, none, by decide, ix6_0, rfl⟩
  · rintro env ⟨i, s3, hi, h1, rfl⟩
    obtain rfl := ix6_nil hi h1
    simp only [true_and, ↓sTake, ↓sTake0, ↓sPick, ↓sNumber, rng_1, rng_2, rng_3, rng_4, rng_6, ↓dKd, dix_0, dix_1, dix_2, dix_3, dix_4, dix_5, dix_6, dix_7, dix_8, dix_9, Bool.not_false, Bool.not_true, Bool.and_true, Bool.true_and, Bool.and_false, Bool.false_and, decide_eq_true_eq, Bool.not_eq_true', decide_eq_false_iff_not, Bool.false_eq_true, if_true, if_false, ↓F0, ↓F1, ↓F2, ↓F3, ↓F4, ↓F5, ↓F6, ↓dParO1, ↓dParO2, ↓dEnumT, ↓oRepr, ↓dUn, ↓oNeg, ↓dSeq, ↓dRet, ↓dRetN, ↓dIf, ↓dAsg, ↓dDrop, ↓dBreak, ↓dCont, ↓dNext, ↓dOwn, ↓dApp, ↓dSetIx, ↓dFrz, frz, ↓dPar, ↓dAug, ↓dFor, ↓dN, ↓dNB, ↓dC, ↓dOp, ↓oI, ↓oI0, ↓oB, ↓oEq, ↓oEqS, eqS, ↓oIsN, isNo, ↓oIx, ↓oIxS, seqOf, ↓oCat, ↓oCatT, ↓oCatS, ↓oIn, ↓oInS, ↓dTb, ↓dAnd, ↓dOr, ↓dNot, ↓dYes, ↓dAndV, ↓dOrV, ↓dNotV, ↓dIfV, ↓dChain, ↓dNil, ↓dCons, ↓dL, ↓dTup, ↓dCB, ↓oAbs, ↓oI2, ↓oLen, ↓oLenS, ↓oInt, ↓oSum, ↓oBs, ↓oTupOf, ↓dSeqOf, ↓dIsi, it_bool_none, it_bool_bool, it_bool_int, it_bool_str, it_bool_list, it_bool_tuple, it_bool_dict, it_int_none, it_int_bool, it_int_int, it_int_str, it_int_list, it_int_tuple, it_int_dict, it_str_none, it_str_bool, it_str_int, it_str_str, it_str_list, it_str_tuple, it_str_dict, it_list_none, it_list_bool, it_list_int, it_list_str, it_list_list, it_list_tuple, it_list_dict, it_tuple_none, it_tuple_bool, it_tuple_int, it_tuple_str, it_tuple_list, it_tuple_tuple, it_tuple_dict, it_dict_none, it_dict_bool, it_dict_int, it_dict_str, it_dict_list, it_dict_tuple, it_dict_dict, ↓dNoP, ↓dPart, ↓dSlT, ↓dSlL, ↓dSlS, ↓dCall, ↓dCallS, ↓dItL, ↓dItT, ↓dItS, ↓dR1, ↓dR2, ↓dZip, ↓dEnum, ↓gN, ↓gNi, ↓gCo, ↓gT, ↓dLc, wipeE, eget, eset, List.set, ev0, List.map_cons, List.map_nil, List.cons_append, List.nil_append, List.replicate_succ, List.replicate_zero, noOwn, isOwn, List.all_cons, List.all_nil, List.length_cons, List.length_nil]
    rw [count6 hz]
    exact q
  · rintro d rest env N ⟨i, s3, hi, h1, rfl⟩ hN
    obtain ⟨h6, rfl, rfl⟩ := ix6_cons h1
    have g1 : m[i]? = some m[i] := List.getElem?_eq_getElem (by omega)
    have g2 : bx[i]? = some bx[i] := List.getElem?_eq_getElem (by omega)
    have d1 : dix (m.map eRow) (i : Int) = some (eRow m[i]) := dix_map (by omega) (by rw [Int.toNat_natCast]; exact g1)
    have d2 : dix (bx.map eR) (i : Int) = some (eR bx[i]) := dix_map (by omega) (by rw [Int.toNat_natCast]; exact g2)
    simp only [eM, eB, true_and, ↓sTake, ↓sTake0, ↓sPick, ↓sNumber, rng_1, rng_2, rng_3, rng_4, rng_6, ↓dKd, dix_0, dix_1, dix_2, dix_3, dix_4, dix_5, dix_6, dix_7, dix_8, dix_9, Bool.not_false, Bool.not_true, Bool.and_true, Bool.true_and, Bool.and_false, Bool.false_and, decide_eq_true_eq, Bool.not_eq_true', decide_eq_false_iff_not, Bool.false_eq_true, if_true, if_false, ↓F0, ↓F1, ↓F2, ↓F3, ↓F4, ↓F5, ↓F6, ↓dParO1, ↓dParO2, ↓dEnumT, ↓oRepr, ↓dUn, ↓oNeg, ↓dSeq, ↓dRet, ↓dRetN, ↓dIf, ↓dAsg, ↓dDrop, ↓dBreak, ↓dCont, ↓dNext, ↓dOwn, ↓dApp, ↓dSetIx, ↓dFrz, frz, ↓dPar, ↓dAug, ↓dFor, ↓dN, ↓dNB, ↓dC, ↓dOp, ↓oI, ↓oI0, ↓oB, ↓oEq, ↓oEqS, eqS, ↓oIsN, isNo, ↓oIx, ↓oIxS, seqOf, ↓oCat, ↓oCatT, ↓oCatS, ↓oIn, ↓oInS, ↓dTb, ↓dAnd, ↓dOr, ↓dNot, ↓dYes, ↓dAndV, ↓dOrV, ↓dNotV, ↓dIfV, ↓dChain, ↓dNil, ↓dCons, ↓dL, ↓dTup, ↓dCB, ↓oAbs, ↓oI2, ↓oLen, ↓oLenS, ↓oInt, ↓oSum, ↓oBs, ↓oTupOf, ↓dSeqOf, ↓dIsi, it_bool_none, it_bool_bool, it_bool_int, it_bool_str, it_bool_list, it_bool_tuple, it_bool_dict, it_int_none, it_int_bool, it_int_int, it_int_str, it_int_list, it_int_tuple, it_int_dict, it_str_none, it_str_bool, it_str_int, it_str_str, it_str_list, it_str_tuple, it_str_dict, it_list_none, it_list_bool, it_list_int, it_list_str, it_list_list, it_list_tuple, it_list_dict, it_tuple_none, it_tuple_bool, it_tuple_int, it_tuple_str, it_tuple_list, it_tuple_tuple, it_tuple_dict, it_dict_none, it_dict_bool, it_dict_int, it_dict_str, it_dict_list, it_dict_tuple, it_dict_dict, ↓dNoP, ↓dPart, ↓dSlT, ↓dSlL, ↓dSlS, ↓dCall, ↓dCallS, ↓dItL, ↓dItT, ↓dItS, ↓dR1, ↓dR2, ↓dZip, ↓dEnum, ↓gN, ↓gNi, ↓gCo, ↓gT, ↓dLc, wipeE, eget, eset, List.set, ev0, List.map_cons, List.map_nil, List.cons_append, List.nil_append, List.replicate_succ, List.replicate_zero, noOwn, isOwn, List.all_cons, List.all_nil, List.length_cons, List.length_nil, d1]
    simp only [eRow, true_and, ↓sTake, ↓sTake0, ↓sPick, ↓sNumber, rng_1, rng_2, rng_3, rng_4, rng_6, ↓dKd, dix_0, dix_1, dix_2, dix_3, dix_4, dix_5, dix_6, dix_7, dix_8, dix_9, Bool.not_false, Bool.not_true, Bool.and_true, Bool.true_and, Bool.and_false, Bool.false_and, decide_eq_true_eq, Bool.not_eq_true', decide_eq_false_iff_not, Bool.false_eq_true, if_true, if_false, ↓F0, ↓F1, ↓F2, ↓F3, ↓F4, ↓F5, ↓F6, ↓dParO1, ↓dParO2, ↓dEnumT, ↓oRepr, ↓dUn, ↓oNeg, ↓dSeq, ↓dRet, ↓dRetN, ↓dIf, ↓dAsg, ↓dDrop, ↓dBreak, ↓dCont, ↓dNext, ↓dOwn, ↓dApp, ↓dSetIx, ↓dFrz, frz, ↓dPar, ↓dAug, ↓dFor, ↓dN, ↓dNB, ↓dC, ↓dOp, ↓oI, ↓oI0, ↓oB, ↓oEq, ↓oEqS, eqS, ↓oIsN, isNo, ↓oIx, ↓oIxS, seqOf, ↓oCat, ↓oCatT, ↓oCatS, ↓oIn, ↓oInS, ↓dTb, ↓dAnd, ↓dOr, ↓dNot, ↓dYes, ↓dAndV, ↓dOrV, ↓dNotV, ↓dIfV, ↓dChain, ↓dNil, ↓dCons, ↓dL, ↓dTup, ↓dCB, ↓oAbs, ↓oI2, ↓oLen, ↓oLenS, ↓oInt, ↓oSum, ↓oBs, ↓oTupOf, ↓dSeqOf, ↓dIsi, it_bool_none, it_bool_bool, it_bool_int, it_bool_str, it_bool_list, it_bool_tuple, it_bool_dict, it_int_none, it_int_bool, it_int_int, it_int_str, it_int_list, it_int_tuple, it_int_dict, it_str_none, it_str_bool, it_str_int, it_str_str, it_str_list, it_str_tuple, it_str_dict, it_list_none, it_list_bool, it_list_int, it_list_str, it_list_list, it_list_tuple, it_list_dict, it_tuple_none, it_tuple_bool, it_tuple_int, it_tuple_str, it_tuple_list, it_tuple_tuple, it_tuple_dict, it_dict_none, it_dict_bool, it_dict_int, it_dict_str, it_dict_list, it_dict_tuple, it_dict_dict, ↓dNoP, ↓dPart, ↓dSlT, ↓dSlL, ↓dSlS, ↓dCall, ↓dCallS, ↓dItL, ↓dItT, ↓dItS, ↓dR1, ↓dR2, ↓dZip, ↓dEnum, ↓gN, ↓gNi, ↓gCo, ↓gT, ↓dLc, wipeE, eget, eset, List.set, ev0, List.map_cons, List.map_nil, List.cons_append, List.nil_append, List.replicate_succ, List.replicate_zero, noOwn, isOwn, List.all_cons, List.all_nil, List.length_cons, List.length_nil]
    refine ⟨by rw [List.length_map]; exact Nat.le_trans (hr _ (List.mem_of_getElem? g1)) (by decide), ?_⟩
    refine lc_fun eR (fun r => if (decide (r.1 ≤ (bx[i]).2) && decide ((bx[i]).1 ≤ r.2)) = true then some (.int 1) else none) (as := m[i]) (fun r hr' R hR => ?_) ?_
    · simp only [eR, true_and, ↓sTake, ↓sTake0, ↓sPick, ↓sNumber, rng_1, rng_2, rng_3, rng_4, rng_6, ↓dKd, dix_0, dix_1, dix_2, dix_3, dix_4, dix_5, dix_6, dix_7, dix_8, dix_9, Bool.not_false, Bool.not_true, Bool.and_true, Bool.true_and, Bool.and_false, Bool.false_and, decide_eq_true_eq, Bool.not_eq_true', decide_eq_false_iff_not, Bool.false_eq_true, if_true, if_false, ↓F0, ↓F1, ↓F2, ↓F3, ↓F4, ↓F5, ↓F6, ↓dParO1, ↓dParO2, ↓dEnumT, ↓oRepr, ↓dUn, ↓oNeg, ↓dSeq, ↓dRet, ↓dRetN, ↓dIf, ↓dAsg, ↓dDrop, ↓dBreak, ↓dCont, ↓dNext, ↓dOwn, ↓dApp, ↓dSetIx, ↓dFrz, frz, ↓dPar, ↓dAug, ↓dFor, ↓dN, ↓dNB, ↓dC, ↓dOp, ↓oI, ↓oI0, ↓oB, ↓oEq, ↓oEqS, eqS, ↓oIsN, isNo, ↓oIx, ↓oIxS, seqOf, ↓oCat, ↓oCatT, ↓oCatS, ↓oIn, ↓oInS, ↓dTb, ↓dAnd, ↓dOr, ↓dNot, ↓dYes, ↓dAndV, ↓dOrV, ↓dNotV, ↓dIfV, ↓dChain, ↓dNil, ↓dCons, ↓dL, ↓dTup, ↓dCB, ↓oAbs, ↓oI2, ↓oLen, ↓oLenS, ↓oInt, ↓oSum, ↓oBs, ↓oTupOf, ↓dSeqOf, ↓dIsi, it_bool_none, it_bool_bool, it_bool_int, it_bool_str, it_bool_list, it_bool_tuple, it_bool_dict, it_int_none, it_int_bool, it_int_int, it_int_str, it_int_list, it_int_tuple, it_int_dict, it_str_none, it_str_bool, it_str_int, it_str_str, it_str_list, it_str_tuple, it_str_dict, it_list_none, it_list_bool, it_list_int, it_list_str, it_list_list, it_list_tuple, it_list_dict, it_tuple_none, it_tuple_bool, it_tuple_int, it_tuple_str, it_tuple_list, it_tuple_tuple, it_tuple_dict, it_dict_none, it_dict_bool, it_dict_int, it_dict_str, it_dict_list, it_dict_tuple, it_dict_dict, ↓dNoP, ↓dPart, ↓dSlT, ↓dSlL, ↓dSlS, ↓dCall, ↓dCallS, ↓dItL, ↓dItT, ↓dItS, ↓dR1, ↓dR2, ↓dZip, ↓dEnum, ↓gN, ↓gNi, ↓gCo, ↓gT, ↓dLc, wipeE, eget, eset, List.set, ev0, List.map_cons, List.map_nil, List.cons_append, List.nil_append, List.replicate_succ, List.replicate_zero, noOwn, isOwn, List.all_cons, List.all_nil, List.length_cons, List.length_nil, d2]
      by_cases c1 : r.2 < (bx[i]).1
      · rw [if_pos c1]
        rw [if_neg (by simp; omega)] at hR
        exact hR
      · rw [if_neg c1]
        by_cases c2 : (bx[i]).2 < r.1
        · rw [if_neg (by simp; omega)] at hR
          simp only [true_and, ↓sTake, ↓sTake0, ↓sPick, ↓sNumber, rng_1, rng_2, rng_3, rng_4, rng_6, ↓dKd, dix_0, dix_1, dix_2, dix_3, dix_4, dix_5, dix_6, dix_7, dix_8, dix_9, Bool.not_false, Bool.not_true, Bool.and_true, Bool.true_and, Bool.and_false, Bool.false_and, decide_eq_true_eq, Bool.not_eq_true', decide_eq_false_iff_not, Bool.false_eq_true, if_true, if_false, ↓F0, ↓F1, ↓F2, ↓F3, ↓F4, ↓F5, ↓F6, ↓dParO1, ↓dParO2, ↓dEnumT, ↓oRepr, ↓dUn, ↓oNeg, ↓dSeq, ↓dRet, ↓dRetN, ↓dIf, ↓dAsg, ↓dDrop, ↓dBreak, ↓dCont, ↓dNext, ↓dOwn, ↓dApp, ↓dSetIx, ↓dFrz, frz, ↓dPar, ↓dAug, ↓dFor, ↓dN, ↓dNB, ↓dC, ↓dOp, ↓oI, ↓oI0, ↓oB, ↓oEq, ↓oEqS, eqS, ↓oIsN, isNo, ↓oIx, ↓oIxS, seqOf, ↓oCat, ↓oCatT, ↓oCatS, ↓oIn, ↓oInS, ↓dTb, ↓dAnd, ↓dOr, ↓dNot, ↓dYes, ↓dAndV, ↓dOrV, ↓dNotV, ↓dIfV, ↓dChain, ↓dNil, ↓dCons, ↓dL, ↓dTup, ↓dCB, ↓oAbs, ↓oI2, ↓oLen, ↓oLenS, ↓oInt, ↓oSum, ↓oBs, ↓oTupOf, ↓dSeqOf, ↓dIsi, it_bool_none, it_bool_bool, it_bool_int, it_bool_str, it_bool_list, it_bool_tuple, it_bool_dict, it_int_none, it_int_bool, it_int_int, it_int_str, it_int_list, it_int_tuple, it_int_dict, it_str_none, it_str_bool, it_str_int, it_str_str, it_str_list, it_str_tuple, it_str_dict, it_list_none, it_list_bool, it_list_int, it_list_str, it_list_list, it_list_tuple, it_list_dict, it_tuple_none, it_tuple_bool, it_tuple_int, it_tuple_str, it_tuple_list, it_tuple_tuple, it_tuple_dict, it_dict_none, it_dict_bool, it_dict_int, it_dict_str, it_dict_list, it_dict_tuple, it_dict_dict, ↓dNoP, ↓dPart, ↓dSlT, ↓dSlL, ↓dSlS, ↓dCall, ↓dCallS, ↓dItL, ↓dItT, ↓dItS, ↓dR1, ↓dR2, ↓dZip, ↓dEnum, ↓gN, ↓gNi, ↓gCo, ↓gT, ↓dLc, wipeE, eget, eset, List.set, ev0, List.map_cons, List.map_nil, List.cons_append, List.nil_append, List.replicate_succ, List.replicate_zero, noOwn, isOwn, List.all_cons, List.all_nil, List.length_cons, List.length_nil, c2, decide_true]
          exact hR
        · rw [if_pos (by simp; omega)] at hR
          simp only [true_and, ↓sTake, ↓sTake0, ↓sPick, ↓sNumber, rng_1, rng_2, rng_3, rng_4, rng_6, ↓dKd, dix_0, dix_1, dix_2, dix_3, dix_4, dix_5, dix_6, dix_7, dix_8, dix_9, Bool.not_false, Bool.not_true, Bool.and_true, Bool.true_and, Bool.and_false, Bool.false_and, decide_eq_true_eq, Bool.not_eq_true', decide_eq_false_iff_not, Bool.false_eq_true, if_true, if_false, ↓F0, ↓F1, ↓F2, ↓F3, ↓F4, ↓F5, ↓F6, ↓dParO1, ↓dParO2, ↓dEnumT, ↓oRepr, ↓dUn, ↓oNeg, ↓dSeq, ↓dRet, ↓dRetN, ↓dIf, ↓dAsg, ↓dDrop, ↓dBreak, ↓dCont, ↓dNext, ↓dOwn, ↓dApp, ↓dSetIx, ↓dFrz, frz, ↓dPar, ↓dAug, ↓dFor, ↓dN, ↓dNB, ↓dC, ↓dOp, ↓oI, ↓oI0, ↓oB, ↓oEq, ↓oEqS, eqS, ↓oIsN, isNo, ↓oIx, ↓oIxS, seqOf, ↓oCat, ↓oCatT, ↓oCatS, ↓oIn, ↓oInS, ↓dTb, ↓dAnd, ↓dOr, ↓dNot, ↓dYes, ↓dAndV, ↓dOrV, ↓dNotV, ↓dIfV, ↓dChain, ↓dNil, ↓dCons, ↓dL, ↓dTup, ↓dCB, ↓oAbs, ↓oI2, ↓oLen, ↓oLenS, ↓oInt, ↓oSum, ↓oBs, ↓oTupOf, ↓dSeqOf, ↓dIsi, it_bool_none, it_bool_bool, it_bool_int, it_bool_str, it_bool_list, it_bool_tuple, it_bool_dict, it_int_none, it_int_bool, it_int_int, it_int_str, it_int_list, it_int_tuple, it_int_dict, it_str_none, it_str_bool, it_str_int, it_str_str, it_str_list, it_str_tuple, it_str_dict, it_list_none, it_list_bool, it_list_int, it_list_str, it_list_list, it_list_tuple, it_list_dict, it_tuple_none, it_tuple_bool, it_tuple_int, it_tuple_str, it_tuple_list, it_tuple_tuple, it_tuple_dict, it_dict_none, it_dict_bool, it_dict_int, it_dict_str, it_dict_list, it_dict_tuple, it_dict_dict, ↓dNoP, ↓dPart, ↓dSlT, ↓dSlL, ↓dSlS, ↓dCall, ↓dCallS, ↓dItL, ↓dItT, ↓dItS, ↓dR1, ↓dR2, ↓dZip, ↓dEnum, ↓gN, ↓gNi, ↓gCo, ↓gT, ↓dLc, wipeE, eget, eset, List.set, ev0, List.map_cons, List.map_nil, List.cons_append, List.nil_append, List.replicate_succ, List.replicate_zero, noOwn, isOwn, List.all_cons, List.all_nil, List.length_cons, List.length_nil, c2, decide_false]
          exact hR
    · try simp only [true_and, ↓sTake, ↓sTake0, ↓sPick, ↓sNumber, rng_1, rng_2, rng_3, rng_4, rng_6, ↓dKd, dix_0, dix_1, dix_2, dix_3, dix_4, dix_5, dix_6, dix_7, dix_8, dix_9, Bool.not_false, Bool.not_true, Bool.and_true, Bool.true_and, Bool.and_false, Bool.false_and, decide_eq_true_eq, Bool.not_eq_true', decide_eq_false_iff_not, Bool.false_eq_true, if_true, if_false, ↓F0, ↓F1, ↓F2, ↓F3, ↓F4, ↓F5, ↓F6, ↓dParO1, ↓dParO2, ↓dEnumT, ↓oRepr, ↓dUn, ↓oNeg, ↓dSeq, ↓dRet, ↓dRetN, ↓dIf, ↓dAsg, ↓dDrop, ↓dBreak, ↓dCont, ↓dNext, ↓dOwn, ↓dApp, ↓dSetIx, ↓dFrz, frz, ↓dPar, ↓dAug, ↓dFor, ↓dN, ↓dNB, ↓dC, ↓dOp, ↓oI, ↓oI0, ↓oB, ↓oEq, ↓oEqS, eqS, ↓oIsN, isNo, ↓oIx, ↓oIxS, seqOf, ↓oCat, ↓oCatT, ↓oCatS, ↓oIn, ↓oInS, ↓dTb, ↓dAnd, ↓dOr, ↓dNot, ↓dYes, ↓dAndV, ↓dOrV, ↓dNotV, ↓dIfV, ↓dChain, ↓dNil, ↓dCons, ↓dL, ↓dTup, ↓dCB, ↓oAbs, ↓oI2, ↓oLen, ↓oLenS, ↓oInt, ↓oSum, ↓oBs, ↓oTupOf, ↓dSeqOf, ↓dIsi, it_bool_none, it_bool_bool, it_bool_int, it_bool_str, it_bool_list, it_bool_tuple, it_bool_dict, it_int_none, it_int_bool, it_int_int, it_int_str, it_int_list, it_int_tuple, it_int_dict, it_str_none, it_str_bool, it_str_int, it_str_str, it_str_list, it_str_tuple, it_str_dict, it_list_none, it_list_bool, it_list_int, it_list_str, it_list_list, it_list_tuple, it_list_dict, it_tuple_none, it_tuple_bool, it_tuple_int, it_tuple_str, it_tuple_list, it_tuple_tuple, it_tuple_dict, it_dict_none, it_dict_bool, it_dict_int, it_dict_str, it_dict_list, it_dict_tuple, it_dict_dict, ↓dNoP, ↓dPart, ↓dSlT, ↓dSlL, ↓dSlS, ↓dCall, ↓dCallS, ↓dItL, ↓dItT, ↓dItS, ↓dR1, ↓dR2, ↓dZip, ↓dEnum, ↓gN, ↓gNi, ↓gCo, ↓gT, ↓dLc, wipeE, eget, eset, List.set, ev0, List.map_cons, List.map_nil, List.cons_append, List.nil_append, List.replicate_succ, List.replicate_zero, noOwn, isOwn, List.all_cons, List.all_nil, List.length_cons, List.length_nil]
      simp only [fm_pos]
      have e : ((m[i]).any fun r => (decide (r.1 ≤ (bx[i]).2) && decide ((bx[i]).1 ≤ r.2))) = tch m[i] bx[i] := rfl
      rw [e]
      refine hN _ ⟨i + 1, some (.d (.int (i : Nat))), h6, rfl, ?_⟩
      rw [countP_next (zip_get g1 g2)]
      by_cases c : tch m[i] bx[i] = true
      · rw [if_pos c, if_pos c]; rfl
      · rw [if_neg c, if_neg c]; rfl
theorem ok_law_covers (T : Tx K mg) : FnOk P w K mg base CX0 1 T.ad_law_covers T.fd_law_covers ["match", "box"] (spD K (F2 fun a b Q => ∃ m bx, a = eM m ∧ b = eB bx ∧ m.length = 6 ∧ bx.length = 6 ∧ (∀ r ∈ m, r.length ≤ 1000) ∧ Q (.bool (covs m bx)))) := by
  refine T.d_law_covers.F.ok x_law_covers (fun vs H Q E h => spD_len F2_len h) (fun cdv A outer s H vs Q E hr h => ?_)
  have nd := x_law_covers.nd
  refine ⟨_, (pss_cons (ps_set (i := 2) nd rfl (Or.inl rfl) pe_int)
        (pss_cons (ps_for PassesOwn.never rfl (pi_range1 (by rfl) T.b_range (pa_cons pe_int pa_nil)) (pg_name (i := 3) nd rfl (Or.inr rfl)) (pss_one (ps_set (i := 2) nd rfl (Or.inl rfl) (pe_op op_add (pv 2) (pe_callTy call_int1 (by rfl) T.b_int (by decide +kernel) (pa_cons (pe_cmpR op_gt (pe_callB call_len_seq (by rfl) T.b_len (by decide +kernel) (pa_cons (pe_lc (own := [("low", 4), ("high", 5)]) (g := (gTup K 2 (gCons (gName 4) (gCons (gName 5) gNil)))) rfl nd (pi_tup (pe_ix ix_seq (pv 0) (pv 3) (fun _ _ => rfl))) (blkOk_by (own := [("low", 4), ("high", 5)]) (N := Ns_law_covers) (sc := defScope s_law_covers) (by decide +kernel)) (fun _ _ _ _ _ => (pg_tup (n := 2) rfl (pgs_cons (pg_name (i := 4) nd rfl (Or.inl rfl)) (pgs_cons (pg_name (i := 5) nd rfl (Or.inl rfl)) pgs_nil)))) (fun _ _ _ _ _ => pts_one (PW.pt (pw_and (pt_cmpR op_le (pv 4) (pe_ix (r := rIx K) ix_seq (pe_ix (r := rIx K) ix_seq (pv 1) (pv 3) (fun _ _ => rfl)) pe_int (fun _ _ => rfl)) (nomark _)) (pw_and1 (pt_cmpR op_ge (pv 5) (pe_ix (r := rIx K) ix_seq (pe_ix (r := rIx K) ix_seq (pv 1) (pv 3) (fun _ _ => rfl)) pe_int (fun _ _ => rfl)) (nomark _)))))) (fun _ _ _ _ _ => pe_int)) pa_nil)) pe_int (nomark _)) pa_nil))))))
        (pss_one (ps_ret (pe_cmpR op_eq (pv 2) pe_int (nomark _)))))), fn_pure ((rs_seq (rs_asg (rc_int _) (rg_name 2))
        (rs_seq (rs_for (ri_r1 (rbC (RfE.b (rc_int _)) rbN)) (rg_name 3) (rs_asg (ro rv_add (RfE.b (rn 2)) (RfE.b (re_cb ro_int (rbC (RfE.b (ro rv_gt (RfE.b (re_cb ro_len (rbC (RfE.b (RfF.e (rf_lc (ri_tup (ro rv_ix (RfE.b (rn 0)) (RfE.b (rn 3)))) (rg_tup (rg_cons (rg_name 4) (rg_cons (rg_name 5) rg_nil))) (rt_and (rt_test (ro rv_le (RfE.b (rn 4)) (RfE.b (ro rv_ix (RfE.b (ro rv_ix (RfE.b (rn 1)) (RfE.b (rn 3)))) (RfE.b (rc_int _)))))) (rt_test (ro rv_ge (RfE.b (rn 5)) (RfE.b (ro rv_ix (RfE.b (ro rv_ix (RfE.b (rn 1)) (RfE.b (rn 3)))) (RfE.b (rc_int _))))))) (rc_int _)))) rbN))) (RfE.b (rc_int _)))) rbN)))) (rg_name 2)))
        (rs_ret (ro rv_eq (RfE.b (rn 2)) (RfE.b (rc_int _))))))) h (by rw [spD_len F2_len h]; decide) (F2_in fun a0 a1 Qd q => ?_)⟩
  obtain ⟨m, bx, rfl, rfl, hm, hb, hr, q⟩ := q
  simp only [eM, eB, true_and, ↓sTake, ↓sTake0, ↓sPick, ↓sNumber, rng_1, rng_2, rng_3, rng_4, rng_6, ↓dKd, dix_0, dix_1, dix_2, dix_3, dix_4, dix_5, dix_6, dix_7, dix_8, dix_9, Bool.not_false, Bool.not_true, Bool.and_true, Bool.true_and, Bool.and_false, Bool.false_and, decide_eq_true_eq, Bool.not_eq_true', decide_eq_false_iff_not, Bool.false_eq_true, if_true, if_false, ↓F0, ↓F1, ↓F2, ↓F3, ↓F4, ↓F5, ↓F6, ↓dParO1, ↓dParO2, ↓dEnumT, ↓oRepr, ↓dUn, ↓oNeg, ↓dSeq, ↓dRet, ↓dRetN, ↓dIf, ↓dAsg, ↓dDrop, ↓dBreak, ↓dCont, ↓dNext, ↓dOwn, ↓dApp, ↓dSetIx, ↓dFrz, frz, ↓dPar, ↓dAug, ↓dFor, ↓dN, ↓dNB, ↓dC, ↓dOp, ↓oI, ↓oI0, ↓oB, ↓oEq, ↓oEqS, eqS, ↓oIsN, isNo, ↓oIx, ↓oIxS, seqOf, ↓oCat, ↓oCatT, ↓oCatS, ↓oIn, ↓oInS, ↓dTb, ↓dAnd, ↓dOr, ↓dNot, ↓dYes, ↓dAndV, ↓dOrV, ↓dNotV, ↓dIfV, ↓dChain, ↓dNil, ↓dCons, ↓dL, ↓dTup, ↓dCB, ↓oAbs, ↓oI2, ↓oLen, ↓oLenS, ↓oInt, ↓oSum, ↓oBs, ↓oTupOf, ↓dSeqOf, ↓dIsi, it_bool_none, it_bool_bool, it_bool_int, it_bool_str, it_bool_list, it_bool_tuple, it_bool_dict, it_int_none, it_int_bool, it_int_int, it_int_str, it_int_list, it_int_tuple, it_int_dict, it_str_none, it_str_bool, it_str_int, it_str_str, it_str_list, it_str_tuple, it_str_dict, it_list_none, it_list_bool, it_list_int, it_list_str, it_list_list, it_list_tuple, it_list_dict, it_tuple_none, it_tuple_bool, it_tuple_int, it_tuple_str, it_tuple_list, it_tuple_tuple, it_tuple_dict, it_dict_none, it_dict_bool, it_dict_int, it_dict_str, it_dict_list, it_dict_tuple, it_dict_dict, ↓dNoP, ↓dPart, ↓dSlT, ↓dSlL, ↓dSlS, ↓dCall, ↓dCallS, ↓dItL, ↓dItT, ↓dItS, ↓dR1, ↓dR2, ↓dZip, ↓dEnum, ↓gN, ↓gNi, ↓gCo, ↓gT, ↓dLc, wipeE, eget, eset, List.set, ev0, List.map_cons, List.map_nil, List.cons_append, List.nil_append, List.replicate_succ, List.replicate_zero, noOwn, isOwn, List.all_cons, List.all_nil, List.length_cons, List.length_nil]
  refine ⟨by decide, by decide, ?_⟩
  have hz : (m.zip bx).length = 6 := by rw [List.length_zip]; omega
  refine loop_by (fun rest env => ∃ (i : Nat) (s3 : Option En), i ≤ 6 ∧ rest = ix6 i ∧ env = [some (.d (eM m)), some (.d (eB bx)), some (.d (.int ((((m.zip bx).take i).countP fun p => cov p.1 p.2) : Nat))), s3, none, none]) ?_ ?_ _ _ ⟨0, none, by decide, ix6_0, rfl⟩
  · rintro env ⟨i, s3, hi, h1, rfl⟩
    obtain rfl := ix6_nil hi h1
    simp only [true_and, ↓sTake, ↓sTake0, ↓sPick, ↓sNumber, rng_1, rng_2, rng_3, rng_4, rng_6, ↓dKd, dix_0, dix_1, dix_2, dix_3, dix_4, dix_5, dix_6, dix_7, dix_8, dix_9, Bool.not_false, Bool.not_true, Bool.and_true, Bool.true_and, Bool.and_false, Bool.false_and, decide_eq_true_eq, Bool.not_eq_true', decide_eq_false_iff_not, Bool.false_eq_true, if_true, if_false, ↓F0, ↓F1, ↓F2, ↓F3, ↓F4, ↓F5, ↓F6, ↓dParO1, ↓dParO2, ↓dEnumT, ↓oRepr, ↓dUn, ↓oNeg, ↓dSeq, ↓dRet, ↓dRetN, ↓dIf, ↓dAsg, ↓dDrop, ↓dBreak, ↓dCont, ↓dNext, ↓dOwn, ↓dApp, ↓dSetIx, ↓dFrz, frz, ↓dPar, ↓dAug, ↓dFor, ↓dN, ↓dNB, ↓dC, ↓dOp, ↓oI, ↓oI0, ↓oB, ↓oEq, ↓oEqS, eqS, ↓oIsN, isNo, ↓oIx, ↓oIxS, seqOf, ↓oCat, ↓oCatT, ↓oCatS, ↓oIn, ↓oInS, ↓dTb, ↓dAnd, ↓dOr, ↓dNot, ↓dYes, ↓dAndV, ↓dOrV, ↓dNotV, ↓dIfV, ↓dChain, ↓dNil, ↓dCons, ↓dL, ↓dTup, ↓dCB, ↓oAbs, ↓oI2, ↓oLen, ↓oLenS, ↓oInt, ↓oSum, ↓oBs, ↓oTupOf, ↓dSeqOf, ↓dIsi, it_bool_none, it_bool_bool, it_bool_int, it_bool_str, it_bool_list, it_bool_tuple, it_bool_dict, it_int_none, it_int_bool, it_int_int, it_int_str, it_int_list, it_int_tuple, it_int_dict, it_str_none, it_str_bool, it_str_int, it_str_str, it_str_list, it_str_tuple, it_str_dict, it_list_none, it_list_bool, it_list_int, it_list_str, it_list_list, it_list_tuple, it_list_dict, it_tuple_none, it_tuple_bool, it_tuple_int, it_tuple_str, it_tuple_list, it_tuple_tuple, it_tuple_dict, it_dict_none, it_dict_bool, it_dict_int, it_dict_str, it_dict_list, it_dict_tuple, it_dict_dict, ↓dNoP, ↓dPart, ↓dSlT, ↓dSlL, ↓dSlS, ↓dCall, ↓dCallS, ↓dItL, ↓dItT, ↓dItS, ↓dR1, ↓dR2, ↓dZip, ↓dEnum, ↓gN, ↓gNi, ↓gCo, ↓gT, ↓dLc, wipeE, eget, eset, List.set, ev0, List.map_cons, List.map_nil, List.cons_append, List.nil_append, List.replicate_succ, List.replicate_zero, noOwn, isOwn, List.all_cons, List.all_nil, List.length_cons, List.length_nil]
    rw [count6 hz]
    exact q
  · rintro d rest env N ⟨i, s3, hi, h1, rfl⟩ hN
    obtain ⟨h6, rfl, rfl⟩ := ix6_cons h1
    have g1 : m[i]? = some m[i] := List.getElem?_eq_getElem (by omega)
    have g2 : bx[i]? = some bx[i] := List.getElem?_eq_getElem (by omega)
    have d1 : dix (m.map eRow) (i : Int) = some (eRow m[i]) := dix_map (by omega) (by rw [Int.toNat_natCast]; exact g1)
    have d2 : dix (bx.map eR) (i : Int) = some (eR bx[i]) := dix_map (by omega) (by rw [Int.toNat_natCast]; exact g2)
    simp only [eM, eB, true_and, ↓sTake, ↓sTake0, ↓sPick, ↓sNumber, rng_1, rng_2, rng_3, rng_4, rng_6, ↓dKd, dix_0, dix_1, dix_2, dix_3, dix_4, dix_5, dix_6, dix_7, dix_8, dix_9, Bool.not_false, Bool.not_true, Bool.and_true, Bool.true_and, Bool.and_false, Bool.false_and, decide_eq_true_eq, Bool.not_eq_true', decide_eq_false_iff_not, Bool.false_eq_true, if_true, if_false, ↓F0, ↓F1, ↓F2, ↓F3, ↓F4, ↓F5, ↓F6, ↓dParO1, ↓dParO2, ↓dEnumT, ↓oRepr, ↓dUn, ↓oNeg, ↓dSeq, ↓dRet, ↓dRetN, ↓dIf, ↓dAsg, ↓dDrop, ↓dBreak, ↓dCont, ↓dNext, ↓dOwn, ↓dApp, ↓dSetIx, ↓dFrz, frz, ↓dPar, ↓dAug, ↓dFor, ↓dN, ↓dNB, ↓dC, ↓dOp, ↓oI, ↓oI0, ↓oB, ↓oEq, ↓oEqS, eqS, ↓oIsN, isNo, ↓oIx, ↓oIxS, seqOf, ↓oCat, ↓oCatT, ↓oCatS, ↓oIn, ↓oInS, ↓dTb, ↓dAnd, ↓dOr, ↓dNot, ↓dYes, ↓dAndV, ↓dOrV, ↓dNotV, ↓dIfV, ↓dChain, ↓dNil, ↓dCons, ↓dL, ↓dTup, ↓dCB, ↓oAbs, ↓oI2, ↓oLen, ↓oLenS, ↓oInt, ↓oSum, ↓oBs, ↓oTupOf, ↓dSeqOf, ↓dIsi, it_bool_none, it_bool_bool, it_bool_int, it_bool_str, it_bool_list, it_bool_tuple, it_bool_dict, it_int_none, it_int_bool, it_int_int, it_int_str, it_int_list, it_int_tuple, it_int_dict, it_str_none, it_str_bool, it_str_int, it_str_str, it_str_list, it_str_tuple, it_str_dict, it_list_none, it_list_bool, it_list_int, it_list_str, it_list_list, it_list_tuple, it_list_dict, it_tuple_none, it_tuple_bool, it_tuple_int, it_tuple_str, it_tuple_list, it_tuple_tuple, it_tuple_dict, it_dict_none, it_dict_bool, it_dict_int, it_dict_str, it_dict_list, it_dict_tuple, it_dict_dict, ↓dNoP, ↓dPart, ↓dSlT, ↓dSlL, ↓dSlS, ↓dCall, ↓dCallS, ↓dItL, ↓dItT, ↓dItS, ↓dR1, ↓dR2, ↓dZip, ↓dEnum, ↓gN, ↓gNi, ↓gCo, ↓gT, ↓dLc, wipeE, eget, eset, List.set, ev0, List.map_cons, List.map_nil, List.cons_append, List.nil_append, List.replicate_succ, List.replicate_zero, noOwn, isOwn, List.all_cons, List.all_nil, List.length_cons, List.length_nil, d1]
    simp only [eRow, true_and, ↓sTake, ↓sTake0, ↓sPick, ↓sNumber, rng_1, rng_2, rng_3, rng_4, rng_6, ↓dKd, dix_0, dix_1, dix_2, dix_3, dix_4, dix_5, dix_6, dix_7, dix_8, dix_9, Bool.not_false, Bool.not_true, Bool.and_true, Bool.true_and, Bool.and_false, Bool.false_and, decide_eq_true_eq, Bool.not_eq_true', decide_eq_false_iff_not, Bool.false_eq_true, if_true, if_false, ↓F0, ↓F1, ↓F2, ↓F3, ↓F4, ↓F5, ↓F6, ↓dParO1, ↓dParO2, ↓dEnumT, ↓oRepr, ↓dUn, ↓oNeg, ↓dSeq, ↓dRet, ↓dRetN, ↓dIf, ↓dAsg, ↓dDrop, ↓dBreak, ↓dCont, ↓dNext, ↓dOwn, ↓dApp, ↓dSetIx, ↓dFrz, frz, ↓dPar, ↓dAug, ↓dFor, ↓dN, ↓dNB, ↓dC, ↓dOp, ↓oI, ↓oI0, ↓oB, ↓oEq, ↓oEqS, eqS, ↓oIsN, isNo, ↓oIx, ↓oIxS, seqOf, ↓oCat, ↓oCatT, ↓oCatS, ↓oIn, ↓oInS, ↓dTb, ↓dAnd, ↓dOr, ↓dNot, ↓dYes, ↓dAndV, ↓dOrV, ↓dNotV, ↓dIfV, ↓dChain, ↓dNil, ↓dCons, ↓dL, ↓dTup, ↓dCB, ↓oAbs, ↓oI2, ↓oLen, ↓oLenS, ↓oInt, ↓oSum, ↓oBs, ↓oTupOf, ↓dSeqOf, ↓dIsi, it_bool_none, it_bool_bool, it_bool_int, it_bool_str, it_bool_list, it_bool_tuple, it_bool_dict, it_int_none, it_int_bool, it_int_int, it_int_str, it_int_list, it_int_tuple, it_int_dict, it_str_none, it_str_bool, it_str_int, it_str_str, it_str_list, it_str_tuple, it_str_dict, it_list_none, it_list_bool, it_list_int, it_list_str, it_list_list, it_list_tuple, it_list_dict, it_tuple_none, it_tuple_bool, it_tuple_int, it_tuple_str, it_tuple_list, it_tuple_tuple, it_tuple_dict, it_dict_none, it_dict_bool, it_dict_int, it_dict_str, it_dict_list, it_dict_tuple, it_dict_dict, ↓dNoP, ↓dPart, ↓dSlT, ↓dSlL, ↓dSlS, ↓dCall, ↓dCallS, ↓dItL, ↓dItT, ↓dItS, ↓dR1, ↓dR2, ↓dZip, ↓dEnum, ↓gN, ↓gNi, ↓gCo, ↓gT, ↓dLc, wipeE, eget, eset, List.set, ev0, List.map_cons, List.map_nil, List.cons_append, List.nil_append, List.replicate_succ, List.replicate_zero, noOwn, isOwn, List.all_cons, List.all_nil, List.length_cons, List.length_nil]
    refine ⟨by rw [List.length_map]; exact Nat.le_trans (hr _ (List.mem_of_getElem? g1)) (by decide), ?_⟩
    refine lc_fun eR (fun r => if (decide (r.1 ≤ (bx[i]).1) && decide ((bx[i]).2 ≤ r.2)) = true then some (.int 1) else none) (as := m[i]) (fun r hr' R hR => ?_) ?_
    · simp only [eR, true_and, ↓sTake, ↓sTake0, ↓sPick, ↓sNumber, rng_1, rng_2, rng_3, rng_4, rng_6, ↓dKd, dix_0, dix_1, dix_2, dix_3, dix_4, dix_5, dix_6, dix_7, dix_8, dix_9, Bool.not_false, Bool.not_true, Bool.and_true, Bool.true_and, Bool.and_false, Bool.false_and, decide_eq_true_eq, Bool.not_eq_true', decide_eq_false_iff_not, Bool.false_eq_true, if_true, if_false, ↓F0, ↓F1, ↓F2, ↓F3, ↓F4, ↓F5, ↓F6, ↓dParO1, ↓dParO2, ↓dEnumT, ↓oRepr, ↓dUn, ↓oNeg, ↓dSeq, ↓dRet, ↓dRetN, ↓dIf, ↓dAsg, ↓dDrop, ↓dBreak, ↓dCont, ↓dNext, ↓dOwn, ↓dApp, ↓dSetIx, ↓dFrz, frz, ↓dPar, ↓dAug, ↓dFor, ↓dN, ↓dNB, ↓dC, ↓dOp, ↓oI, ↓oI0, ↓oB, ↓oEq, ↓oEqS, eqS, ↓oIsN, isNo, ↓oIx, ↓oIxS, seqOf, ↓oCat, ↓oCatT, ↓oCatS, ↓oIn, ↓oInS, ↓dTb, ↓dAnd, ↓dOr, ↓dNot, ↓dYes, ↓dAndV, ↓dOrV, ↓dNotV, ↓dIfV, ↓dChain, ↓dNil, ↓dCons, ↓dL, ↓dTup, ↓dCB, ↓oAbs, ↓oI2, ↓oLen, ↓oLenS, ↓oInt, ↓oSum, ↓oBs, ↓oTupOf, ↓dSeqOf, ↓dIsi, it_bool_none, it_bool_bool, it_bool_int, it_bool_str, it_bool_list, it_bool_tuple, it_bool_dict, it_int_none, it_int_bool, it_int_int, it_int_str, it_int_list, it_int_tuple, it_int_dict, it_str_none, it_str_bool, it_str_int, it_str_str, it_str_list, it_str_tuple, it_str_dict, it_list_none, it_list_bool, it_list_int, it_list_str, it_list_list, it_list_tuple, it_list_dict, it_tuple_none, it_tuple_bool, it_tuple_int, it_tuple_str, it_tuple_list, it_tuple_tuple, it_tuple_dict, it_dict_none, it_dict_bool, it_dict_int, it_dict_str, it_dict_list, it_dict_tuple, it_dict_dict, ↓dNoP, ↓dPart, ↓dSlT, ↓dSlL, ↓dSlS, ↓dCall, ↓dCallS, ↓dItL, ↓dItT, ↓dItS, ↓dR1, ↓dR2, ↓dZip, ↓dEnum, ↓gN, ↓gNi, ↓gCo, ↓gT, ↓dLc, wipeE, eget, eset, List.set, ev0, List.map_cons, List.map_nil, List.cons_append, List.nil_append, List.replicate_succ, List.replicate_zero, noOwn, isOwn, List.all_cons, List.all_nil, List.length_cons, List.length_nil, d2]
      by_cases c1 : r.1 ≤ (bx[i]).1
      · rw [if_pos c1]
        by_cases c2 : (bx[i]).2 ≤ r.2
        · rw [if_pos (by simp; omega)] at hR
          rw [if_pos c2]
          exact hR
        · rw [if_neg (by simp; omega)] at hR
          rw [if_neg c2]
          exact hR
      · rw [if_neg (by simp; omega)] at hR
        rw [if_neg c1]
        exact hR
    · try simp only [true_and, ↓sTake, ↓sTake0, ↓sPick, ↓sNumber, rng_1, rng_2, rng_3, rng_4, rng_6, ↓dKd, dix_0, dix_1, dix_2, dix_3, dix_4, dix_5, dix_6, dix_7, dix_8, dix_9, Bool.not_false, Bool.not_true, Bool.and_true, Bool.true_and, Bool.and_false, Bool.false_and, decide_eq_true_eq, Bool.not_eq_true', decide_eq_false_iff_not, Bool.false_eq_true, if_true, if_false, ↓F0, ↓F1, ↓F2, ↓F3, ↓F4, ↓F5, ↓F6, ↓dParO1, ↓dParO2, ↓dEnumT, ↓oRepr, ↓dUn, ↓oNeg, ↓dSeq, ↓dRet, ↓dRetN, ↓dIf, ↓dAsg, ↓dDrop, ↓dBreak, ↓dCont, ↓dNext, ↓dOwn, ↓dApp, ↓dSetIx, ↓dFrz, frz, ↓dPar, ↓dAug, ↓dFor, ↓dN, ↓dNB, ↓dC, ↓dOp, ↓oI, ↓oI0, ↓oB, ↓oEq, ↓oEqS, eqS, ↓oIsN, isNo, ↓oIx, ↓oIxS, seqOf, ↓oCat, ↓oCatT, ↓oCatS, ↓oIn, ↓oInS, ↓dTb, ↓dAnd, ↓dOr, ↓dNot, ↓dYes, ↓dAndV, ↓dOrV, ↓dNotV, ↓dIfV, ↓dChain, ↓dNil, ↓dCons, ↓dL, ↓dTup, ↓dCB, ↓oAbs, ↓oI2, ↓oLen, ↓oLenS, ↓oInt, ↓oSum, ↓oBs, ↓oTupOf, ↓dSeqOf, ↓dIsi, it_bool_none, it_bool_bool, it_bool_int, it_bool_str, it_bool_list, it_bool_tuple, it_bool_dict, it_int_none, it_int_bool, it_int_int, it_int_str, it_int_list, it_int_tuple, it_int_dict, it_str_none, it_str_bool, it_str_int, it_str_str, it_str_list, it_str_tuple, it_str_dict, it_list_none, it_list_bool, it_list_int, it_list_str, it_list_list, it_list_tuple, it_list_dict, it_tuple_none, it_tuple_bool, it_tuple_int, it_tuple_str, it_tuple_list, it_tuple_tuple, it_tuple_dict, it_dict_none, it_dict_bool, it_dict_int, it_dict_str, it_dict_list, it_dict_tuple, it_dict_dict, ↓dNoP, ↓dPart, ↓dSlT, ↓dSlL, ↓dSlS, ↓dCall, ↓dCallS, ↓dItL, ↓dItT, ↓dItS, ↓dR1, ↓dR2, ↓dZip, ↓dEnum, ↓gN, ↓gNi, ↓gCo, ↓gT, ↓dLc, wipeE, eget, eset, List.set, ev0, List.map_cons, List.map_nil, List.cons_append, List.nil_append, List.replicate_succ, List.replicate_zero, noOwn, isOwn, List.all_cons, List.all_nil, List.length_cons, List.length_nil]
      simp only [fm_pos]
      have e : ((m[i]).any fun r => (decide (r.1 ≤ (bx[i]).1) && decide ((bx[i]).2 ≤ r.2))) = cov m[i] bx[i] := rfl
      rw [e]
      refine hN _ ⟨i + 1, some (.d (.int (i : Nat))), h6, rfl, ?_⟩
      rw [countP_next (zip_get g1 g2)]
      by_cases c : cov m[i] bx[i] = true
      · rw [if_pos c, if_pos c]; rfl
      · rw [if_neg c, if_neg c]; rfl
/-- a leaf by the law: nothing before touches, and it covers -/
def leafB (t : Tb) (b : Row) (k : Nat) : Bool := (t.1.take k).all (fun u => !tchs u.1 b) && (match t.1[k]? with | some u => covs u.1 b | none => true)
def GM (m : List Row) : Prop := m.length = 6 ∧ ∀ r ∈ m, r.length ≤ 1000
theorem ok_law_rule_leaf (T : Tx K mg) : FnOk P w K mg base CX0 2 T.ad_law_rule_leaf T.fd_law_rule_leaf ["table", "box", "k"] (spD K (F3 fun a b c Q => ∃ t bx k, a = eT t ∧ b = eB bx ∧ c = .int (k : Nat) ∧ k ≤ t.1.length ∧ t.1.length ≤ 1000 ∧ bx.length = 6 ∧ (∀ u ∈ t.1, GM u.1) ∧ Q (.bool (leafB t bx k)))) := by
  refine T.d_law_rule_leaf.F.ok x_law_rule_leaf (fun vs H Q E h => spD_len F3_len h) (fun cdv A outer s H vs Q E hr h => ?_)
  have nd := x_law_rule_leaf.nd
  refine ⟨_, (pss_cons (ps_for PassesOwn.never rfl (pi_range1 (by rfl) T.b_range (pa_cons (pv 2) pa_nil)) (pg_name (i := 3) nd rfl (Or.inl rfl)) (pss_one (ps_if (pt_val (pe_call (ok_law_touches T) hr (by rfl) T.d_law_touches.g T.d_law_touches.F.kp T.d_law_touches.b .nil pass0 (pa_cons (pe_ix ix_seq (pe_ix ix_seq (pe_ix ix_seq (pv 0) pe_int (fun _ _ => rfl)) (pv 3) (fun _ _ => rfl)) pe_int (fun _ _ => rfl)) (pa_cons (pv 1) pa_nil)))) (pss_one (ps_ret pe_bl)) pss_nil)))
        (pss_one (ps_ret (pe_or (pe_cmpR op_eq (pv 2) (pe_callB call_len_seq (by rfl) T.b_len (by decide +kernel) (pa_cons (pe_ix ix_seq (pv 0) pe_int (fun _ _ => rfl)) pa_nil)) (nomark _)) (pe_one (pe_call (ok_law_covers T) hr (by rfl) T.d_law_covers.g T.d_law_covers.F.kp T.d_law_covers.b .nil pass0 (pa_cons (pe_ix ix_seq (pe_ix ix_seq (pe_ix ix_seq (pv 0) pe_int (fun _ _ => rfl)) (pv 2) (fun _ _ => rfl)) pe_int (fun _ _ => rfl)) (pa_cons (pv 1) pa_nil)))))))), fn_pure ((rs_seq (rs_for (ri_r1 (rbC (RfE.b (rn 2)) rbN)) (rg_name 3) (rs_if (rt_val (re_call (raC (ro rv_ix (RfE.b (ro rv_ix (RfE.b (ro rv_ix (RfE.b (rn 0)) (RfE.b (rc_int _)))) (RfE.b (rn 3)))) (RfE.b (rc_int _))) (raC (rn 1) raN)))) (rs_ret (rc_bl _)) rs_next))
        (rs_ret (re_or (ro rv_eq (RfE.b (rn 2)) (RfE.b (re_cb ro_len (rbC (RfE.b (ro rv_ix (RfE.b (rn 0)) (RfE.b (rc_int _)))) rbN)))) (re_call (raC (ro rv_ix (RfE.b (ro rv_ix (RfE.b (ro rv_ix (RfE.b (rn 0)) (RfE.b (rc_int _)))) (RfE.b (rn 2)))) (RfE.b (rc_int _))) (raC (rn 1) raN))))))) h (by rw [spD_len F3_len h]; decide) (F3_in fun a0 a1 a2 Qd q => ?_)⟩
  obtain ⟨t, bx, k, rfl, rfl, rfl, hk, hl, hb, hg, q⟩ := q
  simp only [eT, true_and, ↓sTake, ↓sTake0, ↓sPick, ↓sNumber, rng_1, rng_2, rng_3, rng_4, rng_6, ↓dKd, dix_0, dix_1, dix_2, dix_3, dix_4, dix_5, dix_6, dix_7, dix_8, dix_9, Bool.not_false, Bool.not_true, Bool.and_true, Bool.true_and, Bool.and_false, Bool.false_and, decide_eq_true_eq, Bool.not_eq_true', decide_eq_false_iff_not, Bool.false_eq_true, if_true, if_false, ↓F0, ↓F1, ↓F2, ↓F3, ↓F4, ↓F5, ↓F6, ↓dParO1, ↓dParO2, ↓dEnumT, ↓oRepr, ↓dUn, ↓oNeg, ↓dSeq, ↓dRet, ↓dRetN, ↓dIf, ↓dAsg, ↓dDrop, ↓dBreak, ↓dCont, ↓dNext, ↓dOwn, ↓dApp, ↓dSetIx, ↓dFrz, frz, ↓dPar, ↓dAug, ↓dFor, ↓dN, ↓dNB, ↓dC, ↓dOp, ↓oI, ↓oI0, ↓oB, ↓oEq, ↓oEqS, eqS, ↓oIsN, isNo, ↓oIx, ↓oIxS, seqOf, ↓oCat, ↓oCatT, ↓oCatS, ↓oIn, ↓oInS, ↓dTb, ↓dAnd, ↓dOr, ↓dNot, ↓dYes, ↓dAndV, ↓dOrV, ↓dNotV, ↓dIfV, ↓dChain, ↓dNil, ↓dCons, ↓dL, ↓dTup, ↓dCB, ↓oAbs, ↓oI2, ↓oLen, ↓oLenS, ↓oInt, ↓oSum, ↓oBs, ↓oTupOf, ↓dSeqOf, ↓dIsi, it_bool_none, it_bool_bool, it_bool_int, it_bool_str, it_bool_list, it_bool_tuple, it_bool_dict, it_int_none, it_int_bool, it_int_int, it_int_str, it_int_list, it_int_tuple, it_int_dict, it_str_none, it_str_bool, it_str_int, it_str_str, it_str_list, it_str_tuple, it_str_dict, it_list_none, it_list_bool, it_list_int, it_list_str, it_list_list, it_list_tuple, it_list_dict, it_tuple_none, it_tuple_bool, it_tuple_int, it_tuple_str, it_tuple_list, it_tuple_tuple, it_tuple_dict, it_dict_none, it_dict_bool, it_dict_int, it_dict_str, it_dict_list, it_dict_tuple, it_dict_dict, ↓dNoP, ↓dPart, ↓dSlT, ↓dSlL, ↓dSlS, ↓dCall, ↓dCallS, ↓dItL, ↓dItT, ↓dItS, ↓dR1, ↓dR2, ↓dZip, ↓dEnum, ↓gN, ↓gNi, ↓gCo, ↓gT, ↓dLc, wipeE, eget, eset, List.set, ev0, List.map_cons, List.map_nil, List.cons_append, List.nil_append, List.replicate_succ, List.replicate_zero, noOwn, isOwn, List.all_cons, List.all_nil, List.length_cons, List.length_nil, Int.toNat_natCast]
  refine ⟨by omega, by omega, ?_⟩
  rw [show rng 0 k = ixn k 0 from rng_eq k]
  refine loop_by (fun rest env => ∃ (i : Nat) (s3 : Option En), i ≤ k ∧ rest = ixn k i ∧ (t.1.take i).all (fun u => !tchs u.1 bx) = true ∧ env = [some (.d (eT t)), some (.d (eB bx)), some (.d (.int (k : Nat))), s3]) ?_ ?_ _ _ ⟨0, none, Nat.zero_le _, rfl, rfl, rfl⟩
  · rintro env ⟨i, s3, hi, h1, h2, rfl⟩
    obtain rfl := ixn_nil hi h1
    unfold leafB at q
    rw [h2, Bool.true_and] at q
    simp only [eT, true_and, ↓sTake, ↓sTake0, ↓sPick, ↓sNumber, rng_1, rng_2, rng_3, rng_4, rng_6, ↓dKd, dix_0, dix_1, dix_2, dix_3, dix_4, dix_5, dix_6, dix_7, dix_8, dix_9, Bool.not_false, Bool.not_true, Bool.and_true, Bool.true_and, Bool.and_false, Bool.false_and, decide_eq_true_eq, Bool.not_eq_true', decide_eq_false_iff_not, Bool.false_eq_true, if_true, if_false, ↓F0, ↓F1, ↓F2, ↓F3, ↓F4, ↓F5, ↓F6, ↓dParO1, ↓dParO2, ↓dEnumT, ↓oRepr, ↓dUn, ↓oNeg, ↓dSeq, ↓dRet, ↓dRetN, ↓dIf, ↓dAsg, ↓dDrop, ↓dBreak, ↓dCont, ↓dNext, ↓dOwn, ↓dApp, ↓dSetIx, ↓dFrz, frz, ↓dPar, ↓dAug, ↓dFor, ↓dN, ↓dNB, ↓dC, ↓dOp, ↓oI, ↓oI0, ↓oB, ↓oEq, ↓oEqS, eqS, ↓oIsN, isNo, ↓oIx, ↓oIxS, seqOf, ↓oCat, ↓oCatT, ↓oCatS, ↓oIn, ↓oInS, ↓dTb, ↓dAnd, ↓dOr, ↓dNot, ↓dYes, ↓dAndV, ↓dOrV, ↓dNotV, ↓dIfV, ↓dChain, ↓dNil, ↓dCons, ↓dL, ↓dTup, ↓dCB, ↓oAbs, ↓oI2, ↓oLen, ↓oLenS, ↓oInt, ↓oSum, ↓oBs, ↓oTupOf, ↓dSeqOf, ↓dIsi, it_bool_none, it_bool_bool, it_bool_int, it_bool_str, it_bool_list, it_bool_tuple, it_bool_dict, it_int_none, it_int_bool, it_int_int, it_int_str, it_int_list, it_int_tuple, it_int_dict, it_str_none, it_str_bool, it_str_int, it_str_str, it_str_list, it_str_tuple, it_str_dict, it_list_none, it_list_bool, it_list_int, it_list_str, it_list_list, it_list_tuple, it_list_dict, it_tuple_none, it_tuple_bool, it_tuple_int, it_tuple_str, it_tuple_list, it_tuple_tuple, it_tuple_dict, it_dict_none, it_dict_bool, it_dict_int, it_dict_str, it_dict_list, it_dict_tuple, it_dict_dict, ↓dNoP, ↓dPart, ↓dSlT, ↓dSlL, ↓dSlS, ↓dCall, ↓dCallS, ↓dItL, ↓dItT, ↓dItS, ↓dR1, ↓dR2, ↓dZip, ↓dEnum, ↓gN, ↓gNi, ↓gCo, ↓gT, ↓dLc, wipeE, eget, eset, List.set, ev0, List.map_cons, List.map_nil, List.cons_append, List.nil_append, List.replicate_succ, List.replicate_zero, noOwn, isOwn, List.all_cons, List.all_nil, List.length_cons, List.length_nil, List.length_map]
    by_cases c : i = t.1.length
    · rw [List.getElem?_eq_none (by omega)] at q
      rw [if_pos (by omega)]
      exact q
    · have hlt : i < t.1.length := by omega
      rw [List.getElem?_eq_getElem hlt] at q
      rw [if_neg (by omega), dix_map (f := eRu) (as := t.1) (by omega) (a := t.1[i]) (by rw [Int.toNat_natCast, List.getElem?_eq_getElem hlt])]
      simp only [eRu, true_and, ↓sTake, ↓sTake0, ↓sPick, ↓sNumber, rng_1, rng_2, rng_3, rng_4, rng_6, ↓dKd, dix_0, dix_1, dix_2, dix_3, dix_4, dix_5, dix_6, dix_7, dix_8, dix_9, Bool.not_false, Bool.not_true, Bool.and_true, Bool.true_and, Bool.and_false, Bool.false_and, decide_eq_true_eq, Bool.not_eq_true', decide_eq_false_iff_not, Bool.false_eq_true, if_true, if_false, ↓F0, ↓F1, ↓F2, ↓F3, ↓F4, ↓F5, ↓F6, ↓dParO1, ↓dParO2, ↓dEnumT, ↓oRepr, ↓dUn, ↓oNeg, ↓dSeq, ↓dRet, ↓dRetN, ↓dIf, ↓dAsg, ↓dDrop, ↓dBreak, ↓dCont, ↓dNext, ↓dOwn, ↓dApp, ↓dSetIx, ↓dFrz, frz, ↓dPar, ↓dAug, ↓dFor, ↓dN, ↓dNB, ↓dC, ↓dOp, ↓oI, ↓oI0, ↓oB, ↓oEq, ↓oEqS, eqS, ↓oIsN, isNo, ↓oIx, ↓oIxS, seqOf, ↓oCat, ↓oCatT, ↓oCatS, ↓oIn, ↓oInS, ↓dTb, ↓dAnd, ↓dOr, ↓dNot, ↓dYes, ↓dAndV, ↓dOrV, ↓dNotV, ↓dIfV, ↓dChain, ↓dNil, ↓dCons, ↓dL, ↓dTup, ↓dCB, ↓oAbs, ↓oI2, ↓oLen, ↓oLenS, ↓oInt, ↓oSum, ↓oBs, ↓oTupOf, ↓dSeqOf, ↓dIsi, it_bool_none, it_bool_bool, it_bool_int, it_bool_str, it_bool_list, it_bool_tuple, it_bool_dict, it_int_none, it_int_bool, it_int_int, it_int_str, it_int_list, it_int_tuple, it_int_dict, it_str_none, it_str_bool, it_str_int, it_str_str, it_str_list, it_str_tuple, it_str_dict, it_list_none, it_list_bool, it_list_int, it_list_str, it_list_list, it_list_tuple, it_list_dict, it_tuple_none, it_tuple_bool, it_tuple_int, it_tuple_str, it_tuple_list, it_tuple_tuple, it_tuple_dict, it_dict_none, it_dict_bool, it_dict_int, it_dict_str, it_dict_list, it_dict_tuple, it_dict_dict, ↓dNoP, ↓dPart, ↓dSlT, ↓dSlL, ↓dSlS, ↓dCall, ↓dCallS, ↓dItL, ↓dItT, ↓dItS, ↓dR1, ↓dR2, ↓dZip, ↓dEnum, ↓gN, ↓gNi, ↓gCo, ↓gT, ↓dLc, wipeE, eget, eset, List.set, ev0, List.map_cons, List.map_nil, List.cons_append, List.nil_append, List.replicate_succ, List.replicate_zero, noOwn, isOwn, List.all_cons, List.all_nil, List.length_cons, List.length_nil]
      obtain ⟨g1, g2⟩ := hg _ (List.getElem_mem hlt)
      exact ⟨_, _, rfl, rfl, g1, hb, g2, q⟩
  · rintro d rest env N ⟨i, s3, hi, h1, h2, rfl⟩ hN
    obtain ⟨h6, rfl, rfl⟩ := ixn_cons h1
    have hlt : i < t.1.length := by omega
    simp only [eT, true_and, ↓sTake, ↓sTake0, ↓sPick, ↓sNumber, rng_1, rng_2, rng_3, rng_4, rng_6, ↓dKd, dix_0, dix_1, dix_2, dix_3, dix_4, dix_5, dix_6, dix_7, dix_8, dix_9, Bool.not_false, Bool.not_true, Bool.and_true, Bool.true_and, Bool.and_false, Bool.false_and, decide_eq_true_eq, Bool.not_eq_true', decide_eq_false_iff_not, Bool.false_eq_true, if_true, if_false, ↓F0, ↓F1, ↓F2, ↓F3, ↓F4, ↓F5, ↓F6, ↓dParO1, ↓dParO2, ↓dEnumT, ↓oRepr, ↓dUn, ↓oNeg, ↓dSeq, ↓dRet, ↓dRetN, ↓dIf, ↓dAsg, ↓dDrop, ↓dBreak, ↓dCont, ↓dNext, ↓dOwn, ↓dApp, ↓dSetIx, ↓dFrz, frz, ↓dPar, ↓dAug, ↓dFor, ↓dN, ↓dNB, ↓dC, ↓dOp, ↓oI, ↓oI0, ↓oB, ↓oEq, ↓oEqS, eqS, ↓oIsN, isNo, ↓oIx, ↓oIxS, seqOf, ↓oCat, ↓oCatT, ↓oCatS, ↓oIn, ↓oInS, ↓dTb, ↓dAnd, ↓dOr, ↓dNot, ↓dYes, ↓dAndV, ↓dOrV, ↓dNotV, ↓dIfV, ↓dChain, ↓dNil, ↓dCons, ↓dL, ↓dTup, ↓dCB, ↓oAbs, ↓oI2, ↓oLen, ↓oLenS, ↓oInt, ↓oSum, ↓oBs, ↓oTupOf, ↓dSeqOf, ↓dIsi, it_bool_none, it_bool_bool, it_bool_int, it_bool_str, it_bool_list, it_bool_tuple, it_bool_dict, it_int_none, it_int_bool, it_int_int, it_int_str, it_int_list, it_int_tuple, it_int_dict, it_str_none, it_str_bool, it_str_int, it_str_str, it_str_list, it_str_tuple, it_str_dict, it_list_none, it_list_bool, it_list_int, it_list_str, it_list_list, it_list_tuple, it_list_dict, it_tuple_none, it_tuple_bool, it_tuple_int, it_tuple_str, it_tuple_list, it_tuple_tuple, it_tuple_dict, it_dict_none, it_dict_bool, it_dict_int, it_dict_str, it_dict_list, it_dict_tuple, it_dict_dict, ↓dNoP, ↓dPart, ↓dSlT, ↓dSlL, ↓dSlS, ↓dCall, ↓dCallS, ↓dItL, ↓dItT, ↓dItS, ↓dR1, ↓dR2, ↓dZip, ↓dEnum, ↓gN, ↓gNi, ↓gCo, ↓gT, ↓dLc, wipeE, eget, eset, List.set, ev0, List.map_cons, List.map_nil, List.cons_append, List.nil_append, List.replicate_succ, List.replicate_zero, noOwn, isOwn, List.all_cons, List.all_nil, List.length_cons, List.length_nil]
    rw [dix_map (f := eRu) (as := t.1) (by omega) (a := t.1[i]) (by rw [Int.toNat_natCast, List.getElem?_eq_getElem hlt])]
    simp only [eRu, true_and, ↓sTake, ↓sTake0, ↓sPick, ↓sNumber, rng_1, rng_2, rng_3, rng_4, rng_6, ↓dKd, dix_0, dix_1, dix_2, dix_3, dix_4, dix_5, dix_6, dix_7, dix_8, dix_9, Bool.not_false, Bool.not_true, Bool.and_true, Bool.true_and, Bool.and_false, Bool.false_and, decide_eq_true_eq, Bool.not_eq_true', decide_eq_false_iff_not, Bool.false_eq_true, if_true, if_false, ↓F0, ↓F1, ↓F2, ↓F3, ↓F4, ↓F5, ↓F6, ↓dParO1, ↓dParO2, ↓dEnumT, ↓oRepr, ↓dUn, ↓oNeg, ↓dSeq, ↓dRet, ↓dRetN, ↓dIf, ↓dAsg, ↓dDrop, ↓dBreak, ↓dCont, ↓dNext, ↓dOwn, ↓dApp, ↓dSetIx, ↓dFrz, frz, ↓dPar, ↓dAug, ↓dFor, ↓dN, ↓dNB, ↓dC, ↓dOp, ↓oI, ↓oI0, ↓oB, ↓oEq, ↓oEqS, eqS, ↓oIsN, isNo, ↓oIx, ↓oIxS, seqOf, ↓oCat, ↓oCatT, ↓oCatS, ↓oIn, ↓oInS, ↓dTb, ↓dAnd, ↓dOr, ↓dNot, ↓dYes, ↓dAndV, ↓dOrV, ↓dNotV, ↓dIfV, ↓dChain, ↓dNil, ↓dCons, ↓dL, ↓dTup, ↓dCB, ↓oAbs, ↓oI2, ↓oLen, ↓oLenS, ↓oInt, ↓oSum, ↓oBs, ↓oTupOf, ↓dSeqOf, ↓dIsi, it_bool_none, it_bool_bool, it_bool_int, it_bool_str, it_bool_list, it_bool_tuple, it_bool_dict, it_int_none, it_int_bool, it_int_int, it_int_str, it_int_list, it_int_tuple, it_int_dict, it_str_none, it_str_bool, it_str_int, it_str_str, it_str_list, it_str_tuple, it_str_dict, it_list_none, it_list_bool, it_list_int, it_list_str, it_list_list, it_list_tuple, it_list_dict, it_tuple_none, it_tuple_bool, it_tuple_int, it_tuple_str, it_tuple_list, it_tuple_tuple, it_tuple_dict, it_dict_none, it_dict_bool, it_dict_int, it_dict_str, it_dict_list, it_dict_tuple, it_dict_dict, ↓dNoP, ↓dPart, ↓dSlT, ↓dSlL, ↓dSlS, ↓dCall, ↓dCallS, ↓dItL, ↓dItT, ↓dItS, ↓dR1, ↓dR2, ↓dZip, ↓dEnum, ↓gN, ↓gNi, ↓gCo, ↓gT, ↓dLc, wipeE, eget, eset, List.set, ev0, List.map_cons, List.map_nil, List.cons_append, List.nil_append, List.replicate_succ, List.replicate_zero, noOwn, isOwn, List.all_cons, List.all_nil, List.length_cons, List.length_nil]
    obtain ⟨g1, g2⟩ := hg _ (List.getElem_mem hlt)
    refine ⟨_, _, rfl, rfl, g1, hb, g2, ?_⟩
    by_cases c : tchs (t.1[i]).1 bx = true
    · rw [if_pos c]
      have : leafB t bx k = false := by
        unfold leafB
        have : (t.1.take k).all (fun u => !tchs u.1 bx) = false := by
          rw [List.all_eq_false]
          exact ⟨t.1[i], List.mem_take_iff_getElem.mpr ⟨i, by omega, rfl⟩, by rw [c]; simp⟩
        rw [this, Bool.false_and]
      rw [this] at q
      exact q
    · rw [if_neg c]
      refine hN _ ⟨i + 1, some (.d (.int (i : Nat))), h6, rfl, ?_, rfl⟩
      rw [List.take_add_one, List.getElem?_eq_getElem hlt, List.all_append, h2]
      simpa using c
theorem ok_law_fate (T : Tx K mg) : FnOk P w K mg base CX0 1 T.ad_law_fate T.fd_law_fate ["table", "k"] (spD K (F2 fun a b Q => ∃ t k, a = eT t ∧ b = .int (k : Nat) ∧ k ≤ t.1.length ∧ Q (fateAt t k))) := by
  refine T.d_law_fate.F.ok x_law_fate (fun vs H Q E h => spD_len F2_len h) (fun cdv A outer s H vs Q E hr h => ?_)
  have nd := x_law_fate.nd
  refine ⟨_, (pss_one (ps_ret (pe_ifExp (pt_cmpR op_eq (pv 1) (pe_callB call_len_seq (by rfl) T.b_len (by decide +kernel) (pa_cons (pe_ix ix_seq (pv 0) pe_int (fun _ _ => rfl)) pa_nil)) (nomark _)) (pe_ix ix_seq (pe_ix ix_seq (pv 0) pe_int (fun _ _ => rfl)) pe_int (fun _ _ => rfl)) (pe_ix ix_seq (pe_ix ix_seq (pe_ix ix_seq (pv 0) pe_int (fun _ _ => rfl)) (pv 1) (fun _ _ => rfl)) pe_int (fun _ _ => rfl))))), fn_pure ((rs_ret (re_if (rt_test (ro rv_eq (RfE.b (rn 1)) (RfE.b (re_cb ro_len (rbC (RfE.b (ro rv_ix (RfE.b (rn 0)) (RfE.b (rc_int _)))) rbN))))) (ro rv_ix (RfE.b (ro rv_ix (RfE.b (rn 0)) (RfE.b (rc_int _)))) (RfE.b (rc_int _))) (ro rv_ix (RfE.b (ro rv_ix (RfE.b (ro rv_ix (RfE.b (rn 0)) (RfE.b (rc_int _)))) (RfE.b (rn 1)))) (RfE.b (rc_int _)))))) h (by rw [spD_len F2_len h]; decide) (F2_in fun a0 a1 Qd q => ?_)⟩
  obtain ⟨t, k, rfl, rfl, hk, q⟩ := q
  simp only [eT, true_and, ↓sTake, ↓sTake0, ↓sPick, ↓sNumber, rng_1, rng_2, rng_3, rng_4, rng_6, ↓dKd, dix_0, dix_1, dix_2, dix_3, dix_4, dix_5, dix_6, dix_7, dix_8, dix_9, Bool.not_false, Bool.not_true, Bool.and_true, Bool.true_and, Bool.and_false, Bool.false_and, decide_eq_true_eq, Bool.not_eq_true', decide_eq_false_iff_not, Bool.false_eq_true, if_true, if_false, ↓F0, ↓F1, ↓F2, ↓F3, ↓F4, ↓F5, ↓F6, ↓dParO1, ↓dParO2, ↓dEnumT, ↓oRepr, ↓dUn, ↓oNeg, ↓dSeq, ↓dRet, ↓dRetN, ↓dIf, ↓dAsg, ↓dDrop, ↓dBreak, ↓dCont, ↓dNext, ↓dOwn, ↓dApp, ↓dSetIx, ↓dFrz, frz, ↓dPar, ↓dAug, ↓dFor, ↓dN, ↓dNB, ↓dC, ↓dOp, ↓oI, ↓oI0, ↓oB, ↓oEq, ↓oEqS, eqS, ↓oIsN, isNo, ↓oIx, ↓oIxS, seqOf, ↓oCat, ↓oCatT, ↓oCatS, ↓oIn, ↓oInS, ↓dTb, ↓dAnd, ↓dOr, ↓dNot, ↓dYes, ↓dAndV, ↓dOrV, ↓dNotV, ↓dIfV, ↓dChain, ↓dNil, ↓dCons, ↓dL, ↓dTup, ↓dCB, ↓oAbs, ↓oI2, ↓oLen, ↓oLenS, ↓oInt, ↓oSum, ↓oBs, ↓oTupOf, ↓dSeqOf, ↓dIsi, it_bool_none, it_bool_bool, it_bool_int, it_bool_str, it_bool_list, it_bool_tuple, it_bool_dict, it_int_none, it_int_bool, it_int_int, it_int_str, it_int_list, it_int_tuple, it_int_dict, it_str_none, it_str_bool, it_str_int, it_str_str, it_str_list, it_str_tuple, it_str_dict, it_list_none, it_list_bool, it_list_int, it_list_str, it_list_list, it_list_tuple, it_list_dict, it_tuple_none, it_tuple_bool, it_tuple_int, it_tuple_str, it_tuple_list, it_tuple_tuple, it_tuple_dict, it_dict_none, it_dict_bool, it_dict_int, it_dict_str, it_dict_list, it_dict_tuple, it_dict_dict, ↓dNoP, ↓dPart, ↓dSlT, ↓dSlL, ↓dSlS, ↓dCall, ↓dCallS, ↓dItL, ↓dItT, ↓dItS, ↓dR1, ↓dR2, ↓dZip, ↓dEnum, ↓gN, ↓gNi, ↓gCo, ↓gT, ↓dLc, wipeE, eget, eset, List.set, ev0, List.map_cons, List.map_nil, List.cons_append, List.nil_append, List.replicate_succ, List.replicate_zero, noOwn, isOwn, List.all_cons, List.all_nil, List.length_cons, List.length_nil, List.length_map]
  unfold fateAt at q
  by_cases c : k = t.1.length
  · rw [List.getElem?_eq_none (by omega)] at q
    rw [if_pos (by omega)]
    exact q
  · have hlt : k < t.1.length := by omega
    rw [List.getElem?_eq_getElem hlt] at q
    rw [if_neg (by omega), dix_map (f := eRu) (as := t.1) (by omega) (a := t.1[k]) (by rw [Int.toNat_natCast, List.getElem?_eq_getElem hlt])]
    simp only [eRu, true_and, ↓sTake, ↓sTake0, ↓sPick, ↓sNumber, rng_1, rng_2, rng_3, rng_4, rng_6, ↓dKd, dix_0, dix_1, dix_2, dix_3, dix_4, dix_5, dix_6, dix_7, dix_8, dix_9, Bool.not_false, Bool.not_true, Bool.and_true, Bool.true_and, Bool.and_false, Bool.false_and, decide_eq_true_eq, Bool.not_eq_true', decide_eq_false_iff_not, Bool.false_eq_true, if_true, if_false, ↓F0, ↓F1, ↓F2, ↓F3, ↓F4, ↓F5, ↓F6, ↓dParO1, ↓dParO2, ↓dEnumT, ↓oRepr, ↓dUn, ↓oNeg, ↓dSeq, ↓dRet, ↓dRetN, ↓dIf, ↓dAsg, ↓dDrop, ↓dBreak, ↓dCont, ↓dNext, ↓dOwn, ↓dApp, ↓dSetIx, ↓dFrz, frz, ↓dPar, ↓dAug, ↓dFor, ↓dN, ↓dNB, ↓dC, ↓dOp, ↓oI, ↓oI0, ↓oB, ↓oEq, ↓oEqS, eqS, ↓oIsN, isNo, ↓oIx, ↓oIxS, seqOf, ↓oCat, ↓oCatT, ↓oCatS, ↓oIn, ↓oInS, ↓dTb, ↓dAnd, ↓dOr, ↓dNot, ↓dYes, ↓dAndV, ↓dOrV, ↓dNotV, ↓dIfV, ↓dChain, ↓dNil, ↓dCons, ↓dL, ↓dTup, ↓dCB, ↓oAbs, ↓oI2, ↓oLen, ↓oLenS, ↓oInt, ↓oSum, ↓oBs, ↓oTupOf, ↓dSeqOf, ↓dIsi, it_bool_none, it_bool_bool, it_bool_int, it_bool_str, it_bool_list, it_bool_tuple, it_bool_dict, it_int_none, it_int_bool, it_int_int, it_int_str, it_int_list, it_int_tuple, it_int_dict, it_str_none, it_str_bool, it_str_int, it_str_str, it_str_list, it_str_tuple, it_str_dict, it_list_none, it_list_bool, it_list_int, it_list_str, it_list_list, it_list_tuple, it_list_dict, it_tuple_none, it_tuple_bool, it_tuple_int, it_tuple_str, it_tuple_list, it_tuple_tuple, it_tuple_dict, it_dict_none, it_dict_bool, it_dict_int, it_dict_str, it_dict_list, it_dict_tuple, it_dict_dict, ↓dNoP, ↓dPart, ↓dSlT, ↓dSlL, ↓dSlS, ↓dCall, ↓dCallS, ↓dItL, ↓dItT, ↓dItS, ↓dR1, ↓dR2, ↓dZip, ↓dEnum, ↓gN, ↓gNi, ↓gCo, ↓gT, ↓dLc, wipeE, eget, eset, List.set, ev0, List.map_cons, List.map_nil, List.cons_append, List.nil_append, List.replicate_succ, List.replicate_zero, noOwn, isOwn, List.all_cons, List.all_nil, List.length_cons, List.length_nil]
    exact q
theorem ok_law_fate_leaf (T : Tx K mg) : FnOk P w K mg base CX0 2 T.ad_law_fate_leaf T.fd_law_fate_leaf ["table", "box", "k"] (spD K (F3 fun a b c Q => ∃ t bx k, a = eT t ∧ b = eB bx ∧ c = .int (k : Nat) ∧ k ≤ t.1.length ∧ bx.length = 6 ∧ (∀ u ∈ t.1, GM u.1) ∧ okT t ∧ Q (.bool (alk bx (fateAt t k) t.2.1 t.1)))) := by
  refine T.d_law_fate_leaf.F.ok x_law_fate_leaf (fun vs H Q E h => spD_len F3_len h) (fun cdv A outer s H vs Q E hr h => ?_)
  have nd := x_law_fate_leaf.nd
  refine ⟨_, (pss_cons (ps_for PassesOwn.never rfl (pi_tup (pe_ix ix_seq (pv 0) pe_int (fun _ _ => rfl))) (pg_tup (n := 3) rfl (pgs_cons (pg_name (i := 3) nd rfl (Or.inl rfl)) (pgs_cons (pg_name (i := 4) nd rfl (Or.inl rfl)) (pgs_cons (pg_name (i := 5) nd rfl (Or.inl rfl)) pgs_nil)))) (pss_one (ps_if (pt_val (pe_call (ok_law_touches T) hr (by rfl) T.d_law_touches.g T.d_law_touches.F.kp T.d_law_touches.b .nil pass0 (pa_cons (pv 3) (pa_cons (pv 1) pa_nil)))) (pss_cons (ps_if (pt_cmpR (op_neD hr.units) (pv 4) (pe_call (ok_law_fate T) hr (by rfl) T.d_law_fate.g T.d_law_fate.F.kp T.d_law_fate.b .nil pass0 (pa_cons (pv 0) (pa_cons (pv 2) pa_nil))) (nomark _)) (pss_one (ps_ret pe_bl)) pss_nil)
        (pss_one (ps_if (pt_val (pe_call (ok_law_covers T) hr (by rfl) T.d_law_covers.g T.d_law_covers.F.kp T.d_law_covers.b .nil pass0 (pa_cons (pv 3) (pa_cons (pv 1) pa_nil)))) (pss_one (ps_ret pe_bl)) pss_nil))) pss_nil)))
        (pss_one (ps_ret (pe_cmpR (op_eqD hr.units) (pe_ix ix_seq (pe_ix ix_seq (pv 0) pe_int (fun _ _ => rfl)) pe_int (fun _ _ => rfl)) (pe_call (ok_law_fate T) hr (by rfl) T.d_law_fate.g T.d_law_fate.F.kp T.d_law_fate.b .nil pass0 (pa_cons (pv 0) (pa_cons (pv 2) pa_nil))) (nomark _))))), fn_pure ((rs_seq (rs_for (ri_tup (ro rv_ix (RfE.b (rn 0)) (RfE.b (rc_int _)))) (rg_tup (rg_cons (rg_name 3) (rg_cons (rg_name 4) (rg_cons (rg_name 5) rg_nil)))) (rs_if (rt_val (re_call (raC (rn 3) (raC (rn 1) raN)))) (rs_seq (rs_if (rt_test (ro rv_neD (RfE.b (rn 4)) (RfE.b (re_call (raC (rn 0) (raC (rn 2) raN)))))) (rs_ret (rc_bl _)) rs_next)
        (rs_if (rt_val (re_call (raC (rn 3) (raC (rn 1) raN)))) (rs_ret (rc_bl _)) rs_next)) rs_next))
        (rs_ret (ro rv_eqD (RfE.b (ro rv_ix (RfE.b (ro rv_ix (RfE.b (rn 0)) (RfE.b (rc_int _)))) (RfE.b (rc_int _)))) (RfE.b (re_call (raC (rn 0) (raC (rn 2) raN)))))))) h (by rw [spD_len F3_len h]; decide) (F3_in fun a0 a1 a2 Qd q => ?_)⟩
  obtain ⟨t, bx, k, rfl, rfl, rfl, hk, hb, hg, ok, q⟩ := q
  simp only [eT, true_and, ↓sTake, ↓sTake0, ↓sPick, ↓sNumber, rng_1, rng_2, rng_3, rng_4, rng_6, ↓dKd, dix_0, dix_1, dix_2, dix_3, dix_4, dix_5, dix_6, dix_7, dix_8, dix_9, Bool.not_false, Bool.not_true, Bool.and_true, Bool.true_and, Bool.and_false, Bool.false_and, decide_eq_true_eq, Bool.not_eq_true', decide_eq_false_iff_not, Bool.false_eq_true, if_true, if_false, ↓F0, ↓F1, ↓F2, ↓F3, ↓F4, ↓F5, ↓F6, ↓dParO1, ↓dParO2, ↓dEnumT, ↓oRepr, ↓dUn, ↓oNeg, ↓dSeq, ↓dRet, ↓dRetN, ↓dIf, ↓dAsg, ↓dDrop, ↓dBreak, ↓dCont, ↓dNext, ↓dOwn, ↓dApp, ↓dSetIx, ↓dFrz, frz, ↓dPar, ↓dAug, ↓dFor, ↓dN, ↓dNB, ↓dC, ↓dOp, ↓oI, ↓oI0, ↓oB, ↓oEq, ↓oEqS, eqS, ↓oIsN, isNo, ↓oIx, ↓oIxS, seqOf, ↓oCat, ↓oCatT, ↓oCatS, ↓oIn, ↓oInS, ↓dTb, ↓dAnd, ↓dOr, ↓dNot, ↓dYes, ↓dAndV, ↓dOrV, ↓dNotV, ↓dIfV, ↓dChain, ↓dNil, ↓dCons, ↓dL, ↓dTup, ↓dCB, ↓oAbs, ↓oI2, ↓oLen, ↓oLenS, ↓oInt, ↓oSum, ↓oBs, ↓oTupOf, ↓dSeqOf, ↓dIsi, it_bool_none, it_bool_bool, it_bool_int, it_bool_str, it_bool_list, it_bool_tuple, it_bool_dict, it_int_none, it_int_bool, it_int_int, it_int_str, it_int_list, it_int_tuple, it_int_dict, it_str_none, it_str_bool, it_str_int, it_str_str, it_str_list, it_str_tuple, it_str_dict, it_list_none, it_list_bool, it_list_int, it_list_str, it_list_list, it_list_tuple, it_list_dict, it_tuple_none, it_tuple_bool, it_tuple_int, it_tuple_str, it_tuple_list, it_tuple_tuple, it_tuple_dict, it_dict_none, it_dict_bool, it_dict_int, it_dict_str, it_dict_list, it_dict_tuple, it_dict_dict, ↓dNoP, ↓dPart, ↓dSlT, ↓dSlL, ↓dSlS, ↓dCall, ↓dCallS, ↓dItL, ↓dItT, ↓dItS, ↓dR1, ↓dR2, ↓dZip, ↓dEnum, ↓gN, ↓gNi, ↓gCo, ↓gT, ↓dLc, wipeE, eget, eset, List.set, ev0, List.map_cons, List.map_nil, List.cons_append, List.nil_append, List.replicate_succ, List.replicate_zero, noOwn, isOwn, List.all_cons, List.all_nil, List.length_cons, List.length_nil]
  have okf := ok.at k
  refine loop_by (fun rest env => ∃ (us : List Rule) (s3 s4 s5 : Option En), rest = us.map eRu ∧ (∀ u ∈ us, u ∈ t.1) ∧ alk bx (fateAt t k) t.2.1 us = alk bx (fateAt t k) t.2.1 t.1 ∧ env = [some (.d (eT t)), some (.d (eB bx)), some (.d (.int (k : Nat))), s3, s4, s5]) ?_ ?_ _ _ ⟨t.1, none, none, none, rfl, fun _ h => h, rfl, rfl⟩
  · rintro env ⟨us, s3, s4, s5, h1, h2, h3, rfl⟩
    cases us with
    | cons _ _ => cases h1
    | nil =>
      simp only [eT, true_and, ↓sTake, ↓sTake0, ↓sPick, ↓sNumber, rng_1, rng_2, rng_3, rng_4, rng_6, ↓dKd, dix_0, dix_1, dix_2, dix_3, dix_4, dix_5, dix_6, dix_7, dix_8, dix_9, Bool.not_false, Bool.not_true, Bool.and_true, Bool.true_and, Bool.and_false, Bool.false_and, decide_eq_true_eq, Bool.not_eq_true', decide_eq_false_iff_not, Bool.false_eq_true, if_true, if_false, ↓F0, ↓F1, ↓F2, ↓F3, ↓F4, ↓F5, ↓F6, ↓dParO1, ↓dParO2, ↓dEnumT, ↓oRepr, ↓dUn, ↓oNeg, ↓dSeq, ↓dRet, ↓dRetN, ↓dIf, ↓dAsg, ↓dDrop, ↓dBreak, ↓dCont, ↓dNext, ↓dOwn, ↓dApp, ↓dSetIx, ↓dFrz, frz, ↓dPar, ↓dAug, ↓dFor, ↓dN, ↓dNB, ↓dC, ↓dOp, ↓oI, ↓oI0, ↓oB, ↓oEq, ↓oEqS, eqS, ↓oIsN, isNo, ↓oIx, ↓oIxS, seqOf, ↓oCat, ↓oCatT, ↓oCatS, ↓oIn, ↓oInS, ↓dTb, ↓dAnd, ↓dOr, ↓dNot, ↓dYes, ↓dAndV, ↓dOrV, ↓dNotV, ↓dIfV, ↓dChain, ↓dNil, ↓dCons, ↓dL, ↓dTup, ↓dCB, ↓oAbs, ↓oI2, ↓oLen, ↓oLenS, ↓oInt, ↓oSum, ↓oBs, ↓oTupOf, ↓dSeqOf, ↓dIsi, it_bool_none, it_bool_bool, it_bool_int, it_bool_str, it_bool_list, it_bool_tuple, it_bool_dict, it_int_none, it_int_bool, it_int_int, it_int_str, it_int_list, it_int_tuple, it_int_dict, it_str_none, it_str_bool, it_str_int, it_str_str, it_str_list, it_str_tuple, it_str_dict, it_list_none, it_list_bool, it_list_int, it_list_str, it_list_list, it_list_tuple, it_list_dict, it_tuple_none, it_tuple_bool, it_tuple_int, it_tuple_str, it_tuple_list, it_tuple_tuple, it_tuple_dict, it_dict_none, it_dict_bool, it_dict_int, it_dict_str, it_dict_list, it_dict_tuple, it_dict_dict, ↓dNoP, ↓dPart, ↓dSlT, ↓dSlL, ↓dSlS, ↓dCall, ↓dCallS, ↓dItL, ↓dItT, ↓dItS, ↓dR1, ↓dR2, ↓dZip, ↓dEnum, ↓gN, ↓gNi, ↓gCo, ↓gT, ↓dLc, wipeE, eget, eset, List.set, ev0, List.map_cons, List.map_nil, List.cons_append, List.nil_append, List.replicate_succ, List.replicate_zero, noOwn, isOwn, List.all_cons, List.all_nil, List.length_cons, List.length_nil]
      refine ⟨t, k, rfl, rfl, hk, ok.2, okf, ?_⟩
      rw [← h3] at q
      exact q
  · rintro d rest env N ⟨us, s3, s4, s5, h1, h2, h3, rfl⟩ hN
    cases us with
    | nil => cases h1
    | cons u us =>
      cases h1
      obtain ⟨g1, g2⟩ := hg u (h2 u List.mem_cons_self)
      simp only [eRu, eT, true_and, ↓sTake, ↓sTake0, ↓sPick, ↓sNumber, rng_1, rng_2, rng_3, rng_4, rng_6, ↓dKd, dix_0, dix_1, dix_2, dix_3, dix_4, dix_5, dix_6, dix_7, dix_8, dix_9, Bool.not_false, Bool.not_true, Bool.and_true, Bool.true_and, Bool.and_false, Bool.false_and, decide_eq_true_eq, Bool.not_eq_true', decide_eq_false_iff_not, Bool.false_eq_true, if_true, if_false, ↓F0, ↓F1, ↓F2, ↓F3, ↓F4, ↓F5, ↓F6, ↓dParO1, ↓dParO2, ↓dEnumT, ↓oRepr, ↓dUn, ↓oNeg, ↓dSeq, ↓dRet, ↓dRetN, ↓dIf, ↓dAsg, ↓dDrop, ↓dBreak, ↓dCont, ↓dNext, ↓dOwn, ↓dApp, ↓dSetIx, ↓dFrz, frz, ↓dPar, ↓dAug, ↓dFor, ↓dN, ↓dNB, ↓dC, ↓dOp, ↓oI, ↓oI0, ↓oB, ↓oEq, ↓oEqS, eqS, ↓oIsN, isNo, ↓oIx, ↓oIxS, seqOf, ↓oCat, ↓oCatT, ↓oCatS, ↓oIn, ↓oInS, ↓dTb, ↓dAnd, ↓dOr, ↓dNot, ↓dYes, ↓dAndV, ↓dOrV, ↓dNotV, ↓dIfV, ↓dChain, ↓dNil, ↓dCons, ↓dL, ↓dTup, ↓dCB, ↓oAbs, ↓oI2, ↓oLen, ↓oLenS, ↓oInt, ↓oSum, ↓oBs, ↓oTupOf, ↓dSeqOf, ↓dIsi, it_bool_none, it_bool_bool, it_bool_int, it_bool_str, it_bool_list, it_bool_tuple, it_bool_dict, it_int_none, it_int_bool, it_int_int, it_int_str, it_int_list, it_int_tuple, it_int_dict, it_str_none, it_str_bool, it_str_int, it_str_str, it_str_list, it_str_tuple, it_str_dict, it_list_none, it_list_bool, it_list_int, it_list_str, it_list_list, it_list_tuple, it_list_dict, it_tuple_none, it_tuple_bool, it_tuple_int, it_tuple_str, it_tuple_list, it_tuple_tuple, it_tuple_dict, it_dict_none, it_dict_bool, it_dict_int, it_dict_str, it_dict_list, it_dict_tuple, it_dict_dict, ↓dNoP, ↓dPart, ↓dSlT, ↓dSlL, ↓dSlS, ↓dCall, ↓dCallS, ↓dItL, ↓dItT, ↓dItS, ↓dR1, ↓dR2, ↓dZip, ↓dEnum, ↓gN, ↓gNi, ↓gCo, ↓gT, ↓dLc, wipeE, eget, eset, List.set, ev0, List.map_cons, List.map_nil, List.cons_append, List.nil_append, List.replicate_succ, List.replicate_zero, noOwn, isOwn, List.all_cons, List.all_nil, List.length_cons, List.length_nil]
      refine ⟨_, _, rfl, rfl, g1, hb, g2, ?_⟩
      rw [alk] at h3
      by_cases c : tchs u.1 bx = true
      · rw [if_pos c] at h3 ⊢
        refine ⟨t, k, rfl, rfl, hk, ok.1 u (h2 u List.mem_cons_self), okf, ?_⟩
        split <;> rename_i c2
        · rw [if_pos c2] at h3
          rw [← h3] at q
          exact q
        · rw [if_neg c2] at h3
          refine ⟨_, _, rfl, rfl, g1, hb, g2, ?_⟩
          split <;> rename_i c3
          · rw [if_pos c3] at h3
            rw [← h3] at q
            exact q
          · rw [if_neg c3] at h3
            exact hN _ ⟨us, _, _, _, rfl, fun v hv => h2 v (List.mem_cons_of_mem _ hv), h3, rfl⟩
      · rw [if_neg c] at h3 ⊢
        exact hN _ ⟨us, _, _, _, rfl, fun v hv => h2 v (List.mem_cons_of_mem _ hv), h3, rfl⟩
end
def rowHas (r : Row) (n : Int) : Bool := r.any fun s => decide (s.1 ≤ n) && decide (n ≤ s.2)
def rowN (r : Row) (n : Int) : Nat := r.countP fun s => decide (s.1 ≤ n) && decide (n ≤ s.2)
def Dj (r : Row) : Prop := ∀ n, rowN r n ≤ 1
theorem dj_has {r : Row} (h : Dj r) (n : Int) : rowN r n = if rowHas r n = true then 1 else 0 := by
  have h1 := h n
  unfold rowHas
  split <;> rename_i c
  · have : 0 < rowN r n := by
      rw [List.any_eq_true] at c
      obtain ⟨s, hs, hp⟩ := c
      exact List.countP_pos_iff.mpr ⟨s, hs, hp⟩
    omega
  · unfold rowN
    rw [List.countP_eq_zero]
    intro s hs hp
    exact c (List.any_eq_true.mpr ⟨s, hs, hp⟩)
def inB (m : List Row) (p : List Int) : Bool := (m.zip p).all fun x => rowHas x.1 x.2
def decN (p : List Int) : List Rule → Nat
  | [] => 0
  | u :: r => if inB u.1 p = true then 0 else decN p r + 1
section
variable {P : Program} {w : World} {K : PySem.W.Frag} {mg : Str → Option Value} {base : Heap}
theorem ok_law_in (T : Tx K mg) : FnOk P w K mg base CX0 1 T.ad_law_in T.fd_law_in ["match", "point"] (spD K (F2 fun a b Q => ∃ m p, a = eM m ∧ b = eP p ∧ m.length = 6 ∧ p.length = 6 ∧ (∀ r ∈ m, Dj r) ∧ Q (.bool (inB m p)))) := by
  refine T.d_law_in.F.ok x_law_in (fun vs H Q E h => spD_len F2_len h) (fun cdv A outer s H vs Q E hr h => ?_)
  have nd := x_law_in.nd
  refine ⟨_, (pss_cons (ps_set (i := 2) nd rfl (Or.inl rfl) pe_int)
        (pss_cons (ps_for PassesOwn.never rfl (pi_range1 (by rfl) T.b_range (pa_cons pe_int pa_nil)) (pg_name (i := 3) nd rfl (Or.inl rfl)) (pss_one (ps_for PassesOwn.never rfl (pi_tup (pe_ix ix_seq (pv 0) (pv 3) (fun _ _ => rfl))) (pg_tup (n := 2) rfl (pgs_cons (pg_name (i := 4) nd rfl (Or.inl rfl)) (pgs_cons (pg_name (i := 5) nd rfl (Or.inl rfl)) pgs_nil))) (pss_one (ps_if (PW.pt (pw_and (pt_cmpR op_le (pv 4) (pe_ix ix_seq (pv 1) (pv 3) (fun _ _ => rfl)) (nomark _)) (pw_and1 (pt_cmpR op_le (pe_ix ix_seq (pv 1) (pv 3) (fun _ _ => rfl)) (pv 5) (nomark _))))) (pss_one (ps_set (i := 2) nd rfl (Or.inl rfl) (pe_op op_add (pv 2) pe_int))) pss_nil)))))
        (pss_one (ps_ret (pe_cmpR op_eq (pv 2) pe_int (nomark _)))))), fn_pure ((rs_seq (rs_asg (rc_int _) (rg_name 2))
        (rs_seq (rs_for (ri_r1 (rbC (RfE.b (rc_int _)) rbN)) (rg_name 3) (rs_for (ri_tup (ro rv_ix (RfE.b (rn 0)) (RfE.b (rn 3)))) (rg_tup (rg_cons (rg_name 4) (rg_cons (rg_name 5) rg_nil))) (rs_if (rt_and (rt_test (ro rv_le (RfE.b (rn 4)) (RfE.b (ro rv_ix (RfE.b (rn 1)) (RfE.b (rn 3)))))) (rt_test (ro rv_le (RfE.b (ro rv_ix (RfE.b (rn 1)) (RfE.b (rn 3)))) (RfE.b (rn 5))))) (rs_asg (ro rv_add (RfE.b (rn 2)) (RfE.b (rc_int _))) (rg_name 2)) rs_next)))
        (rs_ret (ro rv_eq (RfE.b (rn 2)) (RfE.b (rc_int _))))))) h (by rw [spD_len F2_len h]; decide) (F2_in fun a0 a1 Qd q => ?_)⟩
  obtain ⟨m, p, rfl, rfl, hm, hp, hd, q⟩ := q
  simp only [eM, eP, true_and, ↓sTake, ↓sTake0, ↓sPick, ↓sNumber, rng_1, rng_2, rng_3, rng_4, rng_6, ↓dKd, dix_0, dix_1, dix_2, dix_3, dix_4, dix_5, dix_6, dix_7, dix_8, dix_9, Bool.not_false, Bool.not_true, Bool.and_true, Bool.true_and, Bool.and_false, Bool.false_and, decide_eq_true_eq, Bool.not_eq_true', decide_eq_false_iff_not, Bool.false_eq_true, if_true, if_false, ↓F0, ↓F1, ↓F2, ↓F3, ↓F4, ↓F5, ↓F6, ↓dParO1, ↓dParO2, ↓dEnumT, ↓oRepr, ↓dUn, ↓oNeg, ↓dSeq, ↓dRet, ↓dRetN, ↓dIf, ↓dAsg, ↓dDrop, ↓dBreak, ↓dCont, ↓dNext, ↓dOwn, ↓dApp, ↓dSetIx, ↓dFrz, frz, ↓dPar, ↓dAug, ↓dFor, ↓dN, ↓dNB, ↓dC, ↓dOp, ↓oI, ↓oI0, ↓oB, ↓oEq, ↓oEqS, eqS, ↓oIsN, isNo, ↓oIx, ↓oIxS, seqOf, ↓oCat, ↓oCatT, ↓oCatS, ↓oIn, ↓oInS, ↓dTb, ↓dAnd, ↓dOr, ↓dNot, ↓dYes, ↓dAndV, ↓dOrV, ↓dNotV, ↓dIfV, ↓dChain, ↓dNil, ↓dCons, ↓dL, ↓dTup, ↓dCB, ↓oAbs, ↓oI2, ↓oLen, ↓oLenS, ↓oInt, ↓oSum, ↓oBs, ↓oTupOf, ↓dSeqOf, ↓dIsi, it_bool_none, it_bool_bool, it_bool_int, it_bool_str, it_bool_list, it_bool_tuple, it_bool_dict, it_int_none, it_int_bool, it_int_int, it_int_str, it_int_list, it_int_tuple, it_int_dict, it_str_none, it_str_bool, it_str_int, it_str_str, it_str_list, it_str_tuple, it_str_dict, it_list_none, it_list_bool, it_list_int, it_list_str, it_list_list, it_list_tuple, it_list_dict, it_tuple_none, it_tuple_bool, it_tuple_int, it_tuple_str, it_tuple_list, it_tuple_tuple, it_tuple_dict, it_dict_none, it_dict_bool, it_dict_int, it_dict_str, it_dict_list, it_dict_tuple, it_dict_dict, ↓dNoP, ↓dPart, ↓dSlT, ↓dSlL, ↓dSlS, ↓dCall, ↓dCallS, ↓dItL, ↓dItT, ↓dItS, ↓dR1, ↓dR2, ↓dZip, ↓dEnum, ↓gN, ↓gNi, ↓gCo, ↓gT, ↓dLc, wipeE, eget, eset, List.set, ev0, List.map_cons, List.map_nil, List.cons_append, List.nil_append, List.replicate_succ, List.replicate_zero, noOwn, isOwn, List.all_cons, List.all_nil, List.length_cons, List.length_nil]
  refine ⟨by decide, by decide, ?_⟩
  have hz : (m.zip p).length = 6 := by rw [List.length_zip]; omega
  refine loop_by (fun rest env => ∃ (i : Nat) (s3 s4 s5 : Option En), i ≤ 6 ∧ rest = ix6 i ∧ env = [some (.d (eM m)), some (.d (eP p)), some (.d (.int ((((m.zip p).take i).countP fun x => rowHas x.1 x.2) : Nat))), s3, s4, s5]) ?_ ?_ _ _ ⟨0, none, none, none, by decide, ix6_0, rfl⟩
  · rintro env ⟨i, s3, s4, s5, hi, h1, rfl⟩
    obtain rfl := ix6_nil hi h1
    simp only [true_and, ↓sTake, ↓sTake0, ↓sPick, ↓sNumber, rng_1, rng_2, rng_3, rng_4, rng_6, ↓dKd, dix_0, dix_1, dix_2, dix_3, dix_4, dix_5, dix_6, dix_7, dix_8, dix_9, Bool.not_false, Bool.not_true, Bool.and_true, Bool.true_and, Bool.and_false, Bool.false_and, decide_eq_true_eq, Bool.not_eq_true', decide_eq_false_iff_not, Bool.false_eq_true, if_true, if_false, ↓F0, ↓F1, ↓F2, ↓F3, ↓F4, ↓F5, ↓F6, ↓dParO1, ↓dParO2, ↓dEnumT, ↓oRepr, ↓dUn, ↓oNeg, ↓dSeq, ↓dRet, ↓dRetN, ↓dIf, ↓dAsg, ↓dDrop, ↓dBreak, ↓dCont, ↓dNext, ↓dOwn, ↓dApp, ↓dSetIx, ↓dFrz, frz, ↓dPar, ↓dAug, ↓dFor, ↓dN, ↓dNB, ↓dC, ↓dOp, ↓oI, ↓oI0, ↓oB, ↓oEq, ↓oEqS, eqS, ↓oIsN, isNo, ↓oIx, ↓oIxS, seqOf, ↓oCat, ↓oCatT, ↓oCatS, ↓oIn, ↓oInS, ↓dTb, ↓dAnd, ↓dOr, ↓dNot, ↓dYes, ↓dAndV, ↓dOrV, ↓dNotV, ↓dIfV, ↓dChain, ↓dNil, ↓dCons, ↓dL, ↓dTup, ↓dCB, ↓oAbs, ↓oI2, ↓oLen, ↓oLenS, ↓oInt, ↓oSum, ↓oBs, ↓oTupOf, ↓dSeqOf, ↓dIsi, it_bool_none, it_bool_bool, it_bool_int, it_bool_str, it_bool_list, it_bool_tuple, it_bool_dict, it_int_none, it_int_bool, it_int_int, it_int_str, it_int_list, it_int_tuple, it_int_dict, it_str_none, it_str_bool, it_str_int, it_str_str, it_str_list, it_str_tuple, it_str_dict, it_list_none, it_list_bool, it_list_int, it_list_str, it_list_list, it_list_tuple, it_list_dict, it_tuple_none, it_tuple_bool, it_tuple_int, it_tuple_str, it_tuple_list, it_tuple_tuple, it_tuple_dict, it_dict_none, it_dict_bool, it_dict_int, it_dict_str, it_dict_list, it_dict_tuple, it_dict_dict, ↓dNoP, ↓dPart, ↓dSlT, ↓dSlL, ↓dSlS, ↓dCall, ↓dCallS, ↓dItL, ↓dItT, ↓dItS, ↓dR1, ↓dR2, ↓dZip, ↓dEnum, ↓gN, ↓gNi, ↓gCo, ↓gT, ↓dLc, wipeE, eget, eset, List.set, ev0, List.map_cons, List.map_nil, List.cons_append, List.nil_append, List.replicate_succ, List.replicate_zero, noOwn, isOwn, List.all_cons, List.all_nil, List.length_cons, List.length_nil]
    rw [count6 hz]
    exact q
  · rintro d rest env N ⟨i, s3, s4, s5, hi, h1, rfl⟩ hN
    obtain ⟨h6, rfl, rfl⟩ := ix6_cons h1
    have g1 : m[i]? = some m[i] := List.getElem?_eq_getElem (by omega)
    have g2 : p[i]? = some p[i] := List.getElem?_eq_getElem (by omega)
    have d1 : dix (m.map eRow) (i : Int) = some (eRow m[i]) := dix_map (by omega) (by rw [Int.toNat_natCast]; exact g1)
    have d2 : dix (p.map PyData.int) (i : Int) = some (.int p[i]) := dix_map (by omega) (by rw [Int.toNat_natCast]; exact g2)
    simp only [eM, eP, true_and, ↓sTake, ↓sTake0, ↓sPick, ↓sNumber, rng_1, rng_2, rng_3, rng_4, rng_6, ↓dKd, dix_0, dix_1, dix_2, dix_3, dix_4, dix_5, dix_6, dix_7, dix_8, dix_9, Bool.not_false, Bool.not_true, Bool.and_true, Bool.true_and, Bool.and_false, Bool.false_and, decide_eq_true_eq, Bool.not_eq_true', decide_eq_false_iff_not, Bool.false_eq_true, if_true, if_false, ↓F0, ↓F1, ↓F2, ↓F3, ↓F4, ↓F5, ↓F6, ↓dParO1, ↓dParO2, ↓dEnumT, ↓oRepr, ↓dUn, ↓oNeg, ↓dSeq, ↓dRet, ↓dRetN, ↓dIf, ↓dAsg, ↓dDrop, ↓dBreak, ↓dCont, ↓dNext, ↓dOwn, ↓dApp, ↓dSetIx, ↓dFrz, frz, ↓dPar, ↓dAug, ↓dFor, ↓dN, ↓dNB, ↓dC, ↓dOp, ↓oI, ↓oI0, ↓oB, ↓oEq, ↓oEqS, eqS, ↓oIsN, isNo, ↓oIx, ↓oIxS, seqOf, ↓oCat, ↓oCatT, ↓oCatS, ↓oIn, ↓oInS, ↓dTb, ↓dAnd, ↓dOr, ↓dNot, ↓dYes, ↓dAndV, ↓dOrV, ↓dNotV, ↓dIfV, ↓dChain, ↓dNil, ↓dCons, ↓dL, ↓dTup, ↓dCB, ↓oAbs, ↓oI2, ↓oLen, ↓oLenS, ↓oInt, ↓oSum, ↓oBs, ↓oTupOf, ↓dSeqOf, ↓dIsi, it_bool_none, it_bool_bool, it_bool_int, it_bool_str, it_bool_list, it_bool_tuple, it_bool_dict, it_int_none, it_int_bool, it_int_int, it_int_str, it_int_list, it_int_tuple, it_int_dict, it_str_none, it_str_bool, it_str_int, it_str_str, it_str_list, it_str_tuple, it_str_dict, it_list_none, it_list_bool, it_list_int, it_list_str, it_list_list, it_list_tuple, it_list_dict, it_tuple_none, it_tuple_bool, it_tuple_int, it_tuple_str, it_tuple_list, it_tuple_tuple, it_tuple_dict, it_dict_none, it_dict_bool, it_dict_int, it_dict_str, it_dict_list, it_dict_tuple, it_dict_dict, ↓dNoP, ↓dPart, ↓dSlT, ↓dSlL, ↓dSlS, ↓dCall, ↓dCallS, ↓dItL, ↓dItT, ↓dItS, ↓dR1, ↓dR2, ↓dZip, ↓dEnum, ↓gN, ↓gNi, ↓gCo, ↓gT, ↓dLc, wipeE, eget, eset, List.set, ev0, List.map_cons, List.map_nil, List.cons_append, List.nil_append, List.replicate_succ, List.replicate_zero, noOwn, isOwn, List.all_cons, List.all_nil, List.length_cons, List.length_nil, d1]
    simp only [eRow, true_and, ↓sTake, ↓sTake0, ↓sPick, ↓sNumber, rng_1, rng_2, rng_3, rng_4, rng_6, ↓dKd, dix_0, dix_1, dix_2, dix_3, dix_4, dix_5, dix_6, dix_7, dix_8, dix_9, Bool.not_false, Bool.not_true, Bool.and_true, Bool.true_and, Bool.and_false, Bool.false_and, decide_eq_true_eq, Bool.not_eq_true', decide_eq_false_iff_not, Bool.false_eq_true, if_true, if_false, ↓F0, ↓F1, ↓F2, ↓F3, ↓F4, ↓F5, ↓F6, ↓dParO1, ↓dParO2, ↓dEnumT, ↓oRepr, ↓dUn, ↓oNeg, ↓dSeq, ↓dRet, ↓dRetN, ↓dIf, ↓dAsg, ↓dDrop, ↓dBreak, ↓dCont, ↓dNext, ↓dOwn, ↓dApp, ↓dSetIx, ↓dFrz, frz, ↓dPar, ↓dAug, ↓dFor, ↓dN, ↓dNB, ↓dC, ↓dOp, ↓oI, ↓oI0, ↓oB, ↓oEq, ↓oEqS, eqS, ↓oIsN, isNo, ↓oIx, ↓oIxS, seqOf, ↓oCat, ↓oCatT, ↓oCatS, ↓oIn, ↓oInS, ↓dTb, ↓dAnd, ↓dOr, ↓dNot, ↓dYes, ↓dAndV, ↓dOrV, ↓dNotV, ↓dIfV, ↓dChain, ↓dNil, ↓dCons, ↓dL, ↓dTup, ↓dCB, ↓oAbs, ↓oI2, ↓oLen, ↓oLenS, ↓oInt, ↓oSum, ↓oBs, ↓oTupOf, ↓dSeqOf, ↓dIsi, it_bool_none, it_bool_bool, it_bool_int, it_bool_str, it_bool_list, it_bool_tuple, it_bool_dict, it_int_none, it_int_bool, it_int_int, it_int_str, it_int_list, it_int_tuple, it_int_dict, it_str_none, it_str_bool, it_str_int, it_str_str, it_str_list, it_str_tuple, it_str_dict, it_list_none, it_list_bool, it_list_int, it_list_str, it_list_list, it_list_tuple, it_list_dict, it_tuple_none, it_tuple_bool, it_tuple_int, it_tuple_str, it_tuple_list, it_tuple_tuple, it_tuple_dict, it_dict_none, it_dict_bool, it_dict_int, it_dict_str, it_dict_list, it_dict_tuple, it_dict_dict, ↓dNoP, ↓dPart, ↓dSlT, ↓dSlL, ↓dSlS, ↓dCall, ↓dCallS, ↓dItL, ↓dItT, ↓dItS, ↓dR1, ↓dR2, ↓dZip, ↓dEnum, ↓gN, ↓gNi, ↓gCo, ↓gT, ↓dLc, wipeE, eget, eset, List.set, ev0, List.map_cons, List.map_nil, List.cons_append, List.nil_append, List.replicate_succ, List.replicate_zero, noOwn, isOwn, List.all_cons, List.all_nil, List.length_cons, List.length_nil]
    have hdi := hd _ (List.mem_of_getElem? g1)
    generalize hc : ((m.zip p).take i).countP (fun x => rowHas x.1 x.2) = c
    refine loop_by (fun rest env => ∃ (r' : Row) (s4 s5 : Option En) (f : Nat), rest = r'.map eR ∧ f + rowN r' p[i] = c + rowN m[i] p[i] ∧ env = [some (.d (eM m)), some (.d (eP p)), some (.d (.int (f : Nat))), some (.d (.int (i : Nat))), s4, s5]) ?_ ?_ _ _ ⟨m[i], _, _, c, rfl, rfl, rfl⟩
    · rintro env ⟨r', s4, s5, f, h1, h2, rfl⟩
      cases r' with
      | cons _ _ => cases h1
      | nil =>
        refine hN _ ⟨i + 1, some (.d (.int (i : Nat))), s4, s5, h6, rfl, ?_⟩
        rw [countP_next (zip_get g1 g2), hc, ← dj_has hdi, ← h2]
        rfl
    · rintro d rest env N2 ⟨r', s4, s5, f, h1, h2, rfl⟩ hN2
      cases r' with
      | nil => cases h1
      | cons a r' =>
        cases h1
        simp only [eP, eR, true_and, ↓sTake, ↓sTake0, ↓sPick, ↓sNumber, rng_1, rng_2, rng_3, rng_4, rng_6, ↓dKd, dix_0, dix_1, dix_2, dix_3, dix_4, dix_5, dix_6, dix_7, dix_8, dix_9, Bool.not_false, Bool.not_true, Bool.and_true, Bool.true_and, Bool.and_false, Bool.false_and, decide_eq_true_eq, Bool.not_eq_true', decide_eq_false_iff_not, Bool.false_eq_true, if_true, if_false, ↓F0, ↓F1, ↓F2, ↓F3, ↓F4, ↓F5, ↓F6, ↓dParO1, ↓dParO2, ↓dEnumT, ↓oRepr, ↓dUn, ↓oNeg, ↓dSeq, ↓dRet, ↓dRetN, ↓dIf, ↓dAsg, ↓dDrop, ↓dBreak, ↓dCont, ↓dNext, ↓dOwn, ↓dApp, ↓dSetIx, ↓dFrz, frz, ↓dPar, ↓dAug, ↓dFor, ↓dN, ↓dNB, ↓dC, ↓dOp, ↓oI, ↓oI0, ↓oB, ↓oEq, ↓oEqS, eqS, ↓oIsN, isNo, ↓oIx, ↓oIxS, seqOf, ↓oCat, ↓oCatT, ↓oCatS, ↓oIn, ↓oInS, ↓dTb, ↓dAnd, ↓dOr, ↓dNot, ↓dYes, ↓dAndV, ↓dOrV, ↓dNotV, ↓dIfV, ↓dChain, ↓dNil, ↓dCons, ↓dL, ↓dTup, ↓dCB, ↓oAbs, ↓oI2, ↓oLen, ↓oLenS, ↓oInt, ↓oSum, ↓oBs, ↓oTupOf, ↓dSeqOf, ↓dIsi, it_bool_none, it_bool_bool, it_bool_int, it_bool_str, it_bool_list, it_bool_tuple, it_bool_dict, it_int_none, it_int_bool, it_int_int, it_int_str, it_int_list, it_int_tuple, it_int_dict, it_str_none, it_str_bool, it_str_int, it_str_str, it_str_list, it_str_tuple, it_str_dict, it_list_none, it_list_bool, it_list_int, it_list_str, it_list_list, it_list_tuple, it_list_dict, it_tuple_none, it_tuple_bool, it_tuple_int, it_tuple_str, it_tuple_list, it_tuple_tuple, it_tuple_dict, it_dict_none, it_dict_bool, it_dict_int, it_dict_str, it_dict_list, it_dict_tuple, it_dict_dict, ↓dNoP, ↓dPart, ↓dSlT, ↓dSlL, ↓dSlS, ↓dCall, ↓dCallS, ↓dItL, ↓dItT, ↓dItS, ↓dR1, ↓dR2, ↓dZip, ↓dEnum, ↓gN, ↓gNi, ↓gCo, ↓gT, ↓dLc, wipeE, eget, eset, List.set, ev0, List.map_cons, List.map_nil, List.cons_append, List.nil_append, List.replicate_succ, List.replicate_zero, noOwn, isOwn, List.all_cons, List.all_nil, List.length_cons, List.length_nil, d2]
        have e : rowN (a :: r') p[i] = rowN r' p[i] + (if (decide (a.1 ≤ p[i]) && decide (p[i] ≤ a.2)) = true then 1 else 0) := List.countP_cons
        by_cases c1 : a.1 ≤ p[i]
        · rw [if_pos c1]
          by_cases c2 : p[i] ≤ a.2
          · rw [if_pos c2]
            rw [if_pos (by simp; omega)] at e
            exact hN2 _ ⟨r', some (.d (.int a.1)), some (.d (.int a.2)), f + 1, rfl, by omega, rfl⟩
          · rw [if_neg c2]
            rw [if_neg (by simp; omega)] at e
            exact hN2 _ ⟨r', _, _, f, rfl, by omega, rfl⟩
        · rw [if_neg c1]
          rw [if_neg (by simp; omega)] at e
          exact hN2 _ ⟨r', _, _, f, rfl, by omega, rfl⟩
theorem ok_law_decider (T : Tx K mg) : FnOk P w K mg base CX0 2 T.ad_law_decider T.fd_law_decider ["table", "point"] (spD K (F2 fun a b Q => ∃ t p, a = eT t ∧ b = eP p ∧ t.1.length ≤ 1000 ∧ p.length = 6 ∧ (∀ u ∈ t.1, u.1.length = 6 ∧ ∀ r ∈ u.1, Dj r) ∧ Q (.int (decN p t.1 : Nat)))) := by
  refine T.d_law_decider.F.ok x_law_decider (fun vs H Q E h => spD_len F2_len h) (fun cdv A outer s H vs Q E hr h => ?_)
  have nd := x_law_decider.nd
  refine ⟨_, (pss_cons (ps_for PassesOwn.never rfl (pi_range1 (by rfl) T.b_range (pa_cons (pe_callB call_len_seq (by rfl) T.b_len (by decide +kernel) (pa_cons (pe_ix ix_seq (pv 0) pe_int (fun _ _ => rfl)) pa_nil)) pa_nil)) (pg_name (i := 2) nd rfl (Or.inl rfl)) (pss_one (ps_if (pt_val (pe_call (ok_law_in T) hr (by rfl) T.d_law_in.g T.d_law_in.F.kp T.d_law_in.b .nil pass0 (pa_cons (pe_ix ix_seq (pe_ix ix_seq (pe_ix ix_seq (pv 0) pe_int (fun _ _ => rfl)) (pv 2) (fun _ _ => rfl)) pe_int (fun _ _ => rfl)) (pa_cons (pv 1) pa_nil)))) (pss_one (ps_ret (pv 2))) pss_nil)))
        (pss_one (ps_ret (pe_callB call_len_seq (by rfl) T.b_len (by decide +kernel) (pa_cons (pe_ix ix_seq (pv 0) pe_int (fun _ _ => rfl)) pa_nil))))), fn_pure ((rs_seq (rs_for (ri_r1 (rbC (RfE.b (re_cb ro_len (rbC (RfE.b (ro rv_ix (RfE.b (rn 0)) (RfE.b (rc_int _)))) rbN))) rbN)) (rg_name 2) (rs_if (rt_val (re_call (raC (ro rv_ix (RfE.b (ro rv_ix (RfE.b (ro rv_ix (RfE.b (rn 0)) (RfE.b (rc_int _)))) (RfE.b (rn 2)))) (RfE.b (rc_int _))) (raC (rn 1) raN)))) (rs_ret (rn 2)) rs_next))
        (rs_ret (re_cb ro_len (rbC (RfE.b (ro rv_ix (RfE.b (rn 0)) (RfE.b (rc_int _)))) rbN))))) h (by rw [spD_len F2_len h]; decide) (F2_in fun a0 a1 Qd q => ?_)⟩
  obtain ⟨t, p, rfl, rfl, hl, hp, hg, q⟩ := q
  simp only [eT, true_and, ↓sTake, ↓sTake0, ↓sPick, ↓sNumber, rng_1, rng_2, rng_3, rng_4, rng_6, ↓dKd, dix_0, dix_1, dix_2, dix_3, dix_4, dix_5, dix_6, dix_7, dix_8, dix_9, Bool.not_false, Bool.not_true, Bool.and_true, Bool.true_and, Bool.and_false, Bool.false_and, decide_eq_true_eq, Bool.not_eq_true', decide_eq_false_iff_not, Bool.false_eq_true, if_true, if_false, ↓F0, ↓F1, ↓F2, ↓F3, ↓F4, ↓F5, ↓F6, ↓dParO1, ↓dParO2, ↓dEnumT, ↓oRepr, ↓dUn, ↓oNeg, ↓dSeq, ↓dRet, ↓dRetN, ↓dIf, ↓dAsg, ↓dDrop, ↓dBreak, ↓dCont, ↓dNext, ↓dOwn, ↓dApp, ↓dSetIx, ↓dFrz, frz, ↓dPar, ↓dAug, ↓dFor, ↓dN, ↓dNB, ↓dC, ↓dOp, ↓oI, ↓oI0, ↓oB, ↓oEq, ↓oEqS, eqS, ↓oIsN, isNo, ↓oIx, ↓oIxS, seqOf, ↓oCat, ↓oCatT, ↓oCatS, ↓oIn, ↓oInS, ↓dTb, ↓dAnd, ↓dOr, ↓dNot, ↓dYes, ↓dAndV, ↓dOrV, ↓dNotV, ↓dIfV, ↓dChain, ↓dNil, ↓dCons, ↓dL, ↓dTup, ↓dCB, ↓oAbs, ↓oI2, ↓oLen, ↓oLenS, ↓oInt, ↓oSum, ↓oBs, ↓oTupOf, ↓dSeqOf, ↓dIsi, it_bool_none, it_bool_bool, it_bool_int, it_bool_str, it_bool_list, it_bool_tuple, it_bool_dict, it_int_none, it_int_bool, it_int_int, it_int_str, it_int_list, it_int_tuple, it_int_dict, it_str_none, it_str_bool, it_str_int, it_str_str, it_str_list, it_str_tuple, it_str_dict, it_list_none, it_list_bool, it_list_int, it_list_str, it_list_list, it_list_tuple, it_list_dict, it_tuple_none, it_tuple_bool, it_tuple_int, it_tuple_str, it_tuple_list, it_tuple_tuple, it_tuple_dict, it_dict_none, it_dict_bool, it_dict_int, it_dict_str, it_dict_list, it_dict_tuple, it_dict_dict, ↓dNoP, ↓dPart, ↓dSlT, ↓dSlL, ↓dSlS, ↓dCall, ↓dCallS, ↓dItL, ↓dItT, ↓dItS, ↓dR1, ↓dR2, ↓dZip, ↓dEnum, ↓gN, ↓gNi, ↓gCo, ↓gT, ↓dLc, wipeE, eget, eset, List.set, ev0, List.map_cons, List.map_nil, List.cons_append, List.nil_append, List.replicate_succ, List.replicate_zero, noOwn, isOwn, List.all_cons, List.all_nil, List.length_cons, List.length_nil, List.length_map, Int.toNat_natCast]
  refine ⟨by omega, by omega, ?_⟩
  rw [show rng 0 t.1.length = ixn t.1.length 0 from rng_eq _]
  refine loop_by (fun rest env => ∃ (i : Nat) (s2 : Option En), i ≤ t.1.length ∧ rest = ixn t.1.length i ∧ i + decN p (t.1.drop i) = decN p t.1 ∧ env = [some (.d (eT t)), some (.d (eP p)), s2]) ?_ ?_ _ _ ⟨0, none, Nat.zero_le _, rfl, Nat.zero_add _, rfl⟩
  · rintro env ⟨i, s2, hi, h1, h2, rfl⟩
    obtain rfl := ixn_nil hi h1
    rw [List.drop_length] at h2
    simp only [eT, true_and, ↓sTake, ↓sTake0, ↓sPick, ↓sNumber, rng_1, rng_2, rng_3, rng_4, rng_6, ↓dKd, dix_0, dix_1, dix_2, dix_3, dix_4, dix_5, dix_6, dix_7, dix_8, dix_9, Bool.not_false, Bool.not_true, Bool.and_true, Bool.true_and, Bool.and_false, Bool.false_and, decide_eq_true_eq, Bool.not_eq_true', decide_eq_false_iff_not, Bool.false_eq_true, if_true, if_false, ↓F0, ↓F1, ↓F2, ↓F3, ↓F4, ↓F5, ↓F6, ↓dParO1, ↓dParO2, ↓dEnumT, ↓oRepr, ↓dUn, ↓oNeg, ↓dSeq, ↓dRet, ↓dRetN, ↓dIf, ↓dAsg, ↓dDrop, ↓dBreak, ↓dCont, ↓dNext, ↓dOwn, ↓dApp, ↓dSetIx, ↓dFrz, frz, ↓dPar, ↓dAug, ↓dFor, ↓dN, ↓dNB, ↓dC, ↓dOp, ↓oI, ↓oI0, ↓oB, ↓oEq, ↓oEqS, eqS, ↓oIsN, isNo, ↓oIx, ↓oIxS, seqOf, ↓oCat, ↓oCatT, ↓oCatS, ↓oIn, ↓oInS, ↓dTb, ↓dAnd, ↓dOr, ↓dNot, ↓dYes, ↓dAndV, ↓dOrV, ↓dNotV, ↓dIfV, ↓dChain, ↓dNil, ↓dCons, ↓dL, ↓dTup, ↓dCB, ↓oAbs, ↓oI2, ↓oLen, ↓oLenS, ↓oInt, ↓oSum, ↓oBs, ↓oTupOf, ↓dSeqOf, ↓dIsi, it_bool_none, it_bool_bool, it_bool_int, it_bool_str, it_bool_list, it_bool_tuple, it_bool_dict, it_int_none, it_int_bool, it_int_int, it_int_str, it_int_list, it_int_tuple, it_int_dict, it_str_none, it_str_bool, it_str_int, it_str_str, it_str_list, it_str_tuple, it_str_dict, it_list_none, it_list_bool, it_list_int, it_list_str, it_list_list, it_list_tuple, it_list_dict, it_tuple_none, it_tuple_bool, it_tuple_int, it_tuple_str, it_tuple_list, it_tuple_tuple, it_tuple_dict, it_dict_none, it_dict_bool, it_dict_int, it_dict_str, it_dict_list, it_dict_tuple, it_dict_dict, ↓dNoP, ↓dPart, ↓dSlT, ↓dSlL, ↓dSlS, ↓dCall, ↓dCallS, ↓dItL, ↓dItT, ↓dItS, ↓dR1, ↓dR2, ↓dZip, ↓dEnum, ↓gN, ↓gNi, ↓gCo, ↓gT, ↓dLc, wipeE, eget, eset, List.set, ev0, List.map_cons, List.map_nil, List.cons_append, List.nil_append, List.replicate_succ, List.replicate_zero, noOwn, isOwn, List.all_cons, List.all_nil, List.length_cons, List.length_nil, List.length_map]
    rw [← h2] at q
    exact q
  · rintro d rest env N ⟨i, s2, hi, h1, h2, rfl⟩ hN
    obtain ⟨h6, rfl, rfl⟩ := ixn_cons h1
    simp only [eT, true_and, ↓sTake, ↓sTake0, ↓sPick, ↓sNumber, rng_1, rng_2, rng_3, rng_4, rng_6, ↓dKd, dix_0, dix_1, dix_2, dix_3, dix_4, dix_5, dix_6, dix_7, dix_8, dix_9, Bool.not_false, Bool.not_true, Bool.and_true, Bool.true_and, Bool.and_false, Bool.false_and, decide_eq_true_eq, Bool.not_eq_true', decide_eq_false_iff_not, Bool.false_eq_true, if_true, if_false, ↓F0, ↓F1, ↓F2, ↓F3, ↓F4, ↓F5, ↓F6, ↓dParO1, ↓dParO2, ↓dEnumT, ↓oRepr, ↓dUn, ↓oNeg, ↓dSeq, ↓dRet, ↓dRetN, ↓dIf, ↓dAsg, ↓dDrop, ↓dBreak, ↓dCont, ↓dNext, ↓dOwn, ↓dApp, ↓dSetIx, ↓dFrz, frz, ↓dPar, ↓dAug, ↓dFor, ↓dN, ↓dNB, ↓dC, ↓dOp, ↓oI, ↓oI0, ↓oB, ↓oEq, ↓oEqS, eqS, ↓oIsN, isNo, ↓oIx, ↓oIxS, seqOf, ↓oCat, ↓oCatT, ↓oCatS, ↓oIn, ↓oInS, ↓dTb, ↓dAnd, ↓dOr, ↓dNot, ↓dYes, ↓dAndV, ↓dOrV, ↓dNotV, ↓dIfV, ↓dChain, ↓dNil, ↓dCons, ↓dL, ↓dTup, ↓dCB, ↓oAbs, ↓oI2, ↓oLen, ↓oLenS, ↓oInt, ↓oSum, ↓oBs, ↓oTupOf, ↓dSeqOf, ↓dIsi, it_bool_none, it_bool_bool, it_bool_int, it_bool_str, it_bool_list, it_bool_tuple, it_bool_dict, it_int_none, it_int_bool, it_int_int, it_int_str, it_int_list, it_int_tuple, it_int_dict, it_str_none, it_str_bool, it_str_int, it_str_str, it_str_list, it_str_tuple, it_str_dict, it_list_none, it_list_bool, it_list_int, it_list_str, it_list_list, it_list_tuple, it_list_dict, it_tuple_none, it_tuple_bool, it_tuple_int, it_tuple_str, it_tuple_list, it_tuple_tuple, it_tuple_dict, it_dict_none, it_dict_bool, it_dict_int, it_dict_str, it_dict_list, it_dict_tuple, it_dict_dict, ↓dNoP, ↓dPart, ↓dSlT, ↓dSlL, ↓dSlS, ↓dCall, ↓dCallS, ↓dItL, ↓dItT, ↓dItS, ↓dR1, ↓dR2, ↓dZip, ↓dEnum, ↓gN, ↓gNi, ↓gCo, ↓gT, ↓dLc, wipeE, eget, eset, List.set, ev0, List.map_cons, List.map_nil, List.cons_append, List.nil_append, List.replicate_succ, List.replicate_zero, noOwn, isOwn, List.all_cons, List.all_nil, List.length_cons, List.length_nil]
    rw [dix_map (f := eRu) (as := t.1) (by omega) (a := t.1[i]) (by rw [Int.toNat_natCast, List.getElem?_eq_getElem h6])]
    simp only [eRu, true_and, ↓sTake, ↓sTake0, ↓sPick, ↓sNumber, rng_1, rng_2, rng_3, rng_4, rng_6, ↓dKd, dix_0, dix_1, dix_2, dix_3, dix_4, dix_5, dix_6, dix_7, dix_8, dix_9, Bool.not_false, Bool.not_true, Bool.and_true, Bool.true_and, Bool.and_false, Bool.false_and, decide_eq_true_eq, Bool.not_eq_true', decide_eq_false_iff_not, Bool.false_eq_true, if_true, if_false, ↓F0, ↓F1, ↓F2, ↓F3, ↓F4, ↓F5, ↓F6, ↓dParO1, ↓dParO2, ↓dEnumT, ↓oRepr, ↓dUn, ↓oNeg, ↓dSeq, ↓dRet, ↓dRetN, ↓dIf, ↓dAsg, ↓dDrop, ↓dBreak, ↓dCont, ↓dNext, ↓dOwn, ↓dApp, ↓dSetIx, ↓dFrz, frz, ↓dPar, ↓dAug, ↓dFor, ↓dN, ↓dNB, ↓dC, ↓dOp, ↓oI, ↓oI0, ↓oB, ↓oEq, ↓oEqS, eqS, ↓oIsN, isNo, ↓oIx, ↓oIxS, seqOf, ↓oCat, ↓oCatT, ↓oCatS, ↓oIn, ↓oInS, ↓dTb, ↓dAnd, ↓dOr, ↓dNot, ↓dYes, ↓dAndV, ↓dOrV, ↓dNotV, ↓dIfV, ↓dChain, ↓dNil, ↓dCons, ↓dL, ↓dTup, ↓dCB, ↓oAbs, ↓oI2, ↓oLen, ↓oLenS, ↓oInt, ↓oSum, ↓oBs, ↓oTupOf, ↓dSeqOf, ↓dIsi, it_bool_none, it_bool_bool, it_bool_int, it_bool_str, it_bool_list, it_bool_tuple, it_bool_dict, it_int_none, it_int_bool, it_int_int, it_int_str, it_int_list, it_int_tuple, it_int_dict, it_str_none, it_str_bool, it_str_int, it_str_str, it_str_list, it_str_tuple, it_str_dict, it_list_none, it_list_bool, it_list_int, it_list_str, it_list_list, it_list_tuple, it_list_dict, it_tuple_none, it_tuple_bool, it_tuple_int, it_tuple_str, it_tuple_list, it_tuple_tuple, it_tuple_dict, it_dict_none, it_dict_bool, it_dict_int, it_dict_str, it_dict_list, it_dict_tuple, it_dict_dict, ↓dNoP, ↓dPart, ↓dSlT, ↓dSlL, ↓dSlS, ↓dCall, ↓dCallS, ↓dItL, ↓dItT, ↓dItS, ↓dR1, ↓dR2, ↓dZip, ↓dEnum, ↓gN, ↓gNi, ↓gCo, ↓gT, ↓dLc, wipeE, eget, eset, List.set, ev0, List.map_cons, List.map_nil, List.cons_append, List.nil_append, List.replicate_succ, List.replicate_zero, noOwn, isOwn, List.all_cons, List.all_nil, List.length_cons, List.length_nil]
    obtain ⟨g1, g2⟩ := hg _ (List.getElem_mem h6)
    refine ⟨_, _, rfl, rfl, g1, hp, g2, ?_⟩
    rw [List.drop_eq_getElem_cons h6, decN] at h2
    split <;> rename_i c
    · rw [if_pos c] at h2
      rw [← h2] at q
      exact q
    · rw [if_neg c] at h2
      exact hN _ ⟨i + 1, some (.d (.int (i : Nat))), h6, rfl, by omega, rfl⟩
def GR (mo : Int) (r : Row) : Prop := Dj r ∧ r.length ≤ 10 ∧ ∀ s ∈ r, 0 ≤ s.1 ∧ s.1 ≤ s.2 ∧ s.2 ≤ mo
theorem dj_nil : Dj [] := fun _ => Nat.zero_le _
theorem dj_one (s : Int × Int) : Dj [s] := fun n => by
  unfold rowN
  exact Nat.le_trans List.countP_le_length (Nat.le_of_ble_eq_true rfl)
theorem dj_snoc {r : Row} {a b : Int} (h : Dj r) (hl : ∀ s ∈ r, s.2 < a) : Dj (r ++ [(a, b)]) := fun n => by
  have h1 := h n
  unfold rowN at h1 ⊢
  rw [List.countP_append, List.countP_cons, List.countP_nil]
  by_cases c : a ≤ n
  · have : r.countP (fun s => decide (s.1 ≤ n) && decide (n ≤ s.2)) = 0 := by
      rw [List.countP_eq_zero]
      intro s hs hp
      have := hl s hs
      simp at hp
      omega
    rw [this]
    split <;> omega
  · rw [if_neg (by simp; omega)]
    omega
theorem ok_law_row (T : Tx K mg) : FnOk P w K mg base CX0 2 T.ad_law_row T.fd_law_row ["state", "most"] (spS K (F1 fun a Q => ∃ mo : Int, a = .int mo ∧ 1 ≤ mo ∧ mo ≤ 4294967295 ∧ ∀ r, GR mo r → Q (eRow r))) := by
  refine T.d_law_row.F.ok x_law_row (fun vs H Q E h => spS_len F1_len h) (fun cdv A outer s H vs Q E hr h => ?_)
  have nd := x_law_row.nd
  refine ⟨_, (pss_cons (ps_set (i := 2) nd rfl (Or.inl rfl) (pe_call (ok_law_take T) hr (by rfl) T.d_law_take.g T.d_law_take.F.kp T.d_law_take.b .nil pass0 (pa_cons (pv 0) (pa_cons pe_int pa_nil))))
        (pss_cons (ps_if (pt_cmpR op_eq (pv 2) pe_int (nomark _)) (pss_one (ps_ret (pe_tup (pa_cons (pe_tup (pa_cons pe_int (pa_cons (pv 1) pa_nil))) pa_nil)))) pss_nil)
        (pss_cons (ps_if (pt_cmpR op_eq (pv 2) pe_int (nomark _)) (pss_one (ps_ret (pe_ifExp (pt_cmpR op_eq (pe_call (ok_law_take T) hr (by rfl) T.d_law_take.g T.d_law_take.F.kp T.d_law_take.b .nil pass0 (pa_cons (pv 0) (pa_cons pe_int pa_nil))) pe_int (nomark _)) (pe_tup pa_nil) (pe_tup (pa_cons (pe_tup (pa_cons pe_int (pa_cons pe_int pa_nil))) pa_nil))))) pss_nil)
        (pss_cons (ps_if (pt_cmpR op_eq (pv 2) pe_int (nomark _)) (pss_one (ps_ret (pe_tup (pa_cons (pe_tup (pa_cons (pv 1) (pa_cons (pv 1) pa_nil))) pa_nil)))) pss_nil)
        (pss_cons (ps_par (i := 3) (j := 4) (by rfl) nd rfl rfl (by decide) rfl rfl (pa_cons (pe_lst pa_nil) (pa_cons (pe_call (ok_law_take T) hr (by rfl) T.d_law_take.g T.d_law_take.F.kp T.d_law_take.b .nil pass0 (pa_cons (pv 0) (pa_cons pe_int pa_nil))) pa_nil)) (by rfl))
        (pss_cons (ps_for PassesOwn.never rfl (pi_range1 (by rfl) T.b_range (pa_cons (pe_op op_add pe_int (pe_call (ok_law_take T) hr (by rfl) T.d_law_take.g T.d_law_take.F.kp T.d_law_take.b .nil pass0 (pa_cons (pv 0) (pa_cons pe_int pa_nil)))) pa_nil)) (pg_name (i := 5) nd rfl (Or.inl rfl)) (pss_cons (ps_set (i := 6) nd rfl (Or.inl rfl) (pe_op op_add (pv 4) (pe_call (ok_law_take T) hr (by rfl) T.d_law_take.g T.d_law_take.F.kp T.d_law_take.b .nil pass0 (pa_cons (pv 0) (pa_cons pe_int pa_nil)))))
        (pss_cons (ps_if (pt_cmpR op_gt (pv 6) (pv 1) (nomark _)) (pss_one ps_break) pss_nil)
        (pss_cons (ps_expr (pe_bm PySem.F.plainAttrs_list PySem.F.slot_list_append PySem.F.type_list_append mt_append (pv 3) (pa_cons (pe_tup (pa_cons (pv 4) (pa_cons (pv 6) pa_nil))) pa_nil)))
        (pss_one (ps_set (i := 4) nd rfl (Or.inl rfl) (pe_op op_add (pe_op op_add (pv 6) pe_int) (pe_call (ok_law_take T) hr (by rfl) T.d_law_take.g T.d_law_take.F.kp T.d_law_take.b .nil pass0 (pa_cons (pv 0) (pa_cons pe_int pa_nil))))))))))
        (pss_one (ps_ret (pe_callTy call_tuple_of (by rfl) T.b_tuple (by decide +kernel) (pa_cons (pv 3) pa_nil)))))))))), fn_state ((rs_seq (rs_asg (re_callS (raC (rc_int _) raN)) (rg_name 2))
        (rs_seq (rs_if (rt_test (ro rv_eq (RfE.b (rn 2)) (RfE.b (rc_int _)))) (rs_ret (re_tup (raC (re_tup (raC (rc_int _) (raC (rn 1) raN))) raN))) rs_next)
        (rs_seq (rs_if (rt_test (ro rv_eq (RfE.b (rn 2)) (RfE.b (rc_int _)))) (rs_ret (re_if (rt_test (ro rv_eq (RfE.b (re_callS (raC (rc_int _) raN))) (RfE.b (rc_int _)))) (re_tup raN) (re_tup (raC (re_tup (raC (rc_int _) (raC (rc_int _) raN))) raN)))) rs_next)
        (rs_seq (rs_if (rt_test (ro rv_eq (RfE.b (rn 2)) (RfE.b (rc_int _)))) (rs_ret (re_tup (raC (re_tup (raC (rn 1) (raC (rn 1) raN))) raN))) rs_next)
        (rs_seq (rs_parO1 3 4 (rf_lst raN) (re_callS (raC (rc_int _) raN)))
        (rs_seq (rs_for (ri_r1 (rbC (RfE.b (ro rv_add (RfE.b (rc_int _)) (RfE.b (re_callS (raC (rc_int _) raN))))) rbN)) (rg_name 5) (rs_seq (rs_asg (ro rv_add (RfE.b (rn 4)) (RfE.b (re_callS (raC (rc_int _) raN)))) (rg_name 6))
        (rs_seq (rs_if (rt_test (ro rv_gt (RfE.b (rn 6)) (RfE.b (rn 1)))) rs_break rs_next)
        (rs_seq (rs_app 3 (re_tup (raC (rn 4) (raC (rn 6) raN))))
        (rs_asg (ro rv_add (RfE.b (ro rv_add (RfE.b (rn 6)) (RfE.b (rc_int _)))) (RfE.b (re_callS (raC (rc_int _) raN)))) (rg_name 4))))))
        (rs_ret (re_cb ro_tupOf (rbC (rnb 3) rbN)))))))))) h (by rw [spS_len F1_len h]; decide) (F1_in fun a0 Qd q => ?_)⟩
  obtain ⟨mo, rfl, h1, h2, q⟩ := q
  simp only [true_and, ↓sTake, ↓sTake0, ↓sPick, ↓sNumber, rng_1, rng_2, rng_3, rng_4, rng_6, ↓dKd, dix_0, dix_1, dix_2, dix_3, dix_4, dix_5, dix_6, dix_7, dix_8, dix_9, Bool.not_false, Bool.not_true, Bool.and_true, Bool.true_and, Bool.and_false, Bool.false_and, decide_eq_true_eq, Bool.not_eq_true', decide_eq_false_iff_not, Bool.false_eq_true, if_true, if_false, ↓F0, ↓F1, ↓F2, ↓F3, ↓F4, ↓F5, ↓F6, ↓dParO1, ↓dParO2, ↓dEnumT, ↓oRepr, ↓dUn, ↓oNeg, ↓dSeq, ↓dRet, ↓dRetN, ↓dIf, ↓dAsg, ↓dDrop, ↓dBreak, ↓dCont, ↓dNext, ↓dOwn, ↓dApp, ↓dSetIx, ↓dFrz, frz, ↓dPar, ↓dAug, ↓dFor, ↓dN, ↓dNB, ↓dC, ↓dOp, ↓oI, ↓oI0, ↓oB, ↓oEq, ↓oEqS, eqS, ↓oIsN, isNo, ↓oIx, ↓oIxS, seqOf, ↓oCat, ↓oCatT, ↓oCatS, ↓oIn, ↓oInS, ↓dTb, ↓dAnd, ↓dOr, ↓dNot, ↓dYes, ↓dAndV, ↓dOrV, ↓dNotV, ↓dIfV, ↓dChain, ↓dNil, ↓dCons, ↓dL, ↓dTup, ↓dCB, ↓oAbs, ↓oI2, ↓oLen, ↓oLenS, ↓oInt, ↓oSum, ↓oBs, ↓oTupOf, ↓dSeqOf, ↓dIsi, it_bool_none, it_bool_bool, it_bool_int, it_bool_str, it_bool_list, it_bool_tuple, it_bool_dict, it_int_none, it_int_bool, it_int_int, it_int_str, it_int_list, it_int_tuple, it_int_dict, it_str_none, it_str_bool, it_str_int, it_str_str, it_str_list, it_str_tuple, it_str_dict, it_list_none, it_list_bool, it_list_int, it_list_str, it_list_list, it_list_tuple, it_list_dict, it_tuple_none, it_tuple_bool, it_tuple_int, it_tuple_str, it_tuple_list, it_tuple_tuple, it_tuple_dict, it_dict_none, it_dict_bool, it_dict_int, it_dict_str, it_dict_list, it_dict_tuple, it_dict_dict, ↓dNoP, ↓dPart, ↓dSlT, ↓dSlL, ↓dSlS, ↓dCall, ↓dCallS, ↓dItL, ↓dItT, ↓dItS, ↓dR1, ↓dR2, ↓dZip, ↓dEnum, ↓gN, ↓gNi, ↓gCo, ↓gT, ↓dLc, wipeE, eget, eset, List.set, ev0, List.map_cons, List.map_nil, List.cons_append, List.nil_append, List.replicate_succ, List.replicate_zero, noOwn, isOwn, List.all_cons, List.all_nil, List.length_cons, List.length_nil]
  have one : ∀ a b : Int, 0 ≤ a → a ≤ b → b ≤ mo → GR mo [(a, b)] := fun a b g1 g2 g3 => ⟨dj_one _, Nat.le_of_ble_eq_true rfl, fun s hs => by
    rw [List.mem_singleton] at hs
    subst hs
    exact ⟨g1, g2, g3⟩⟩
  refine ⟨by decide, by decide, fun kd _ _ => ?_⟩
  split
  · exact q _ (one 0 mo (by omega) (by omega) (by omega))
  split
  · refine ⟨by decide, by decide, fun r _ _ => ?_⟩
    split
    · exact q [] ⟨dj_nil, Nat.zero_le _, fun s hs => nomatch hs⟩
    · exact q _ (one 0 0 (by omega) (by omega) (by omega))
  split
  · exact q _ (one mo mo (by omega) (by omega) (by omega))
  refine ⟨by decide, by decide, by decide, by decide, fun l0 hl0 _ => ⟨by decide, by decide, fun cn hc0 hc1 => ⟨by omega, by omega, ?_⟩⟩⟩
  have fin : ∀ (r : Row) (s4 s5 s6 : Option En), GR mo r → (dRet (dCB oTupOf (dCons (dNB 3) dNil))) { nx := fun x => Qd PyData.none, rt := Qd } [some .st, some (.d (.int mo)), some (.d (.int kd)), some (.own (r.map eR)), s4, s5, s6] := fun r s4 s5 s6 hr => by
    simp only [true_and, ↓sTake, ↓sTake0, ↓sPick, ↓sNumber, rng_1, rng_2, rng_3, rng_4, rng_6, ↓dKd, dix_0, dix_1, dix_2, dix_3, dix_4, dix_5, dix_6, dix_7, dix_8, dix_9, Bool.not_false, Bool.not_true, Bool.and_true, Bool.true_and, Bool.and_false, Bool.false_and, decide_eq_true_eq, Bool.not_eq_true', decide_eq_false_iff_not, Bool.false_eq_true, if_true, if_false, ↓F0, ↓F1, ↓F2, ↓F3, ↓F4, ↓F5, ↓F6, ↓dParO1, ↓dParO2, ↓dEnumT, ↓oRepr, ↓dUn, ↓oNeg, ↓dSeq, ↓dRet, ↓dRetN, ↓dIf, ↓dAsg, ↓dDrop, ↓dBreak, ↓dCont, ↓dNext, ↓dOwn, ↓dApp, ↓dSetIx, ↓dFrz, frz, ↓dPar, ↓dAug, ↓dFor, ↓dN, ↓dNB, ↓dC, ↓dOp, ↓oI, ↓oI0, ↓oB, ↓oEq, ↓oEqS, eqS, ↓oIsN, isNo, ↓oIx, ↓oIxS, seqOf, ↓oCat, ↓oCatT, ↓oCatS, ↓oIn, ↓oInS, ↓dTb, ↓dAnd, ↓dOr, ↓dNot, ↓dYes, ↓dAndV, ↓dOrV, ↓dNotV, ↓dIfV, ↓dChain, ↓dNil, ↓dCons, ↓dL, ↓dTup, ↓dCB, ↓oAbs, ↓oI2, ↓oLen, ↓oLenS, ↓oInt, ↓oSum, ↓oBs, ↓oTupOf, ↓dSeqOf, ↓dIsi, it_bool_none, it_bool_bool, it_bool_int, it_bool_str, it_bool_list, it_bool_tuple, it_bool_dict, it_int_none, it_int_bool, it_int_int, it_int_str, it_int_list, it_int_tuple, it_int_dict, it_str_none, it_str_bool, it_str_int, it_str_str, it_str_list, it_str_tuple, it_str_dict, it_list_none, it_list_bool, it_list_int, it_list_str, it_list_list, it_list_tuple, it_list_dict, it_tuple_none, it_tuple_bool, it_tuple_int, it_tuple_str, it_tuple_list, it_tuple_tuple, it_tuple_dict, it_dict_none, it_dict_bool, it_dict_int, it_dict_str, it_dict_list, it_dict_tuple, it_dict_dict, ↓dNoP, ↓dPart, ↓dSlT, ↓dSlL, ↓dSlS, ↓dCall, ↓dCallS, ↓dItL, ↓dItT, ↓dItS, ↓dR1, ↓dR2, ↓dZip, ↓dEnum, ↓gN, ↓gNi, ↓gCo, ↓gT, ↓dLc, wipeE, eget, eset, List.set, ev0, List.map_cons, List.map_nil, List.cons_append, List.nil_append, List.replicate_succ, List.replicate_zero, noOwn, isOwn, List.all_cons, List.all_nil, List.length_cons, List.length_nil]
    exact q r hr
  refine loop_by (fun rest env => ∃ (r : Row) (l : Int) (s5 s6 : Option En), r.length + rest.length ≤ 8 ∧ Dj r ∧ (∀ s ∈ r, 0 ≤ s.1 ∧ s.1 ≤ s.2 ∧ s.2 ≤ mo ∧ s.2 < l) ∧ 0 ≤ l ∧ env = [some .st, some (.d (.int mo)), some (.d (.int kd)), some (.own (r.map eR)), some (.d (.int l)), s5, s6]) ?_ ?_ _ _ ⟨[], l0, none, none, by rw [rng_len]; show 0 + _ ≤ 8; omega, dj_nil, (fun s hs => nomatch hs), hl0, rfl⟩
  · rintro env ⟨r, l, s5, s6, g1, g2, g3, g4, rfl⟩
    exact fin r (some (.d (.int l))) s5 s6 ⟨g2, by omega, fun s hs => ⟨(g3 s hs).1, (g3 s hs).2.1, (g3 s hs).2.2.1⟩⟩
  · rintro d rest env N ⟨r, l, s5, s6, g1, g2, g3, g4, rfl⟩ hN
    rw [List.length_cons] at g1
    simp only [true_and, ↓sTake, ↓sTake0, ↓sPick, ↓sNumber, rng_1, rng_2, rng_3, rng_4, rng_6, ↓dKd, dix_0, dix_1, dix_2, dix_3, dix_4, dix_5, dix_6, dix_7, dix_8, dix_9, Bool.not_false, Bool.not_true, Bool.and_true, Bool.true_and, Bool.and_false, Bool.false_and, decide_eq_true_eq, Bool.not_eq_true', decide_eq_false_iff_not, Bool.false_eq_true, if_true, if_false, ↓F0, ↓F1, ↓F2, ↓F3, ↓F4, ↓F5, ↓F6, ↓dParO1, ↓dParO2, ↓dEnumT, ↓oRepr, ↓dUn, ↓oNeg, ↓dSeq, ↓dRet, ↓dRetN, ↓dIf, ↓dAsg, ↓dDrop, ↓dBreak, ↓dCont, ↓dNext, ↓dOwn, ↓dApp, ↓dSetIx, ↓dFrz, frz, ↓dPar, ↓dAug, ↓dFor, ↓dN, ↓dNB, ↓dC, ↓dOp, ↓oI, ↓oI0, ↓oB, ↓oEq, ↓oEqS, eqS, ↓oIsN, isNo, ↓oIx, ↓oIxS, seqOf, ↓oCat, ↓oCatT, ↓oCatS, ↓oIn, ↓oInS, ↓dTb, ↓dAnd, ↓dOr, ↓dNot, ↓dYes, ↓dAndV, ↓dOrV, ↓dNotV, ↓dIfV, ↓dChain, ↓dNil, ↓dCons, ↓dL, ↓dTup, ↓dCB, ↓oAbs, ↓oI2, ↓oLen, ↓oLenS, ↓oInt, ↓oSum, ↓oBs, ↓oTupOf, ↓dSeqOf, ↓dIsi, it_bool_none, it_bool_bool, it_bool_int, it_bool_str, it_bool_list, it_bool_tuple, it_bool_dict, it_int_none, it_int_bool, it_int_int, it_int_str, it_int_list, it_int_tuple, it_int_dict, it_str_none, it_str_bool, it_str_int, it_str_str, it_str_list, it_str_tuple, it_str_dict, it_list_none, it_list_bool, it_list_int, it_list_str, it_list_list, it_list_tuple, it_list_dict, it_tuple_none, it_tuple_bool, it_tuple_int, it_tuple_str, it_tuple_list, it_tuple_tuple, it_tuple_dict, it_dict_none, it_dict_bool, it_dict_int, it_dict_str, it_dict_list, it_dict_tuple, it_dict_dict, ↓dNoP, ↓dPart, ↓dSlT, ↓dSlL, ↓dSlS, ↓dCall, ↓dCallS, ↓dItL, ↓dItT, ↓dItS, ↓dR1, ↓dR2, ↓dZip, ↓dEnum, ↓gN, ↓gNi, ↓gCo, ↓gT, ↓dLc, wipeE, eget, eset, List.set, ev0, List.map_cons, List.map_nil, List.cons_append, List.nil_append, List.replicate_succ, List.replicate_zero, noOwn, isOwn, List.all_cons, List.all_nil, List.length_cons, List.length_nil]
    refine ⟨by decide, by decide, fun x hx _ => ?_⟩
    split <;> rename_i c
    · exact fin r (some (.d (.int l))) (some (.d d)) (some (.d (.int (l + x)))) ⟨g2, by omega, fun s hs => ⟨(g3 s hs).1, (g3 s hs).2.1, (g3 s hs).2.2.1⟩⟩
    · refine ⟨by rw [List.length_map]; omega, by decide, by decide, fun y hy _ => ?_⟩
      refine hN _ ⟨r ++ [(l, l + x)], l + x + 2 + y, some (.d d), some (.d (.int (l + x))), by rw [List.length_append, List.length_singleton]; omega, dj_snoc g2 fun s hs => (g3 s hs).2.2.2, fun s hs => ?_, by omega, ?_⟩
      · rcases List.mem_append.mp hs with h | h
        · have := g3 s h; omega
        · rw [List.mem_singleton] at h
          subst h
          exact ⟨g4, by show l ≤ l + x; omega, by show l + x ≤ mo; omega, by show l + x < l + x + 2 + y; omega⟩
      · rw [List.map_append]
        rfl
theorem ok_law_match (T : Tx K mg) : FnOk P w K mg base CX0 3 T.ad_law_match T.fd_law_match ["state"] (spS K (F0 fun Q => ∀ m : List Row, m.length = 6 → (∀ r ∈ m, GR 4294967295 r) → Q (eM m))) := by
  refine T.d_law_match.F.ok x_law_match (fun vs H Q E h => spS_len F0_len h) (fun cdv A outer s H vs Q E hr h => ?_)
  have nd := x_law_match.nd
  refine ⟨_, (pss_cons (ps_setLc (i := 1) (own := [("most", 4)]) (g := (gName 4)) rfl nd rfl rfl (sw_true rfl rfl rfl (by decide +kernel)) (pi_tup (pe_tup (pa_cons pe_int (pa_cons pe_int (pa_cons pe_int (pa_cons pe_int (pa_cons pe_int (pa_cons pe_int pa_nil)))))))) (blkOk_by (own := [("most", 4)]) (N := Ns_law_match) (sc := defScope s_law_match) (by decide +kernel)) (fun _ _ _ _ _ => (pg_name (i := 4) nd rfl (Or.inl rfl))) (fun _ _ _ _ _ => pts_nil) (fun _ _ _ _ _ => (pe_tup (pa_cons (pe_tup (pa_cons pe_int (pa_cons (pv 4) pa_nil))) pa_nil))))
        (pss_cons (ps_for PassesOwn.never rfl (pi_range1 (by rfl) T.b_range (pa_cons (pe_op op_add pe_int (pe_call (ok_law_take T) (hr.mono (by decide)) (by rfl) T.d_law_take.g T.d_law_take.F.kp T.d_law_take.b .nil pass0 (pa_cons (pv 0) (pa_cons pe_int pa_nil)))) pa_nil)) (pg_name (i := 2) nd rfl (Or.inl rfl)) (pss_cons (ps_set (i := 3) nd rfl (Or.inl rfl) (pe_call (ok_law_take T) (hr.mono (by decide)) (by rfl) T.d_law_take.g T.d_law_take.F.kp T.d_law_take.b .nil pass0 (pa_cons (pv 0) (pa_cons pe_int pa_nil))))
        (pss_one (ps_asg (pe_call (ok_law_row T) hr (by rfl) T.d_law_row.g T.d_law_row.F.kp T.d_law_row.b .nil pass0 (pa_cons (pv 0) (pa_cons (pe_ix ix_seq (pe_tup (pa_cons pe_int (pa_cons pe_int (pa_cons pe_int (pa_cons pe_int (pa_cons pe_int (pa_cons pe_int pa_nil))))))) (pv 3) (fun _ _ => rfl)) pa_nil))) (pg_sub (pv 1) (pv 3) set_list)))))
        (pss_one (ps_ret (pe_callTy call_tuple_of (by rfl) T.b_tuple (by decide +kernel) (pa_cons (pv 1) pa_nil)))))), fn_state ((rs_seq (rs_own 1 (rf_lc (ri_tup (re_tup (raC (rc_int _) (raC (rc_int _) (raC (rc_int _) (raC (rc_int _) (raC (rc_int _) (raC (rc_int _) raN)))))))) (rg_name 4) rt_yes (re_tup (raC (re_tup (raC (rc_int _) (raC (rn 4) raN))) raN))))
        (rs_seq (rs_for (ri_r1 (rbC (RfE.b (ro rv_add (RfE.b (rc_int _)) (RfE.b (re_callS (raC (rc_int _) raN))))) rbN)) (rg_name 2) (rs_seq (rs_asg (re_callS (raC (rc_int _) raN)) (rg_name 3))
        (rs_setIx 1 (re_callS (raC (ro rv_ix (RfE.b (re_tup (raC (rc_int _) (raC (rc_int _) (raC (rc_int _) (raC (rc_int _) (raC (rc_int _) (raC (rc_int _) raN)))))))) (RfE.b (rn 3))) raN)) (rn 3))))
        (rs_ret (re_cb ro_tupOf (rbC (rnb 1) rbN)))))) h (by rw [spS_len F0_len h]; decide) (F0_in fun  Qd q => ?_)⟩
  simp only [true_and, ↓sTake, ↓sTake0, ↓sPick, ↓sNumber, rng_1, rng_2, rng_3, rng_4, rng_6, ↓dKd, dix_0, dix_1, dix_2, dix_3, dix_4, dix_5, dix_6, dix_7, dix_8, dix_9, Bool.not_false, Bool.not_true, Bool.and_true, Bool.true_and, Bool.and_false, Bool.false_and, decide_eq_true_eq, Bool.not_eq_true', decide_eq_false_iff_not, Bool.false_eq_true, if_true, if_false, ↓F0, ↓F1, ↓F2, ↓F3, ↓F4, ↓F5, ↓F6, ↓dParO1, ↓dParO2, ↓dEnumT, ↓oRepr, ↓dUn, ↓oNeg, ↓dSeq, ↓dRet, ↓dRetN, ↓dIf, ↓dAsg, ↓dDrop, ↓dBreak, ↓dCont, ↓dNext, ↓dOwn, ↓dApp, ↓dSetIx, ↓dFrz, frz, ↓dPar, ↓dAug, ↓dFor, ↓dN, ↓dNB, ↓dC, ↓dOp, ↓oI, ↓oI0, ↓oB, ↓oEq, ↓oEqS, eqS, ↓oIsN, isNo, ↓oIx, ↓oIxS, seqOf, ↓oCat, ↓oCatT, ↓oCatS, ↓oIn, ↓oInS, ↓dTb, ↓dAnd, ↓dOr, ↓dNot, ↓dYes, ↓dAndV, ↓dOrV, ↓dNotV, ↓dIfV, ↓dChain, ↓dNil, ↓dCons, ↓dL, ↓dTup, ↓dCB, ↓oAbs, ↓oI2, ↓oLen, ↓oLenS, ↓oInt, ↓oSum, ↓oBs, ↓oTupOf, ↓dSeqOf, ↓dIsi, it_bool_none, it_bool_bool, it_bool_int, it_bool_str, it_bool_list, it_bool_tuple, it_bool_dict, it_int_none, it_int_bool, it_int_int, it_int_str, it_int_list, it_int_tuple, it_int_dict, it_str_none, it_str_bool, it_str_int, it_str_str, it_str_list, it_str_tuple, it_str_dict, it_list_none, it_list_bool, it_list_int, it_list_str, it_list_list, it_list_tuple, it_list_dict, it_tuple_none, it_tuple_bool, it_tuple_int, it_tuple_str, it_tuple_list, it_tuple_tuple, it_tuple_dict, it_dict_none, it_dict_bool, it_dict_int, it_dict_str, it_dict_list, it_dict_tuple, it_dict_dict, ↓dNoP, ↓dPart, ↓dSlT, ↓dSlL, ↓dSlS, ↓dCall, ↓dCallS, ↓dItL, ↓dItT, ↓dItS, ↓dR1, ↓dR2, ↓dZip, ↓dEnum, ↓gN, ↓gNi, ↓gCo, ↓gT, ↓dLc, wipeE, eget, eset, List.set, ev0, List.map_cons, List.map_nil, List.cons_append, List.nil_append, List.replicate_succ, List.replicate_zero, noOwn, isOwn, List.all_cons, List.all_nil, List.length_cons, List.length_nil]
  refine ⟨by decide, ?_⟩
  rw [show [PyData.int 1, PyData.int 255, PyData.int 4294967295, PyData.int 65535, PyData.int 4294967295, PyData.int 65535] = ([1, 255, 4294967295, 65535, 4294967295, 65535] : List Int).map PyData.int from rfl]
  refine lc_fun PyData.int (fun mo => some (eRow [(0, mo)])) (fun mo hmo R hR => ?_) ?_
  · simp only [true_and, ↓sTake, ↓sTake0, ↓sPick, ↓sNumber, rng_1, rng_2, rng_3, rng_4, rng_6, ↓dKd, dix_0, dix_1, dix_2, dix_3, dix_4, dix_5, dix_6, dix_7, dix_8, dix_9, Bool.not_false, Bool.not_true, Bool.and_true, Bool.true_and, Bool.and_false, Bool.false_and, decide_eq_true_eq, Bool.not_eq_true', decide_eq_false_iff_not, Bool.false_eq_true, if_true, if_false, ↓F0, ↓F1, ↓F2, ↓F3, ↓F4, ↓F5, ↓F6, ↓dParO1, ↓dParO2, ↓dEnumT, ↓oRepr, ↓dUn, ↓oNeg, ↓dSeq, ↓dRet, ↓dRetN, ↓dIf, ↓dAsg, ↓dDrop, ↓dBreak, ↓dCont, ↓dNext, ↓dOwn, ↓dApp, ↓dSetIx, ↓dFrz, frz, ↓dPar, ↓dAug, ↓dFor, ↓dN, ↓dNB, ↓dC, ↓dOp, ↓oI, ↓oI0, ↓oB, ↓oEq, ↓oEqS, eqS, ↓oIsN, isNo, ↓oIx, ↓oIxS, seqOf, ↓oCat, ↓oCatT, ↓oCatS, ↓oIn, ↓oInS, ↓dTb, ↓dAnd, ↓dOr, ↓dNot, ↓dYes, ↓dAndV, ↓dOrV, ↓dNotV, ↓dIfV, ↓dChain, ↓dNil, ↓dCons, ↓dL, ↓dTup, ↓dCB, ↓oAbs, ↓oI2, ↓oLen, ↓oLenS, ↓oInt, ↓oSum, ↓oBs, ↓oTupOf, ↓dSeqOf, ↓dIsi, it_bool_none, it_bool_bool, it_bool_int, it_bool_str, it_bool_list, it_bool_tuple, it_bool_dict, it_int_none, it_int_bool, it_int_int, it_int_str, it_int_list, it_int_tuple, it_int_dict, it_str_none, it_str_bool, it_str_int, it_str_str, it_str_list, it_str_tuple, it_str_dict, it_list_none, it_list_bool, it_list_int, it_list_str, it_list_list, it_list_tuple, it_list_dict, it_tuple_none, it_tuple_bool, it_tuple_int, it_tuple_str, it_tuple_list, it_tuple_tuple, it_tuple_dict, it_dict_none, it_dict_bool, it_dict_int, it_dict_str, it_dict_list, it_dict_tuple, it_dict_dict, ↓dNoP, ↓dPart, ↓dSlT, ↓dSlL, ↓dSlS, ↓dCall, ↓dCallS, ↓dItL, ↓dItT, ↓dItS, ↓dR1, ↓dR2, ↓dZip, ↓dEnum, ↓gN, ↓gNi, ↓gCo, ↓gT, ↓dLc, wipeE, eget, eset, List.set, ev0, List.map_cons, List.map_nil, List.cons_append, List.nil_append, List.replicate_succ, List.replicate_zero, noOwn, isOwn, List.all_cons, List.all_nil, List.length_cons, List.length_nil]
    exact hR
  rw [fm_some]
  refine ⟨by decide, by decide, by decide, fun cn hc0 hc1 => ⟨by omega, by omega, ?_⟩⟩
  have mono : ∀ {mo : Int} {r : Row}, mo ≤ 4294967295 → GR mo r → GR 4294967295 r := fun h g => ⟨g.1, g.2.1, fun s hs => ⟨(g.2.2 s hs).1, (g.2.2 s hs).2.1, Int.le_trans (g.2.2 s hs).2.2 h⟩⟩
  refine loop_by (fun rest env => ∃ (m : List Row) (s2 s3 : Option En), m.length = 6 ∧ (∀ r ∈ m, GR 4294967295 r) ∧ env = [some .st, some (.own (m.map eRow)), s2, s3, none]) ?_ ?_ _ _ ⟨([1, 255, 4294967295, 65535, 4294967295, 65535] : List Int).map fun mo => [(0, mo)], none, none, rfl, fun r hr => ?_, by rw [List.map_map]; rfl⟩
  · rintro env ⟨m, s2, s3, g1, g2, rfl⟩
    simp only [true_and, ↓sTake, ↓sTake0, ↓sPick, ↓sNumber, rng_1, rng_2, rng_3, rng_4, rng_6, ↓dKd, dix_0, dix_1, dix_2, dix_3, dix_4, dix_5, dix_6, dix_7, dix_8, dix_9, Bool.not_false, Bool.not_true, Bool.and_true, Bool.true_and, Bool.and_false, Bool.false_and, decide_eq_true_eq, Bool.not_eq_true', decide_eq_false_iff_not, Bool.false_eq_true, if_true, if_false, ↓F0, ↓F1, ↓F2, ↓F3, ↓F4, ↓F5, ↓F6, ↓dParO1, ↓dParO2, ↓dEnumT, ↓oRepr, ↓dUn, ↓oNeg, ↓dSeq, ↓dRet, ↓dRetN, ↓dIf, ↓dAsg, ↓dDrop, ↓dBreak, ↓dCont, ↓dNext, ↓dOwn, ↓dApp, ↓dSetIx, ↓dFrz, frz, ↓dPar, ↓dAug, ↓dFor, ↓dN, ↓dNB, ↓dC, ↓dOp, ↓oI, ↓oI0, ↓oB, ↓oEq, ↓oEqS, eqS, ↓oIsN, isNo, ↓oIx, ↓oIxS, seqOf, ↓oCat, ↓oCatT, ↓oCatS, ↓oIn, ↓oInS, ↓dTb, ↓dAnd, ↓dOr, ↓dNot, ↓dYes, ↓dAndV, ↓dOrV, ↓dNotV, ↓dIfV, ↓dChain, ↓dNil, ↓dCons, ↓dL, ↓dTup, ↓dCB, ↓oAbs, ↓oI2, ↓oLen, ↓oLenS, ↓oInt, ↓oSum, ↓oBs, ↓oTupOf, ↓dSeqOf, ↓dIsi, it_bool_none, it_bool_bool, it_bool_int, it_bool_str, it_bool_list, it_bool_tuple, it_bool_dict, it_int_none, it_int_bool, it_int_int, it_int_str, it_int_list, it_int_tuple, it_int_dict, it_str_none, it_str_bool, it_str_int, it_str_str, it_str_list, it_str_tuple, it_str_dict, it_list_none, it_list_bool, it_list_int, it_list_str, it_list_list, it_list_tuple, it_list_dict, it_tuple_none, it_tuple_bool, it_tuple_int, it_tuple_str, it_tuple_list, it_tuple_tuple, it_tuple_dict, it_dict_none, it_dict_bool, it_dict_int, it_dict_str, it_dict_list, it_dict_tuple, it_dict_dict, ↓dNoP, ↓dPart, ↓dSlT, ↓dSlL, ↓dSlS, ↓dCall, ↓dCallS, ↓dItL, ↓dItT, ↓dItS, ↓dR1, ↓dR2, ↓dZip, ↓dEnum, ↓gN, ↓gNi, ↓gCo, ↓gT, ↓dLc, wipeE, eget, eset, List.set, ev0, List.map_cons, List.map_nil, List.cons_append, List.nil_append, List.replicate_succ, List.replicate_zero, noOwn, isOwn, List.all_cons, List.all_nil, List.length_cons, List.length_nil]
    exact q m g1 g2
  · rintro d rest env N ⟨m, s2, s3, g1, g2, rfl⟩ hN
    simp only [true_and, ↓sTake, ↓sTake0, ↓sPick, ↓sNumber, rng_1, rng_2, rng_3, rng_4, rng_6, ↓dKd, dix_0, dix_1, dix_2, dix_3, dix_4, dix_5, dix_6, dix_7, dix_8, dix_9, Bool.not_false, Bool.not_true, Bool.and_true, Bool.true_and, Bool.and_false, Bool.false_and, decide_eq_true_eq, Bool.not_eq_true', decide_eq_false_iff_not, Bool.false_eq_true, if_true, if_false, ↓F0, ↓F1, ↓F2, ↓F3, ↓F4, ↓F5, ↓F6, ↓dParO1, ↓dParO2, ↓dEnumT, ↓oRepr, ↓dUn, ↓oNeg, ↓dSeq, ↓dRet, ↓dRetN, ↓dIf, ↓dAsg, ↓dDrop, ↓dBreak, ↓dCont, ↓dNext, ↓dOwn, ↓dApp, ↓dSetIx, ↓dFrz, frz, ↓dPar, ↓dAug, ↓dFor, ↓dN, ↓dNB, ↓dC, ↓dOp, ↓oI, ↓oI0, ↓oB, ↓oEq, ↓oEqS, eqS, ↓oIsN, isNo, ↓oIx, ↓oIxS, seqOf, ↓oCat, ↓oCatT, ↓oCatS, ↓oIn, ↓oInS, ↓dTb, ↓dAnd, ↓dOr, ↓dNot, ↓dYes, ↓dAndV, ↓dOrV, ↓dNotV, ↓dIfV, ↓dChain, ↓dNil, ↓dCons, ↓dL, ↓dTup, ↓dCB, ↓oAbs, ↓oI2, ↓oLen, ↓oLenS, ↓oInt, ↓oSum, ↓oBs, ↓oTupOf, ↓dSeqOf, ↓dIsi, it_bool_none, it_bool_bool, it_bool_int, it_bool_str, it_bool_list, it_bool_tuple, it_bool_dict, it_int_none, it_int_bool, it_int_int, it_int_str, it_int_list, it_int_tuple, it_int_dict, it_str_none, it_str_bool, it_str_int, it_str_str, it_str_list, it_str_tuple, it_str_dict, it_list_none, it_list_bool, it_list_int, it_list_str, it_list_list, it_list_tuple, it_list_dict, it_tuple_none, it_tuple_bool, it_tuple_int, it_tuple_str, it_tuple_list, it_tuple_tuple, it_tuple_dict, it_dict_none, it_dict_bool, it_dict_int, it_dict_str, it_dict_list, it_dict_tuple, it_dict_dict, ↓dNoP, ↓dPart, ↓dSlT, ↓dSlL, ↓dSlS, ↓dCall, ↓dCallS, ↓dItL, ↓dItT, ↓dItS, ↓dR1, ↓dR2, ↓dZip, ↓dEnum, ↓gN, ↓gNi, ↓gCo, ↓gT, ↓dLc, wipeE, eget, eset, List.set, ev0, List.map_cons, List.map_nil, List.cons_append, List.nil_append, List.replicate_succ, List.replicate_zero, noOwn, isOwn, List.all_cons, List.all_nil, List.length_cons, List.length_nil]
    refine ⟨by decide, by decide, fun f hf0 hf1 => ?_⟩
    refine dix_ints (ns := [1, 255, 4294967295, 65535, 4294967295, 65535]) hf0 hf1 fun mo hmo => ?_
    have hmo' : 1 ≤ mo ∧ mo ≤ 4294967295 := by simp at hmo; omega
    refine ⟨mo, rfl, hmo'.1, hmo'.2, fun r hr => ⟨f.toNat, ?_, ?_⟩⟩
    · unfold ixN
      rw [if_pos hf0, if_pos (by rw [List.length_map]; omega)]
    · refine hN _ ⟨m.set f.toNat r, _, _, by rw [List.length_set]; exact g1, fun r' hr' => ?_, by rw [List.map_set]⟩
      rcases List.mem_or_eq_of_mem_set hr' with h | h
      · exact g2 r' h
      · rw [h]; exact mono hmo'.2 hr
  · obtain ⟨mo, hmo, rfl⟩ := List.mem_map.mp hr
    have hmo' : 1 ≤ mo ∧ mo ≤ 4294967295 := by simp at hmo; omega
    refine ⟨dj_one _, Nat.le_of_ble_eq_true rfl, fun s hs => ?_⟩
    rw [List.mem_singleton] at hs
    subst hs
    exact ⟨Int.le_refl 0, by show 0 ≤ mo; omega, hmo'.2⟩
/-- the law's tables -/
def FT : List D := [PyData.str "pass", PyData.str "drop", PyData.tuple [.str "source", .str "p"], PyData.str "refuse"]
structure GT (n : Nat) (t : Tb) : Prop where
  len : t.1.length ≤ n
  ru : ∀ u ∈ t.1, (u.1.length = 6 ∧ ∀ r ∈ u.1, GR 4294967295 r) ∧ u.2.1 ∈ FT ∧ Sz u.2.2 1 200
  la : t.2.1 ∈ FT ∧ Sz t.2.2 1 200
theorem ft_sym : ∀ a ∈ FT, ∀ b ∈ FT, PyData.eqv a b = PyData.eqv b a := by decide +kernel
theorem fts : ∀ d ∈ FT, Sz d 1 200 :=
  szc (sS (by decide +kernel)) (szc (sS (by decide +kernel)) (szc (sT (k := 0) (w := 40) (n := 2) (szc (sS (by decide +kernel)) (szc (sS (by decide +kernel)) szn)) (Nat.le_of_ble_eq_true rfl)) (szc (sS (by decide +kernel)) szn)))
theorem nms : ∀ d ∈ [PyData.str "few", PyData.str "once", PyData.str "all"], Sz d 0 40 := szc (sS (by decide +kernel)) (szc (sS (by decide +kernel)) (szc (sS (by decide +kernel)) szn))
theorem nm1 : ∀ d ∈ [PyData.str "few"], Sz d 0 40 := szc (sS (by decide +kernel)) szn
theorem ok_law_table (T : Tx K mg) : FnOk P w K mg base CX0 4 T.ad_law_table T.fd_law_table ["state", "most"] (spS K (F1 fun a Q => ∃ mo : Int, a = .int mo ∧ 0 ≤ mo ∧ mo ≤ 50 ∧ ∀ t, GT mo.toNat t → Q (eT t))) := by
  refine T.d_law_table.F.ok x_law_table (fun vs H Q E h => spS_len F1_len h) (fun cdv A outer s H vs Q E hr h => ?_)
  have nd := x_law_table.nd
  refine ⟨_, (pss_cons (ps_set (i := 2) nd rfl (Or.inl rfl) (pe_lst (pa_cons pe_str (pa_cons pe_str (pa_cons (pe_tup (pa_cons pe_str (pa_cons pe_str pa_nil))) (pa_cons pe_str pa_nil))))))
        (pss_cons (ps_set (i := 3) nd rfl (Or.inl rfl) (pe_lst pa_nil))
        (pss_cons (ps_for PassesOwn.never rfl (pi_range1 (by rfl) T.b_range (pa_cons (pe_call (ok_law_take T) (hr.mono (by decide)) (by rfl) T.d_law_take.g T.d_law_take.F.kp T.d_law_take.b .nil pass0 (pa_cons (pv 0) (pa_cons (pe_op op_add (pv 1) pe_int) pa_nil))) pa_nil)) (pg_name (i := 4) nd rfl (Or.inl rfl)) (pss_cons (ps_set (i := 5) nd rfl (Or.inl rfl) (pe_callTy call_tuple_of (by rfl) T.b_tuple (by decide +kernel) (pa_cons (pe_slice sl_list (pe_lst (pa_cons pe_str (pa_cons pe_str (pa_cons pe_str pa_nil)))) po_none (po_some (pe_call (ok_law_take T) (hr.mono (by decide)) (by rfl) T.d_law_take.g T.d_law_take.F.kp T.d_law_take.b .nil pass0 (pa_cons (pv 0) (pa_cons pe_int pa_nil))))) pa_nil)))
        (pss_one (ps_expr (pe_bm PySem.F.plainAttrs_list PySem.F.slot_list_append PySem.F.type_list_append mt_append (pv 3) (pa_cons (pe_tup (pa_cons (pe_call (ok_law_match T) hr (by rfl) T.d_law_match.g T.d_law_match.F.kp T.d_law_match.b .nil pass0 (pa_cons (pv 0) pa_nil)) (pa_cons (pe_ix ix_seq (pv 2) (pe_call (ok_law_take T) (hr.mono (by decide)) (by rfl) T.d_law_take.g T.d_law_take.F.kp T.d_law_take.b .nil pass0 (pa_cons (pv 0) (pa_cons pe_int pa_nil))) (fun _ _ => rfl)) (pa_cons (pv 5) pa_nil)))) pa_nil))))))
        (pss_one (ps_ret (pe_tup (pa_cons (pe_callTy call_tuple_of (by rfl) T.b_tuple (by decide +kernel) (pa_cons (pv 3) pa_nil)) (pa_cons (pe_tup (pa_cons (pe_ix ix_seq (pv 2) (pe_call (ok_law_take T) (hr.mono (by decide)) (by rfl) T.d_law_take.g T.d_law_take.F.kp T.d_law_take.b .nil pass0 (pa_cons (pv 0) (pa_cons pe_int pa_nil))) (fun _ _ => rfl)) (pa_cons (pe_slice sl_tupA (pe_tup (pa_cons pe_str pa_nil)) po_none (po_some (pe_call (ok_law_take T) (hr.mono (by decide)) (by rfl) T.d_law_take.g T.d_law_take.F.kp T.d_law_take.b .nil pass0 (pa_cons (pv 0) (pa_cons pe_int pa_nil))))) pa_nil))) pa_nil)))))))), fn_state ((rs_seq (rs_asg (RfF.e (rf_lst (raC (rc_str _) (raC (rc_str _) (raC (re_tup (raC (rc_str _) (raC (rc_str _) raN))) (raC (rc_str _) raN)))))) (rg_name 2))
        (rs_seq (rs_own 3 (rf_lst raN))
        (rs_seq (rs_for (ri_r1 (rbC (RfE.b (re_callS (raC (ro rv_add (RfE.b (rn 1)) (RfE.b (rc_int _))) raN))) rbN)) (rg_name 4) (rs_seq (rs_asg (re_cb ro_tupOf (rbC (RfE.b (RfF.e (rf_slL (RfE.b (RfF.e (rf_lst (raC (rc_str _) (raC (rc_str _) (raC (rc_str _) raN)))))) rp_no (rp_some (re_callS (raC (rc_int _) raN)))))) rbN)) (rg_name 5))
        (rs_app 3 (re_tup (raC (re_callS raN) (raC (ro rv_ix (RfE.b (rn 2)) (RfE.b (re_callS (raC (rc_int _) raN)))) (raC (rn 5) raN)))))))
        (rs_ret (re_tup (raC (re_cb ro_tupOf (rbC (rnb 3) rbN)) (raC (re_tup (raC (ro rv_ix (RfE.b (rn 2)) (RfE.b (re_callS (raC (rc_int _) raN)))) (raC (re_slT (RfE.b (re_tup (raC (rc_str _) raN))) rp_no (rp_some (re_callS (raC (rc_int _) raN)))) raN))) raN)))))))) h (by rw [spS_len F1_len h]; decide) (F1_in fun a0 Qd q => ?_)⟩
  obtain ⟨mo, rfl, h1, h2, q⟩ := q
  simp only [true_and, ↓sTake, ↓sTake0, ↓sPick, ↓sNumber, rng_1, rng_2, rng_3, rng_4, rng_6, ↓dKd, dix_0, dix_1, dix_2, dix_3, dix_4, dix_5, dix_6, dix_7, dix_8, dix_9, Bool.not_false, Bool.not_true, Bool.and_true, Bool.true_and, Bool.and_false, Bool.false_and, decide_eq_true_eq, Bool.not_eq_true', decide_eq_false_iff_not, Bool.false_eq_true, if_true, if_false, ↓F0, ↓F1, ↓F2, ↓F3, ↓F4, ↓F5, ↓F6, ↓dParO1, ↓dParO2, ↓dEnumT, ↓oRepr, ↓dUn, ↓oNeg, ↓dSeq, ↓dRet, ↓dRetN, ↓dIf, ↓dAsg, ↓dDrop, ↓dBreak, ↓dCont, ↓dNext, ↓dOwn, ↓dApp, ↓dSetIx, ↓dFrz, frz, ↓dPar, ↓dAug, ↓dFor, ↓dN, ↓dNB, ↓dC, ↓dOp, ↓oI, ↓oI0, ↓oB, ↓oEq, ↓oEqS, eqS, ↓oIsN, isNo, ↓oIx, ↓oIxS, seqOf, ↓oCat, ↓oCatT, ↓oCatS, ↓oIn, ↓oInS, ↓dTb, ↓dAnd, ↓dOr, ↓dNot, ↓dYes, ↓dAndV, ↓dOrV, ↓dNotV, ↓dIfV, ↓dChain, ↓dNil, ↓dCons, ↓dL, ↓dTup, ↓dCB, ↓oAbs, ↓oI2, ↓oLen, ↓oLenS, ↓oInt, ↓oSum, ↓oBs, ↓oTupOf, ↓dSeqOf, ↓dIsi, it_bool_none, it_bool_bool, it_bool_int, it_bool_str, it_bool_list, it_bool_tuple, it_bool_dict, it_int_none, it_int_bool, it_int_int, it_int_str, it_int_list, it_int_tuple, it_int_dict, it_str_none, it_str_bool, it_str_int, it_str_str, it_str_list, it_str_tuple, it_str_dict, it_list_none, it_list_bool, it_list_int, it_list_str, it_list_list, it_list_tuple, it_list_dict, it_tuple_none, it_tuple_bool, it_tuple_int, it_tuple_str, it_tuple_list, it_tuple_tuple, it_tuple_dict, it_dict_none, it_dict_bool, it_dict_int, it_dict_str, it_dict_list, it_dict_tuple, it_dict_dict, ↓dNoP, ↓dPart, ↓dSlT, ↓dSlL, ↓dSlS, ↓dCall, ↓dCallS, ↓dItL, ↓dItT, ↓dItS, ↓dR1, ↓dR2, ↓dZip, ↓dEnum, ↓gN, ↓gNi, ↓gCo, ↓gT, ↓dLc, wipeE, eget, eset, List.set, ev0, List.map_cons, List.map_nil, List.cons_append, List.nil_append, List.replicate_succ, List.replicate_zero, noOwn, isOwn, List.all_cons, List.all_nil, List.length_cons, List.length_nil]
  refine ⟨by decide, by omega, by omega, fun n hn0 hn1 => ⟨by omega, by omega, ?_⟩⟩
  refine loop_by (fun rest env => ∃ (us : List Rule) (s4 s5 : Option En), us.length + rest.length ≤ mo.toNat ∧ (∀ u ∈ us, (u.1.length = 6 ∧ ∀ r ∈ u.1, GR 4294967295 r) ∧ u.2.1 ∈ FT ∧ Sz u.2.2 1 200) ∧ env = [some .st, some (.d (.int mo)), some (.d (.list [PyData.str "pass", PyData.str "drop", PyData.tuple [.str "source", .str "p"], PyData.str "refuse"])), some (.own (us.map eRu)), s4, s5]) ?_ ?_ _ _ ⟨[], none, none, by rw [rng_len]; show 0 + _ ≤ _; omega, (fun s hs => nomatch hs), rfl⟩
  · rintro env ⟨us, s4, s5, g1, g2, rfl⟩
    simp only [true_and, ↓sTake, ↓sTake0, ↓sPick, ↓sNumber, rng_1, rng_2, rng_3, rng_4, rng_6, ↓dKd, dix_0, dix_1, dix_2, dix_3, dix_4, dix_5, dix_6, dix_7, dix_8, dix_9, Bool.not_false, Bool.not_true, Bool.and_true, Bool.true_and, Bool.and_false, Bool.false_and, decide_eq_true_eq, Bool.not_eq_true', decide_eq_false_iff_not, Bool.false_eq_true, if_true, if_false, ↓F0, ↓F1, ↓F2, ↓F3, ↓F4, ↓F5, ↓F6, ↓dParO1, ↓dParO2, ↓dEnumT, ↓oRepr, ↓dUn, ↓oNeg, ↓dSeq, ↓dRet, ↓dRetN, ↓dIf, ↓dAsg, ↓dDrop, ↓dBreak, ↓dCont, ↓dNext, ↓dOwn, ↓dApp, ↓dSetIx, ↓dFrz, frz, ↓dPar, ↓dAug, ↓dFor, ↓dN, ↓dNB, ↓dC, ↓dOp, ↓oI, ↓oI0, ↓oB, ↓oEq, ↓oEqS, eqS, ↓oIsN, isNo, ↓oIx, ↓oIxS, seqOf, ↓oCat, ↓oCatT, ↓oCatS, ↓oIn, ↓oInS, ↓dTb, ↓dAnd, ↓dOr, ↓dNot, ↓dYes, ↓dAndV, ↓dOrV, ↓dNotV, ↓dIfV, ↓dChain, ↓dNil, ↓dCons, ↓dL, ↓dTup, ↓dCB, ↓oAbs, ↓oI2, ↓oLen, ↓oLenS, ↓oInt, ↓oSum, ↓oBs, ↓oTupOf, ↓dSeqOf, ↓dIsi, it_bool_none, it_bool_bool, it_bool_int, it_bool_str, it_bool_list, it_bool_tuple, it_bool_dict, it_int_none, it_int_bool, it_int_int, it_int_str, it_int_list, it_int_tuple, it_int_dict, it_str_none, it_str_bool, it_str_int, it_str_str, it_str_list, it_str_tuple, it_str_dict, it_list_none, it_list_bool, it_list_int, it_list_str, it_list_list, it_list_tuple, it_list_dict, it_tuple_none, it_tuple_bool, it_tuple_int, it_tuple_str, it_tuple_list, it_tuple_tuple, it_tuple_dict, it_dict_none, it_dict_bool, it_dict_int, it_dict_str, it_dict_list, it_dict_tuple, it_dict_dict, ↓dNoP, ↓dPart, ↓dSlT, ↓dSlL, ↓dSlS, ↓dCall, ↓dCallS, ↓dItL, ↓dItT, ↓dItS, ↓dR1, ↓dR2, ↓dZip, ↓dEnum, ↓gN, ↓gNi, ↓gCo, ↓gT, ↓dLc, wipeE, eget, eset, List.set, ev0, List.map_cons, List.map_nil, List.cons_append, List.nil_append, List.replicate_succ, List.replicate_zero, noOwn, isOwn, List.all_cons, List.all_nil, List.length_cons, List.length_nil]
    refine ⟨by decide, by decide, fun r hr0 hr1 => dix_all hr0 hr1 fun d hd => ⟨by decide, by decide, fun x hx0 hx1 => ?_⟩⟩
    rw [cut_lo _ hx0]
    refine q (us, d, .tuple ([PyData.str "few"].take x.toNat)) ⟨by show us.length ≤ _; rw [List.length_nil] at g1; omega, g2, hd, ?_⟩
    exact sT (k := 0) (w := 40) (n := 1) (fun d hd => nm1 d (List.mem_of_mem_take hd)) (Nat.le_trans (List.length_take_le _ _) (by omega))
  · rintro d rest env N ⟨us, s4, s5, g1, g2, rfl⟩ hN
    rw [List.length_cons] at g1
    simp only [true_and, ↓sTake, ↓sTake0, ↓sPick, ↓sNumber, rng_1, rng_2, rng_3, rng_4, rng_6, ↓dKd, dix_0, dix_1, dix_2, dix_3, dix_4, dix_5, dix_6, dix_7, dix_8, dix_9, Bool.not_false, Bool.not_true, Bool.and_true, Bool.true_and, Bool.and_false, Bool.false_and, decide_eq_true_eq, Bool.not_eq_true', decide_eq_false_iff_not, Bool.false_eq_true, if_true, if_false, ↓F0, ↓F1, ↓F2, ↓F3, ↓F4, ↓F5, ↓F6, ↓dParO1, ↓dParO2, ↓dEnumT, ↓oRepr, ↓dUn, ↓oNeg, ↓dSeq, ↓dRet, ↓dRetN, ↓dIf, ↓dAsg, ↓dDrop, ↓dBreak, ↓dCont, ↓dNext, ↓dOwn, ↓dApp, ↓dSetIx, ↓dFrz, frz, ↓dPar, ↓dAug, ↓dFor, ↓dN, ↓dNB, ↓dC, ↓dOp, ↓oI, ↓oI0, ↓oB, ↓oEq, ↓oEqS, eqS, ↓oIsN, isNo, ↓oIx, ↓oIxS, seqOf, ↓oCat, ↓oCatT, ↓oCatS, ↓oIn, ↓oInS, ↓dTb, ↓dAnd, ↓dOr, ↓dNot, ↓dYes, ↓dAndV, ↓dOrV, ↓dNotV, ↓dIfV, ↓dChain, ↓dNil, ↓dCons, ↓dL, ↓dTup, ↓dCB, ↓oAbs, ↓oI2, ↓oLen, ↓oLenS, ↓oInt, ↓oSum, ↓oBs, ↓oTupOf, ↓dSeqOf, ↓dIsi, it_bool_none, it_bool_bool, it_bool_int, it_bool_str, it_bool_list, it_bool_tuple, it_bool_dict, it_int_none, it_int_bool, it_int_int, it_int_str, it_int_list, it_int_tuple, it_int_dict, it_str_none, it_str_bool, it_str_int, it_str_str, it_str_list, it_str_tuple, it_str_dict, it_list_none, it_list_bool, it_list_int, it_list_str, it_list_list, it_list_tuple, it_list_dict, it_tuple_none, it_tuple_bool, it_tuple_int, it_tuple_str, it_tuple_list, it_tuple_tuple, it_tuple_dict, it_dict_none, it_dict_bool, it_dict_int, it_dict_str, it_dict_list, it_dict_tuple, it_dict_dict, ↓dNoP, ↓dPart, ↓dSlT, ↓dSlL, ↓dSlS, ↓dCall, ↓dCallS, ↓dItL, ↓dItT, ↓dItS, ↓dR1, ↓dR2, ↓dZip, ↓dEnum, ↓gN, ↓gNi, ↓gCo, ↓gT, ↓dLc, wipeE, eget, eset, List.set, ev0, List.map_cons, List.map_nil, List.cons_append, List.nil_append, List.replicate_succ, List.replicate_zero, noOwn, isOwn, List.all_cons, List.all_nil, List.length_cons, List.length_nil]
    refine ⟨by decide, by decide, fun x hx0 hx1 m hm1 hm2 => ?_⟩
    rw [cut_lo _ hx0]
    refine ⟨by decide, by decide, fun r hr0 hr1 => dix_all hr0 hr1 fun f hf => ?_⟩
    refine ⟨by rw [List.length_map]; omega, ?_⟩
    refine hN _ ⟨us ++ [(m, f, .tuple ([PyData.str "few", PyData.str "once", PyData.str "all"].take x.toNat))], _, _, by rw [List.length_append, List.length_singleton]; omega, fun u hu => ?_, by rw [List.map_append]; rfl⟩
    rcases List.mem_append.mp hu with h | h
    · exact g2 u h
    · rw [List.mem_singleton] at h
      subst h
      exact ⟨⟨hm1, hm2⟩, hf, sT (k := 0) (w := 40) (n := 3) (fun d hd => nms d (List.mem_of_mem_take hd)) (Nat.le_trans (List.length_take_le' _ _) (Nat.le_of_ble_eq_true rfl))⟩
end
section
variable {P : Program} {w : World} {K : PySem.W.Frag} {mg : Str → Option Value} {base : Heap}
def GB (b : Row) : Prop := b.length = 6 ∧ ∀ p ∈ b, 0 ≤ p.1 ∧ p.1 ≤ p.2 ∧ p.2 ≤ 4294967295
def Bn (ns : List Int) : Prop := ∀ n ∈ ns, 0 ≤ n ∧ n ≤ 4294967295
theorem ok_law_corners (T : Tx K mg) : FnOk P w K mg base CX0 2 T.ad_law_corners T.fd_law_corners ["state", "table"] (spS K (F1 fun a Q => ∃ t, a = eT t ∧ GT 8 t ∧ ∀ b, GB b → Q (eB b))) := by
  refine T.d_law_corners.F.ok x_law_corners (fun vs H Q E h => spS_len F1_len h) (fun cdv A outer s H vs Q E hr h => ?_)
  have nd := x_law_corners.nd
  refine ⟨_, (pss_cons (ps_set (i := 2) nd rfl (Or.inl rfl) (pe_lst pa_nil))
        (pss_cons (ps_for PassesOwn.never rfl (pi_range1 (by rfl) T.b_range (pa_cons pe_int pa_nil)) (pg_name (i := 3) nd rfl (Or.inl rfl)) (pss_cons (ps_set (i := 4) nd rfl (Or.inl rfl) (pe_ix ix_seq (pe_tup (pa_cons pe_int (pa_cons pe_int (pa_cons pe_int (pa_cons pe_int (pa_cons pe_int (pa_cons pe_int pa_nil))))))) (pv 3) (fun _ _ => rfl)))
        (pss_cons (ps_set (i := 5) nd rfl (Or.inl rfl) (pe_lst (pa_cons pe_int (pa_cons (pv 4) pa_nil))))
        (pss_cons (ps_for PassesOwn.never rfl (pi_tup (pe_ix ix_seq (pv 1) pe_int (fun _ _ => rfl))) (pg_tup (n := 3) rfl (pgs_cons (pg_name (i := 6) nd rfl (Or.inl rfl)) (pgs_cons (pg_name (i := 7) nd rfl (Or.inl rfl)) (pgs_cons (pg_name (i := 8) nd rfl (Or.inl rfl)) pgs_nil)))) (pss_one (ps_for PassesOwn.never rfl (pi_tup (pe_ix ix_seq (pv 6) (pv 3) (fun _ _ => rfl))) (pg_tup (n := 2) rfl (pgs_cons (pg_name (i := 9) nd rfl (Or.inl rfl)) (pgs_cons (pg_name (i := 10) nd rfl (Or.inl rfl)) pgs_nil))) (pss_one (ps_set (i := 5) nd rfl (Or.inl rfl) (pe_op op_cat (pv 5) (pe_lst (pa_cons (pv 9) (pa_cons (pv 10) (pa_cons (pe_callB (call_max2 rfl) (by rfl) T.b_max (by decide +kernel) (pa_cons pe_int (pa_cons (pe_op op_sub (pv 9) pe_int) pa_nil))) (pa_cons (pe_callB (call_min2 rfl) (by rfl) T.b_min (by decide +kernel) (pa_cons (pv 4) (pa_cons (pe_op op_add (pv 10) pe_int) pa_nil))) pa_nil)))))))))))
        (pss_cons (ps_par (i := 11) (j := 12) (by rfl) nd rfl rfl (by decide) rfl rfl (pa_cons (pe_ix ix_seq (pv 5) (pe_call (ok_law_take T) hr (by rfl) T.d_law_take.g T.d_law_take.F.kp T.d_law_take.b .nil pass0 (pa_cons (pv 0) (pa_cons (pe_callB call_len_seq (by rfl) T.b_len (by decide +kernel) (pa_cons (pv 5) pa_nil)) pa_nil))) (fun _ _ => rfl)) (pa_cons (pe_ix ix_seq (pv 5) (pe_call (ok_law_take T) hr (by rfl) T.d_law_take.g T.d_law_take.F.kp T.d_law_take.b .nil pass0 (pa_cons (pv 0) (pa_cons (pe_callB call_len_seq (by rfl) T.b_len (by decide +kernel) (pa_cons (pv 5) pa_nil)) pa_nil))) (fun _ _ => rfl)) pa_nil)) (by rfl))
        (pss_one (ps_expr (pe_bm PySem.F.plainAttrs_list PySem.F.slot_list_append PySem.F.type_list_append mt_append (pv 2) (pa_cons (pe_ix ix_seq (pe_lst (pa_cons (pe_tup (pa_cons pe_int (pa_cons (pv 4) pa_nil))) (pa_cons (pe_tup (pa_cons (pe_callB (call_min2 rfl) (by rfl) T.b_min (by decide +kernel) (pa_cons (pv 11) (pa_cons (pv 12) pa_nil))) (pa_cons (pe_callB (call_max2 rfl) (by rfl) T.b_max (by decide +kernel) (pa_cons (pv 11) (pa_cons (pv 12) pa_nil))) pa_nil))) (pa_cons (pe_tup (pa_cons (pv 11) (pa_cons (pv 11) pa_nil))) pa_nil)))) (pe_call (ok_law_take T) hr (by rfl) T.d_law_take.g T.d_law_take.F.kp T.d_law_take.b .nil pass0 (pa_cons (pv 0) (pa_cons pe_int pa_nil))) (fun _ _ => rfl)) pa_nil)))))))))
        (pss_one (ps_ret (pe_callTy call_tuple_of (by rfl) T.b_tuple (by decide +kernel) (pa_cons (pv 2) pa_nil)))))), fn_state ((rs_seq (rs_own 2 (rf_lst raN))
        (rs_seq (rs_for (ri_r1 (rbC (RfE.b (rc_int _)) rbN)) (rg_name 3) (rs_seq (rs_asg (ro rv_ix (RfE.b (re_tup (raC (rc_int _) (raC (rc_int _) (raC (rc_int _) (raC (rc_int _) (raC (rc_int _) (raC (rc_int _) raN)))))))) (RfE.b (rn 3))) (rg_name 4))
        (rs_seq (rs_asg (RfF.e (rf_lst (raC (rc_int _) (raC (rn 4) raN)))) (rg_name 5))
        (rs_seq (rs_for (ri_tup (ro rv_ix (RfE.b (rn 1)) (RfE.b (rc_int _)))) (rg_tup (rg_cons (rg_name 6) (rg_cons (rg_name 7) (rg_cons (rg_name 8) rg_nil)))) (rs_for (ri_tup (ro rv_ix (RfE.b (rn 6)) (RfE.b (rn 3)))) (rg_tup (rg_cons (rg_name 9) (rg_cons (rg_name 10) rg_nil))) (rs_asg (ro rv_cat (RfE.b (rn 5)) (RfE.b (RfF.e (rf_lst (raC (rn 9) (raC (rn 10) (raC (re_cb ro_max (rbC (RfE.b (rc_int _)) (rbC (RfE.b (ro rv_sub (RfE.b (rn 9)) (RfE.b (rc_int _)))) rbN))) (raC (re_cb ro_min (rbC (RfE.b (rn 4)) (rbC (RfE.b (ro rv_add (RfE.b (rn 10)) (RfE.b (rc_int _)))) rbN))) raN)))))))) (rg_name 5))))
        (rs_seq (rs_par 11 12 (raC (ro rv_ix (RfE.b (rn 5)) (RfE.b (re_callS (raC (re_cb ro_len (rbC (RfE.b (rn 5)) rbN)) raN)))) (raC (ro rv_ix (RfE.b (rn 5)) (RfE.b (re_callS (raC (re_cb ro_len (rbC (RfE.b (rn 5)) rbN)) raN)))) raN)))
        (rs_app 2 (ro rv_ix (RfE.b (RfF.e (rf_lst (raC (re_tup (raC (rc_int _) (raC (rn 4) raN))) (raC (re_tup (raC (re_cb ro_min (rbC (RfE.b (rn 11)) (rbC (RfE.b (rn 12)) rbN))) (raC (re_cb ro_max (rbC (RfE.b (rn 11)) (rbC (RfE.b (rn 12)) rbN))) raN))) (raC (re_tup (raC (rn 11) (raC (rn 11) raN))) raN)))))) (RfE.b (re_callS (raC (rc_int _) raN))))))))))
        (rs_ret (re_cb ro_tupOf (rbC (rnb 2) rbN)))))) h (by rw [spS_len F1_len h]; decide) (F1_in fun a0 Qd q => ?_)⟩
  obtain ⟨t, rfl, gt, q⟩ := q
  simp only [true_and, ↓sTake, ↓sTake0, ↓sPick, ↓sNumber, rng_1, rng_2, rng_3, rng_4, rng_6, ↓dKd, dix_0, dix_1, dix_2, dix_3, dix_4, dix_5, dix_6, dix_7, dix_8, dix_9, Bool.not_false, Bool.not_true, Bool.and_true, Bool.true_and, Bool.and_false, Bool.false_and, decide_eq_true_eq, Bool.not_eq_true', decide_eq_false_iff_not, Bool.false_eq_true, if_true, if_false, ↓F0, ↓F1, ↓F2, ↓F3, ↓F4, ↓F5, ↓F6, ↓dParO1, ↓dParO2, ↓dEnumT, ↓oRepr, ↓dUn, ↓oNeg, ↓dSeq, ↓dRet, ↓dRetN, ↓dIf, ↓dAsg, ↓dDrop, ↓dBreak, ↓dCont, ↓dNext, ↓dOwn, ↓dApp, ↓dSetIx, ↓dFrz, frz, ↓dPar, ↓dAug, ↓dFor, ↓dN, ↓dNB, ↓dC, ↓dOp, ↓oI, ↓oI0, ↓oB, ↓oEq, ↓oEqS, eqS, ↓oIsN, isNo, ↓oIx, ↓oIxS, seqOf, ↓oCat, ↓oCatT, ↓oCatS, ↓oIn, ↓oInS, ↓dTb, ↓dAnd, ↓dOr, ↓dNot, ↓dYes, ↓dAndV, ↓dOrV, ↓dNotV, ↓dIfV, ↓dChain, ↓dNil, ↓dCons, ↓dL, ↓dTup, ↓dCB, ↓oAbs, ↓oI2, ↓oLen, ↓oLenS, ↓oInt, ↓oSum, ↓oBs, ↓oTupOf, ↓dSeqOf, ↓dIsi, it_bool_none, it_bool_bool, it_bool_int, it_bool_str, it_bool_list, it_bool_tuple, it_bool_dict, it_int_none, it_int_bool, it_int_int, it_int_str, it_int_list, it_int_tuple, it_int_dict, it_str_none, it_str_bool, it_str_int, it_str_str, it_str_list, it_str_tuple, it_str_dict, it_list_none, it_list_bool, it_list_int, it_list_str, it_list_list, it_list_tuple, it_list_dict, it_tuple_none, it_tuple_bool, it_tuple_int, it_tuple_str, it_tuple_list, it_tuple_tuple, it_tuple_dict, it_dict_none, it_dict_bool, it_dict_int, it_dict_str, it_dict_list, it_dict_tuple, it_dict_dict, ↓dNoP, ↓dPart, ↓dSlT, ↓dSlL, ↓dSlS, ↓dCall, ↓dCallS, ↓dItL, ↓dItT, ↓dItS, ↓dR1, ↓dR2, ↓dZip, ↓dEnum, ↓gN, ↓gNi, ↓gCo, ↓gT, ↓dLc, wipeE, eget, eset, List.set, ev0, List.map_cons, List.map_nil, List.cons_append, List.nil_append, List.replicate_succ, List.replicate_zero, noOwn, isOwn, List.all_cons, List.all_nil, List.length_cons, List.length_nil]
  refine ⟨by decide, by decide, by decide, ?_⟩
  rw [ix6_0]
  refine loop_by (fun rest env => ∃ (i : Nat) (bx : Row) (s3 s4 s5 s6 s7 s8 s9 s10 s11 s12 : Option En), i ≤ 6 ∧ rest = ix6 i ∧ bx.length = i ∧ (∀ p ∈ bx, 0 ≤ p.1 ∧ p.1 ≤ p.2 ∧ p.2 ≤ 4294967295) ∧ env = [some .st, some (.d (eT t)), some (.own (bx.map eR)), s3, s4, s5, s6, s7, s8, s9, s10, s11, s12]) ?_ ?_ _ _ ⟨0, [], none, none, none, none, none, none, none, none, none, none, Nat.zero_le _, rfl, rfl, (fun p hp => nomatch hp), rfl⟩
  · rintro env ⟨i, bx, s3, s4, s5, s6, s7, s8, s9, s10, s11, s12, hi, h1, h2, h3, rfl⟩
    obtain rfl := ix6_nil hi h1
    simp only [true_and, ↓sTake, ↓sTake0, ↓sPick, ↓sNumber, rng_1, rng_2, rng_3, rng_4, rng_6, ↓dKd, dix_0, dix_1, dix_2, dix_3, dix_4, dix_5, dix_6, dix_7, dix_8, dix_9, Bool.not_false, Bool.not_true, Bool.and_true, Bool.true_and, Bool.and_false, Bool.false_and, decide_eq_true_eq, Bool.not_eq_true', decide_eq_false_iff_not, Bool.false_eq_true, if_true, if_false, ↓F0, ↓F1, ↓F2, ↓F3, ↓F4, ↓F5, ↓F6, ↓dParO1, ↓dParO2, ↓dEnumT, ↓oRepr, ↓dUn, ↓oNeg, ↓dSeq, ↓dRet, ↓dRetN, ↓dIf, ↓dAsg, ↓dDrop, ↓dBreak, ↓dCont, ↓dNext, ↓dOwn, ↓dApp, ↓dSetIx, ↓dFrz, frz, ↓dPar, ↓dAug, ↓dFor, ↓dN, ↓dNB, ↓dC, ↓dOp, ↓oI, ↓oI0, ↓oB, ↓oEq, ↓oEqS, eqS, ↓oIsN, isNo, ↓oIx, ↓oIxS, seqOf, ↓oCat, ↓oCatT, ↓oCatS, ↓oIn, ↓oInS, ↓dTb, ↓dAnd, ↓dOr, ↓dNot, ↓dYes, ↓dAndV, ↓dOrV, ↓dNotV, ↓dIfV, ↓dChain, ↓dNil, ↓dCons, ↓dL, ↓dTup, ↓dCB, ↓oAbs, ↓oI2, ↓oLen, ↓oLenS, ↓oInt, ↓oSum, ↓oBs, ↓oTupOf, ↓dSeqOf, ↓dIsi, it_bool_none, it_bool_bool, it_bool_int, it_bool_str, it_bool_list, it_bool_tuple, it_bool_dict, it_int_none, it_int_bool, it_int_int, it_int_str, it_int_list, it_int_tuple, it_int_dict, it_str_none, it_str_bool, it_str_int, it_str_str, it_str_list, it_str_tuple, it_str_dict, it_list_none, it_list_bool, it_list_int, it_list_str, it_list_list, it_list_tuple, it_list_dict, it_tuple_none, it_tuple_bool, it_tuple_int, it_tuple_str, it_tuple_list, it_tuple_tuple, it_tuple_dict, it_dict_none, it_dict_bool, it_dict_int, it_dict_str, it_dict_list, it_dict_tuple, it_dict_dict, ↓dNoP, ↓dPart, ↓dSlT, ↓dSlL, ↓dSlS, ↓dCall, ↓dCallS, ↓dItL, ↓dItT, ↓dItS, ↓dR1, ↓dR2, ↓dZip, ↓dEnum, ↓gN, ↓gNi, ↓gCo, ↓gT, ↓dLc, wipeE, eget, eset, List.set, ev0, List.map_cons, List.map_nil, List.cons_append, List.nil_append, List.replicate_succ, List.replicate_zero, noOwn, isOwn, List.all_cons, List.all_nil, List.length_cons, List.length_nil]
    exact q bx ⟨h2, h3⟩
  · rintro d rest env N ⟨i, bx, s3, s4, s5, s6, s7, s8, s9, s10, s11, s12, hi, h1, h2, h3, rfl⟩ hN
    obtain ⟨h6, rfl, rfl⟩ := ix6_cons h1
    simp only [eT, true_and, ↓sTake, ↓sTake0, ↓sPick, ↓sNumber, rng_1, rng_2, rng_3, rng_4, rng_6, ↓dKd, dix_0, dix_1, dix_2, dix_3, dix_4, dix_5, dix_6, dix_7, dix_8, dix_9, Bool.not_false, Bool.not_true, Bool.and_true, Bool.true_and, Bool.and_false, Bool.false_and, decide_eq_true_eq, Bool.not_eq_true', decide_eq_false_iff_not, Bool.false_eq_true, if_true, if_false, ↓F0, ↓F1, ↓F2, ↓F3, ↓F4, ↓F5, ↓F6, ↓dParO1, ↓dParO2, ↓dEnumT, ↓oRepr, ↓dUn, ↓oNeg, ↓dSeq, ↓dRet, ↓dRetN, ↓dIf, ↓dAsg, ↓dDrop, ↓dBreak, ↓dCont, ↓dNext, ↓dOwn, ↓dApp, ↓dSetIx, ↓dFrz, frz, ↓dPar, ↓dAug, ↓dFor, ↓dN, ↓dNB, ↓dC, ↓dOp, ↓oI, ↓oI0, ↓oB, ↓oEq, ↓oEqS, eqS, ↓oIsN, isNo, ↓oIx, ↓oIxS, seqOf, ↓oCat, ↓oCatT, ↓oCatS, ↓oIn, ↓oInS, ↓dTb, ↓dAnd, ↓dOr, ↓dNot, ↓dYes, ↓dAndV, ↓dOrV, ↓dNotV, ↓dIfV, ↓dChain, ↓dNil, ↓dCons, ↓dL, ↓dTup, ↓dCB, ↓oAbs, ↓oI2, ↓oLen, ↓oLenS, ↓oInt, ↓oSum, ↓oBs, ↓oTupOf, ↓dSeqOf, ↓dIsi, it_bool_none, it_bool_bool, it_bool_int, it_bool_str, it_bool_list, it_bool_tuple, it_bool_dict, it_int_none, it_int_bool, it_int_int, it_int_str, it_int_list, it_int_tuple, it_int_dict, it_str_none, it_str_bool, it_str_int, it_str_str, it_str_list, it_str_tuple, it_str_dict, it_list_none, it_list_bool, it_list_int, it_list_str, it_list_list, it_list_tuple, it_list_dict, it_tuple_none, it_tuple_bool, it_tuple_int, it_tuple_str, it_tuple_list, it_tuple_tuple, it_tuple_dict, it_dict_none, it_dict_bool, it_dict_int, it_dict_str, it_dict_list, it_dict_tuple, it_dict_dict, ↓dNoP, ↓dPart, ↓dSlT, ↓dSlL, ↓dSlS, ↓dCall, ↓dCallS, ↓dItL, ↓dItT, ↓dItS, ↓dR1, ↓dR2, ↓dZip, ↓dEnum, ↓gN, ↓gNi, ↓gCo, ↓gT, ↓dLc, wipeE, eget, eset, List.set, ev0, List.map_cons, List.map_nil, List.cons_append, List.nil_append, List.replicate_succ, List.replicate_zero, noOwn, isOwn, List.all_cons, List.all_nil, List.length_cons, List.length_nil]
    refine dix_ints (ns := [1, 255, 4294967295, 65535, 4294967295, 65535]) (by omega) (by show (i : Int) < 6; omega) fun mo hmo => ?_
    have hmo' : 1 ≤ mo ∧ mo ≤ 4294967295 := by simp at hmo; omega
    refine loop_by (fun rest env => ∃ (us : List Rule) (ns : List Int) (s6 s7 s8 s9 s10 : Option En), rest = us.map eRu ∧ (∀ u ∈ us, u ∈ t.1) ∧ us.length ≤ 8 ∧ 0 < ns.length ∧ ns.length + 40 * us.length ≤ 322 ∧ Bn ns ∧ env = [some .st, some (.d (.tuple [.tuple (t.1.map eRu), .tuple [t.2.1, t.2.2]])), some (.own (bx.map eR)), some (.d (.int (i : Nat))), some (.d (.int mo)), some (.d (.list (ns.map PyData.int))), s6, s7, s8, s9, s10, s11, s12]) ?_ ?_ _ _ ⟨t.1, [0, mo], _, _, _, _, _, rfl, fun _ h => h, gt.len, by show 0 < 2; decide, by show 2 + _ ≤ _; have := gt.len; omega, fun n hn => ?_, rfl⟩
    · rintro env ⟨us, ns, s6, s7, s8, s9, s10, g1, g2, g3, g4, g5, g6, rfl⟩
      simp only [true_and, ↓sTake, ↓sTake0, ↓sPick, ↓sNumber, rng_1, rng_2, rng_3, rng_4, rng_6, ↓dKd, dix_0, dix_1, dix_2, dix_3, dix_4, dix_5, dix_6, dix_7, dix_8, dix_9, Bool.not_false, Bool.not_true, Bool.and_true, Bool.true_and, Bool.and_false, Bool.false_and, decide_eq_true_eq, Bool.not_eq_true', decide_eq_false_iff_not, Bool.false_eq_true, if_true, if_false, ↓F0, ↓F1, ↓F2, ↓F3, ↓F4, ↓F5, ↓F6, ↓dParO1, ↓dParO2, ↓dEnumT, ↓oRepr, ↓dUn, ↓oNeg, ↓dSeq, ↓dRet, ↓dRetN, ↓dIf, ↓dAsg, ↓dDrop, ↓dBreak, ↓dCont, ↓dNext, ↓dOwn, ↓dApp, ↓dSetIx, ↓dFrz, frz, ↓dPar, ↓dAug, ↓dFor, ↓dN, ↓dNB, ↓dC, ↓dOp, ↓oI, ↓oI0, ↓oB, ↓oEq, ↓oEqS, eqS, ↓oIsN, isNo, ↓oIx, ↓oIxS, seqOf, ↓oCat, ↓oCatT, ↓oCatS, ↓oIn, ↓oInS, ↓dTb, ↓dAnd, ↓dOr, ↓dNot, ↓dYes, ↓dAndV, ↓dOrV, ↓dNotV, ↓dIfV, ↓dChain, ↓dNil, ↓dCons, ↓dL, ↓dTup, ↓dCB, ↓oAbs, ↓oI2, ↓oLen, ↓oLenS, ↓oInt, ↓oSum, ↓oBs, ↓oTupOf, ↓dSeqOf, ↓dIsi, it_bool_none, it_bool_bool, it_bool_int, it_bool_str, it_bool_list, it_bool_tuple, it_bool_dict, it_int_none, it_int_bool, it_int_int, it_int_str, it_int_list, it_int_tuple, it_int_dict, it_str_none, it_str_bool, it_str_int, it_str_str, it_str_list, it_str_tuple, it_str_dict, it_list_none, it_list_bool, it_list_int, it_list_str, it_list_list, it_list_tuple, it_list_dict, it_tuple_none, it_tuple_bool, it_tuple_int, it_tuple_str, it_tuple_list, it_tuple_tuple, it_tuple_dict, it_dict_none, it_dict_bool, it_dict_int, it_dict_str, it_dict_list, it_dict_tuple, it_dict_dict, ↓dNoP, ↓dPart, ↓dSlT, ↓dSlL, ↓dSlS, ↓dCall, ↓dCallS, ↓dItL, ↓dItT, ↓dItS, ↓dR1, ↓dR2, ↓dZip, ↓dEnum, ↓gN, ↓gNi, ↓gCo, ↓gT, ↓dLc, wipeE, eget, eset, List.set, ev0, List.map_cons, List.map_nil, List.cons_append, List.nil_append, List.replicate_succ, List.replicate_zero, noOwn, isOwn, List.all_cons, List.all_nil, List.length_cons, List.length_nil, List.length_map]
      refine ⟨by omega, by omega, fun r hr0 hr1 => dix_ints hr0 hr1 fun x hx => ⟨by omega, by omega, fun r2 hr20 hr21 => dix_ints hr20 hr21 fun y hy => ?_⟩⟩
      have gx := g6 x hx
      have gy := g6 y hy
      refine ⟨by decide, by decide, fun r3 hr30 hr31 => dix_all hr30 hr31 fun d hd => ⟨by omega, ?_⟩⟩
      obtain ⟨p, rfl, hp⟩ : ∃ p, d = eR p ∧ 0 ≤ p.1 ∧ p.1 ≤ p.2 ∧ p.2 ≤ 4294967295 := by
        simp only [List.mem_cons, List.not_mem_nil, or_false] at hd
        rcases hd with rfl | rfl | rfl
        · exact ⟨(0, mo), rfl, Int.le_refl 0, by show 0 ≤ mo; omega, hmo'.2⟩
        · refine ⟨(_, _), rfl, ?_⟩
          show 0 ≤ (if y < x then y else x) ∧ (if y < x then y else x) ≤ (if y > x then y else x) ∧ (if y > x then y else x) ≤ 4294967295
          split <;> split <;> omega
        · exact ⟨(x, x), rfl, gx.1, Int.le_refl x, gx.2⟩
      refine hN _ ⟨i + 1, bx ++ [p], _, _, _, _, _, _, _, _, _, _, h6, rfl, by rw [List.length_append, h2]; rfl, fun p' hp' => ?_, by rw [List.map_append]; rfl⟩
      rcases List.mem_append.mp hp' with h | h
      · exact h3 p' h
      · rw [List.mem_singleton] at h
        subst h
        exact hp
    · rintro d rest env N2 ⟨us, ns, s6, s7, s8, s9, s10, g1, g2, g3, g4, g5, g6, rfl⟩ hN2
      cases us with
      | nil => cases g1
      | cons u us =>
        cases g1
        have gu := (gt.ru u (g2 u List.mem_cons_self)).1
        have g7 : u.1[i]? = some u.1[i] := List.getElem?_eq_getElem (by omega)
        have d1 : dix (u.1.map eRow) (i : Int) = some (eRow u.1[i]) := dix_map (by omega) (by rw [Int.toNat_natCast]; exact g7)
        have gr := gu.2 _ (List.mem_of_getElem? g7)
        simp only [eRu, eM, true_and, ↓sTake, ↓sTake0, ↓sPick, ↓sNumber, rng_1, rng_2, rng_3, rng_4, rng_6, ↓dKd, dix_0, dix_1, dix_2, dix_3, dix_4, dix_5, dix_6, dix_7, dix_8, dix_9, Bool.not_false, Bool.not_true, Bool.and_true, Bool.true_and, Bool.and_false, Bool.false_and, decide_eq_true_eq, Bool.not_eq_true', decide_eq_false_iff_not, Bool.false_eq_true, if_true, if_false, ↓F0, ↓F1, ↓F2, ↓F3, ↓F4, ↓F5, ↓F6, ↓dParO1, ↓dParO2, ↓dEnumT, ↓oRepr, ↓dUn, ↓oNeg, ↓dSeq, ↓dRet, ↓dRetN, ↓dIf, ↓dAsg, ↓dDrop, ↓dBreak, ↓dCont, ↓dNext, ↓dOwn, ↓dApp, ↓dSetIx, ↓dFrz, frz, ↓dPar, ↓dAug, ↓dFor, ↓dN, ↓dNB, ↓dC, ↓dOp, ↓oI, ↓oI0, ↓oB, ↓oEq, ↓oEqS, eqS, ↓oIsN, isNo, ↓oIx, ↓oIxS, seqOf, ↓oCat, ↓oCatT, ↓oCatS, ↓oIn, ↓oInS, ↓dTb, ↓dAnd, ↓dOr, ↓dNot, ↓dYes, ↓dAndV, ↓dOrV, ↓dNotV, ↓dIfV, ↓dChain, ↓dNil, ↓dCons, ↓dL, ↓dTup, ↓dCB, ↓oAbs, ↓oI2, ↓oLen, ↓oLenS, ↓oInt, ↓oSum, ↓oBs, ↓oTupOf, ↓dSeqOf, ↓dIsi, it_bool_none, it_bool_bool, it_bool_int, it_bool_str, it_bool_list, it_bool_tuple, it_bool_dict, it_int_none, it_int_bool, it_int_int, it_int_str, it_int_list, it_int_tuple, it_int_dict, it_str_none, it_str_bool, it_str_int, it_str_str, it_str_list, it_str_tuple, it_str_dict, it_list_none, it_list_bool, it_list_int, it_list_str, it_list_list, it_list_tuple, it_list_dict, it_tuple_none, it_tuple_bool, it_tuple_int, it_tuple_str, it_tuple_list, it_tuple_tuple, it_tuple_dict, it_dict_none, it_dict_bool, it_dict_int, it_dict_str, it_dict_list, it_dict_tuple, it_dict_dict, ↓dNoP, ↓dPart, ↓dSlT, ↓dSlL, ↓dSlS, ↓dCall, ↓dCallS, ↓dItL, ↓dItT, ↓dItS, ↓dR1, ↓dR2, ↓dZip, ↓dEnum, ↓gN, ↓gNi, ↓gCo, ↓gT, ↓dLc, wipeE, eget, eset, List.set, ev0, List.map_cons, List.map_nil, List.cons_append, List.nil_append, List.replicate_succ, List.replicate_zero, noOwn, isOwn, List.all_cons, List.all_nil, List.length_cons, List.length_nil, d1]
        simp only [eRow, true_and, ↓sTake, ↓sTake0, ↓sPick, ↓sNumber, rng_1, rng_2, rng_3, rng_4, rng_6, ↓dKd, dix_0, dix_1, dix_2, dix_3, dix_4, dix_5, dix_6, dix_7, dix_8, dix_9, Bool.not_false, Bool.not_true, Bool.and_true, Bool.true_and, Bool.and_false, Bool.false_and, decide_eq_true_eq, Bool.not_eq_true', decide_eq_false_iff_not, Bool.false_eq_true, if_true, if_false, ↓F0, ↓F1, ↓F2, ↓F3, ↓F4, ↓F5, ↓F6, ↓dParO1, ↓dParO2, ↓dEnumT, ↓oRepr, ↓dUn, ↓oNeg, ↓dSeq, ↓dRet, ↓dRetN, ↓dIf, ↓dAsg, ↓dDrop, ↓dBreak, ↓dCont, ↓dNext, ↓dOwn, ↓dApp, ↓dSetIx, ↓dFrz, frz, ↓dPar, ↓dAug, ↓dFor, ↓dN, ↓dNB, ↓dC, ↓dOp, ↓oI, ↓oI0, ↓oB, ↓oEq, ↓oEqS, eqS, ↓oIsN, isNo, ↓oIx, ↓oIxS, seqOf, ↓oCat, ↓oCatT, ↓oCatS, ↓oIn, ↓oInS, ↓dTb, ↓dAnd, ↓dOr, ↓dNot, ↓dYes, ↓dAndV, ↓dOrV, ↓dNotV, ↓dIfV, ↓dChain, ↓dNil, ↓dCons, ↓dL, ↓dTup, ↓dCB, ↓oAbs, ↓oI2, ↓oLen, ↓oLenS, ↓oInt, ↓oSum, ↓oBs, ↓oTupOf, ↓dSeqOf, ↓dIsi, it_bool_none, it_bool_bool, it_bool_int, it_bool_str, it_bool_list, it_bool_tuple, it_bool_dict, it_int_none, it_int_bool, it_int_int, it_int_str, it_int_list, it_int_tuple, it_int_dict, it_str_none, it_str_bool, it_str_int, it_str_str, it_str_list, it_str_tuple, it_str_dict, it_list_none, it_list_bool, it_list_int, it_list_str, it_list_list, it_list_tuple, it_list_dict, it_tuple_none, it_tuple_bool, it_tuple_int, it_tuple_str, it_tuple_list, it_tuple_tuple, it_tuple_dict, it_dict_none, it_dict_bool, it_dict_int, it_dict_str, it_dict_list, it_dict_tuple, it_dict_dict, ↓dNoP, ↓dPart, ↓dSlT, ↓dSlL, ↓dSlS, ↓dCall, ↓dCallS, ↓dItL, ↓dItT, ↓dItS, ↓dR1, ↓dR2, ↓dZip, ↓dEnum, ↓gN, ↓gNi, ↓gCo, ↓gT, ↓dLc, wipeE, eget, eset, List.set, ev0, List.map_cons, List.map_nil, List.cons_append, List.nil_append, List.replicate_succ, List.replicate_zero, noOwn, isOwn, List.all_cons, List.all_nil, List.length_cons, List.length_nil]
        have g8 : (u.1[i]).length ≤ 10 := gr.2.1
        rw [List.length_cons] at g3 g5
        refine loop_by (fun rest env => ∃ (r' : Row) (ns : List Int) (s9 s10 : Option En), rest = r'.map eR ∧ (∀ s ∈ r', s ∈ u.1[i]) ∧ 0 < ns.length ∧ ns.length + 4 * r'.length + 40 * us.length ≤ 322 ∧ Bn ns ∧ env = [some .st, some (.d (.tuple [.tuple (t.1.map eRu), .tuple [t.2.1, t.2.2]])), some (.own (bx.map eR)), some (.d (.int (i : Nat))), some (.d (.int mo)), some (.d (.list (ns.map PyData.int))), some (.d (.tuple (u.1.map eRow))), some (.d u.2.1), some (.d u.2.2), s9, s10, s11, s12]) ?_ ?_ _ _ ⟨u.1[i], ns, s9, s10, rfl, fun _ h => h, g4, by omega, g6, rfl⟩
        · rintro env ⟨r', ns, s9, s10, k1, k2, k3, k4, k5, rfl⟩
          exact hN2 _ ⟨us, ns, _, _, _, _, _, rfl, fun v hv => g2 v (List.mem_cons_of_mem _ hv), by omega, k3, by omega, k5, rfl⟩
        · rintro d rest env N3 ⟨r', ns, s9, s10, k1, k2, k3, k4, k5, rfl⟩ hN3
          cases r' with
          | nil => cases k1
          | cons e r' =>
            cases k1
            have ge := gr.2.2 e (k2 e List.mem_cons_self)
            rw [List.length_cons] at k4
            simp only [eR, true_and, ↓sTake, ↓sTake0, ↓sPick, ↓sNumber, rng_1, rng_2, rng_3, rng_4, rng_6, ↓dKd, dix_0, dix_1, dix_2, dix_3, dix_4, dix_5, dix_6, dix_7, dix_8, dix_9, Bool.not_false, Bool.not_true, Bool.and_true, Bool.true_and, Bool.and_false, Bool.false_and, decide_eq_true_eq, Bool.not_eq_true', decide_eq_false_iff_not, Bool.false_eq_true, if_true, if_false, ↓F0, ↓F1, ↓F2, ↓F3, ↓F4, ↓F5, ↓F6, ↓dParO1, ↓dParO2, ↓dEnumT, ↓oRepr, ↓dUn, ↓oNeg, ↓dSeq, ↓dRet, ↓dRetN, ↓dIf, ↓dAsg, ↓dDrop, ↓dBreak, ↓dCont, ↓dNext, ↓dOwn, ↓dApp, ↓dSetIx, ↓dFrz, frz, ↓dPar, ↓dAug, ↓dFor, ↓dN, ↓dNB, ↓dC, ↓dOp, ↓oI, ↓oI0, ↓oB, ↓oEq, ↓oEqS, eqS, ↓oIsN, isNo, ↓oIx, ↓oIxS, seqOf, ↓oCat, ↓oCatT, ↓oCatS, ↓oIn, ↓oInS, ↓dTb, ↓dAnd, ↓dOr, ↓dNot, ↓dYes, ↓dAndV, ↓dOrV, ↓dNotV, ↓dIfV, ↓dChain, ↓dNil, ↓dCons, ↓dL, ↓dTup, ↓dCB, ↓oAbs, ↓oI2, ↓oLen, ↓oLenS, ↓oInt, ↓oSum, ↓oBs, ↓oTupOf, ↓dSeqOf, ↓dIsi, it_bool_none, it_bool_bool, it_bool_int, it_bool_str, it_bool_list, it_bool_tuple, it_bool_dict, it_int_none, it_int_bool, it_int_int, it_int_str, it_int_list, it_int_tuple, it_int_dict, it_str_none, it_str_bool, it_str_int, it_str_str, it_str_list, it_str_tuple, it_str_dict, it_list_none, it_list_bool, it_list_int, it_list_str, it_list_list, it_list_tuple, it_list_dict, it_tuple_none, it_tuple_bool, it_tuple_int, it_tuple_str, it_tuple_list, it_tuple_tuple, it_tuple_dict, it_dict_none, it_dict_bool, it_dict_int, it_dict_str, it_dict_list, it_dict_tuple, it_dict_dict, ↓dNoP, ↓dPart, ↓dSlT, ↓dSlL, ↓dSlS, ↓dCall, ↓dCallS, ↓dItL, ↓dItT, ↓dItS, ↓dR1, ↓dR2, ↓dZip, ↓dEnum, ↓gN, ↓gNi, ↓gCo, ↓gT, ↓dLc, wipeE, eget, eset, List.set, ev0, List.map_cons, List.map_nil, List.cons_append, List.nil_append, List.replicate_succ, List.replicate_zero, noOwn, isOwn, List.all_cons, List.all_nil, List.length_cons, List.length_nil]
            refine ⟨by rw [List.length_map]; show ns.length + 4 ≤ sizeLine; exact Nat.le_trans (show _ ≤ 1000 by omega) (by decide), ?_⟩
            refine hN3 _ ⟨r', ns ++ [e.1, e.2, if e.1 - 1 > 0 then e.1 - 1 else 0, if e.2 + 1 < mo then e.2 + 1 else mo], _, _, rfl, fun s hs => k2 s (List.mem_cons_of_mem _ hs), by rw [List.length_append]; omega, by rw [List.length_append]; show ns.length + 4 + _ + _ ≤ _; omega, fun n hn => ?_, by rw [List.map_append]; rfl⟩
            rcases List.mem_append.mp hn with h | h
            · exact k5 n h
            · simp only [List.mem_cons, List.not_mem_nil, or_false] at h
              rcases h with rfl | rfl | rfl | rfl
              · omega
              · omega
              · split <;> omega
              · split <;> omega
    · simp at hn; omega
theorem ok_law_inner (T : Tx K mg) : FnOk P w K mg base CX0 2 T.ad_law_inner T.fd_law_inner ["state", "box"] (spS K (F1 fun a Q => ∃ b, a = eB b ∧ GB b ∧ ∀ p : List Int, p.length = 6 → (∀ z ∈ b.zip p, z.1.1 ≤ z.2 ∧ z.2 ≤ z.1.2) → Q (eP p))) := by
  refine T.d_law_inner.F.ok x_law_inner (fun vs H Q E h => spS_len F1_len h) (fun cdv A outer s H vs Q E hr h => ?_)
  have nd := x_law_inner.nd
  refine ⟨_, (pss_cons (ps_set (i := 2) nd rfl (Or.inl rfl) (pe_lst pa_nil))
        (pss_cons (ps_for PassesOwn.never rfl (pi_tup (pv 1)) (pg_tup (n := 2) rfl (pgs_cons (pg_name (i := 3) nd rfl (Or.inl rfl)) (pgs_cons (pg_name (i := 4) nd rfl (Or.inl rfl)) pgs_nil))) (pss_one (ps_expr (pe_bm PySem.F.plainAttrs_list PySem.F.slot_list_append PySem.F.type_list_append mt_append (pv 2) (pa_cons (pe_ix ix_seq (pe_lst (pa_cons (pv 3) (pa_cons (pv 4) (pa_cons (pe_op op_add (pv 3) (pe_call (ok_law_take T) hr (by rfl) T.d_law_take.g T.d_law_take.F.kp T.d_law_take.b .nil pass0 (pa_cons (pv 0) (pa_cons (pe_op op_add (pe_op op_sub (pv 4) (pv 3)) pe_int) pa_nil)))) pa_nil)))) (pe_call (ok_law_take T) hr (by rfl) T.d_law_take.g T.d_law_take.F.kp T.d_law_take.b .nil pass0 (pa_cons (pv 0) (pa_cons pe_int pa_nil))) (fun _ _ => rfl)) pa_nil)))))
        (pss_one (ps_ret (pe_callTy call_tuple_of (by rfl) T.b_tuple (by decide +kernel) (pa_cons (pv 2) pa_nil)))))), fn_state ((rs_seq (rs_own 2 (rf_lst raN))
        (rs_seq (rs_for (ri_tup (rn 1)) (rg_tup (rg_cons (rg_name 3) (rg_cons (rg_name 4) rg_nil))) (rs_app 2 (ro rv_ix (RfE.b (RfF.e (rf_lst (raC (rn 3) (raC (rn 4) (raC (ro rv_add (RfE.b (rn 3)) (RfE.b (re_callS (raC (ro rv_add (RfE.b (ro rv_sub (RfE.b (rn 4)) (RfE.b (rn 3)))) (RfE.b (rc_int _))) raN)))) raN)))))) (RfE.b (re_callS (raC (rc_int _) raN))))))
        (rs_ret (re_cb ro_tupOf (rbC (rnb 2) rbN)))))) h (by rw [spS_len F1_len h]; decide) (F1_in fun a0 Qd q => ?_)⟩
  obtain ⟨b, rfl, gb, q⟩ := q
  simp only [eB, true_and, ↓sTake, ↓sTake0, ↓sPick, ↓sNumber, rng_1, rng_2, rng_3, rng_4, rng_6, ↓dKd, dix_0, dix_1, dix_2, dix_3, dix_4, dix_5, dix_6, dix_7, dix_8, dix_9, Bool.not_false, Bool.not_true, Bool.and_true, Bool.true_and, Bool.and_false, Bool.false_and, decide_eq_true_eq, Bool.not_eq_true', decide_eq_false_iff_not, Bool.false_eq_true, if_true, if_false, ↓F0, ↓F1, ↓F2, ↓F3, ↓F4, ↓F5, ↓F6, ↓dParO1, ↓dParO2, ↓dEnumT, ↓oRepr, ↓dUn, ↓oNeg, ↓dSeq, ↓dRet, ↓dRetN, ↓dIf, ↓dAsg, ↓dDrop, ↓dBreak, ↓dCont, ↓dNext, ↓dOwn, ↓dApp, ↓dSetIx, ↓dFrz, frz, ↓dPar, ↓dAug, ↓dFor, ↓dN, ↓dNB, ↓dC, ↓dOp, ↓oI, ↓oI0, ↓oB, ↓oEq, ↓oEqS, eqS, ↓oIsN, isNo, ↓oIx, ↓oIxS, seqOf, ↓oCat, ↓oCatT, ↓oCatS, ↓oIn, ↓oInS, ↓dTb, ↓dAnd, ↓dOr, ↓dNot, ↓dYes, ↓dAndV, ↓dOrV, ↓dNotV, ↓dIfV, ↓dChain, ↓dNil, ↓dCons, ↓dL, ↓dTup, ↓dCB, ↓oAbs, ↓oI2, ↓oLen, ↓oLenS, ↓oInt, ↓oSum, ↓oBs, ↓oTupOf, ↓dSeqOf, ↓dIsi, it_bool_none, it_bool_bool, it_bool_int, it_bool_str, it_bool_list, it_bool_tuple, it_bool_dict, it_int_none, it_int_bool, it_int_int, it_int_str, it_int_list, it_int_tuple, it_int_dict, it_str_none, it_str_bool, it_str_int, it_str_str, it_str_list, it_str_tuple, it_str_dict, it_list_none, it_list_bool, it_list_int, it_list_str, it_list_list, it_list_tuple, it_list_dict, it_tuple_none, it_tuple_bool, it_tuple_int, it_tuple_str, it_tuple_list, it_tuple_tuple, it_tuple_dict, it_dict_none, it_dict_bool, it_dict_int, it_dict_str, it_dict_list, it_dict_tuple, it_dict_dict, ↓dNoP, ↓dPart, ↓dSlT, ↓dSlL, ↓dSlS, ↓dCall, ↓dCallS, ↓dItL, ↓dItT, ↓dItS, ↓dR1, ↓dR2, ↓dZip, ↓dEnum, ↓gN, ↓gNi, ↓gCo, ↓gT, ↓dLc, wipeE, eget, eset, List.set, ev0, List.map_cons, List.map_nil, List.cons_append, List.nil_append, List.replicate_succ, List.replicate_zero, noOwn, isOwn, List.all_cons, List.all_nil, List.length_cons, List.length_nil]
  refine ⟨by decide, ?_⟩
  refine loop_by (fun rest env => ∃ (b1 b2 : Row) (p : List Int) (s3 s4 : Option En), rest = b2.map eR ∧ b = b1 ++ b2 ∧ p.length = b1.length ∧ (∀ z ∈ b1.zip p, z.1.1 ≤ z.2 ∧ z.2 ≤ z.1.2) ∧ env = [some .st, some (.d (eB b)), some (.own (p.map PyData.int)), s3, s4]) ?_ ?_ _ _ ⟨[], b, [], none, none, rfl, rfl, rfl, (fun z hz => nomatch hz), rfl⟩
  · rintro env ⟨b1, b2, p, s3, s4, h1, h2, h3, h4, rfl⟩
    cases b2 with
    | cons _ _ => cases h1
    | nil =>
      rw [List.append_nil] at h2
      subst h2
      simp only [true_and, ↓sTake, ↓sTake0, ↓sPick, ↓sNumber, rng_1, rng_2, rng_3, rng_4, rng_6, ↓dKd, dix_0, dix_1, dix_2, dix_3, dix_4, dix_5, dix_6, dix_7, dix_8, dix_9, Bool.not_false, Bool.not_true, Bool.and_true, Bool.true_and, Bool.and_false, Bool.false_and, decide_eq_true_eq, Bool.not_eq_true', decide_eq_false_iff_not, Bool.false_eq_true, if_true, if_false, ↓F0, ↓F1, ↓F2, ↓F3, ↓F4, ↓F5, ↓F6, ↓dParO1, ↓dParO2, ↓dEnumT, ↓oRepr, ↓dUn, ↓oNeg, ↓dSeq, ↓dRet, ↓dRetN, ↓dIf, ↓dAsg, ↓dDrop, ↓dBreak, ↓dCont, ↓dNext, ↓dOwn, ↓dApp, ↓dSetIx, ↓dFrz, frz, ↓dPar, ↓dAug, ↓dFor, ↓dN, ↓dNB, ↓dC, ↓dOp, ↓oI, ↓oI0, ↓oB, ↓oEq, ↓oEqS, eqS, ↓oIsN, isNo, ↓oIx, ↓oIxS, seqOf, ↓oCat, ↓oCatT, ↓oCatS, ↓oIn, ↓oInS, ↓dTb, ↓dAnd, ↓dOr, ↓dNot, ↓dYes, ↓dAndV, ↓dOrV, ↓dNotV, ↓dIfV, ↓dChain, ↓dNil, ↓dCons, ↓dL, ↓dTup, ↓dCB, ↓oAbs, ↓oI2, ↓oLen, ↓oLenS, ↓oInt, ↓oSum, ↓oBs, ↓oTupOf, ↓dSeqOf, ↓dIsi, it_bool_none, it_bool_bool, it_bool_int, it_bool_str, it_bool_list, it_bool_tuple, it_bool_dict, it_int_none, it_int_bool, it_int_int, it_int_str, it_int_list, it_int_tuple, it_int_dict, it_str_none, it_str_bool, it_str_int, it_str_str, it_str_list, it_str_tuple, it_str_dict, it_list_none, it_list_bool, it_list_int, it_list_str, it_list_list, it_list_tuple, it_list_dict, it_tuple_none, it_tuple_bool, it_tuple_int, it_tuple_str, it_tuple_list, it_tuple_tuple, it_tuple_dict, it_dict_none, it_dict_bool, it_dict_int, it_dict_str, it_dict_list, it_dict_tuple, it_dict_dict, ↓dNoP, ↓dPart, ↓dSlT, ↓dSlL, ↓dSlS, ↓dCall, ↓dCallS, ↓dItL, ↓dItT, ↓dItS, ↓dR1, ↓dR2, ↓dZip, ↓dEnum, ↓gN, ↓gNi, ↓gCo, ↓gT, ↓dLc, wipeE, eget, eset, List.set, ev0, List.map_cons, List.map_nil, List.cons_append, List.nil_append, List.replicate_succ, List.replicate_zero, noOwn, isOwn, List.all_cons, List.all_nil, List.length_cons, List.length_nil]
      exact q p (by rw [h3, gb.1]) h4
  · rintro d rest env N ⟨b1, b2, p, s3, s4, h1, h2, h3, h4, rfl⟩ hN
    cases b2 with
    | nil => cases h1
    | cons e b2 =>
      cases h1
      have ge := gb.2 e (by rw [h2]; exact List.mem_append_right _ List.mem_cons_self)
      simp only [eR, true_and, ↓sTake, ↓sTake0, ↓sPick, ↓sNumber, rng_1, rng_2, rng_3, rng_4, rng_6, ↓dKd, dix_0, dix_1, dix_2, dix_3, dix_4, dix_5, dix_6, dix_7, dix_8, dix_9, Bool.not_false, Bool.not_true, Bool.and_true, Bool.true_and, Bool.and_false, Bool.false_and, decide_eq_true_eq, Bool.not_eq_true', decide_eq_false_iff_not, Bool.false_eq_true, if_true, if_false, ↓F0, ↓F1, ↓F2, ↓F3, ↓F4, ↓F5, ↓F6, ↓dParO1, ↓dParO2, ↓dEnumT, ↓oRepr, ↓dUn, ↓oNeg, ↓dSeq, ↓dRet, ↓dRetN, ↓dIf, ↓dAsg, ↓dDrop, ↓dBreak, ↓dCont, ↓dNext, ↓dOwn, ↓dApp, ↓dSetIx, ↓dFrz, frz, ↓dPar, ↓dAug, ↓dFor, ↓dN, ↓dNB, ↓dC, ↓dOp, ↓oI, ↓oI0, ↓oB, ↓oEq, ↓oEqS, eqS, ↓oIsN, isNo, ↓oIx, ↓oIxS, seqOf, ↓oCat, ↓oCatT, ↓oCatS, ↓oIn, ↓oInS, ↓dTb, ↓dAnd, ↓dOr, ↓dNot, ↓dYes, ↓dAndV, ↓dOrV, ↓dNotV, ↓dIfV, ↓dChain, ↓dNil, ↓dCons, ↓dL, ↓dTup, ↓dCB, ↓oAbs, ↓oI2, ↓oLen, ↓oLenS, ↓oInt, ↓oSum, ↓oBs, ↓oTupOf, ↓dSeqOf, ↓dIsi, it_bool_none, it_bool_bool, it_bool_int, it_bool_str, it_bool_list, it_bool_tuple, it_bool_dict, it_int_none, it_int_bool, it_int_int, it_int_str, it_int_list, it_int_tuple, it_int_dict, it_str_none, it_str_bool, it_str_int, it_str_str, it_str_list, it_str_tuple, it_str_dict, it_list_none, it_list_bool, it_list_int, it_list_str, it_list_list, it_list_tuple, it_list_dict, it_tuple_none, it_tuple_bool, it_tuple_int, it_tuple_str, it_tuple_list, it_tuple_tuple, it_tuple_dict, it_dict_none, it_dict_bool, it_dict_int, it_dict_str, it_dict_list, it_dict_tuple, it_dict_dict, ↓dNoP, ↓dPart, ↓dSlT, ↓dSlL, ↓dSlS, ↓dCall, ↓dCallS, ↓dItL, ↓dItT, ↓dItS, ↓dR1, ↓dR2, ↓dZip, ↓dEnum, ↓gN, ↓gNi, ↓gCo, ↓gT, ↓dLc, wipeE, eget, eset, List.set, ev0, List.map_cons, List.map_nil, List.cons_append, List.nil_append, List.replicate_succ, List.replicate_zero, noOwn, isOwn, List.all_cons, List.all_nil, List.length_cons, List.length_nil]
      have hl : p.length ≤ 6 := by
        have := congrArg List.length h2
        rw [gb.1, List.length_append, List.length_cons] at this
        omega
      refine ⟨by omega, by omega, fun r hr0 hr1 => ⟨by decide, by decide, fun r3 hr30 hr31 => ?_⟩⟩
      refine dix_ints (ns := [e.1, e.2, e.1 + r]) hr30 hr31 fun x hx => ⟨by rw [List.length_map]; omega, ?_⟩
      have hx' : e.1 ≤ x ∧ x ≤ e.2 := by
        simp only [List.mem_cons, List.not_mem_nil, or_false] at hx
        omega
      refine hN _ ⟨b1 ++ [e], b2, p ++ [x], _, _, rfl, by rw [h2, List.append_assoc]; rfl, by rw [List.length_append, List.length_append, h3]; rfl, fun z hz => ?_, by rw [List.map_append]; rfl⟩
      rw [List.zip_append h3.symm] at hz
      rcases List.mem_append.mp hz with h | h
      · exact h4 z h
      · rw [List.zip_cons_cons, List.zip_nil_left, List.mem_singleton] at h
        subst h
        exact hx'
end
section
variable {P : Program} {w : World} {K : PySem.W.Frag} {mg : Str → Option Value} {base : Heap}
theorem tch_of {r : Row} {p : Int × Int} {n : Int} (h : rowHas r n = true) (h1 : p.1 ≤ n) (h2 : n ≤ p.2) : tch r p = true := by
  unfold rowHas at h
  unfold tch
  rw [List.any_eq_true] at h ⊢
  obtain ⟨s, hs, hp⟩ := h
  refine ⟨s, hs, ?_⟩
  simp only [Bool.and_eq_true, decide_eq_true_eq] at hp ⊢
  omega
theorem has_of {r : Row} {p : Int × Int} {n : Int} (h : cov r p = true) (h1 : p.1 ≤ n) (h2 : n ≤ p.2) : rowHas r n = true := by
  unfold cov at h
  unfold rowHas
  rw [List.any_eq_true] at h ⊢
  obtain ⟨s, hs, hp⟩ := h
  refine ⟨s, hs, ?_⟩
  simp only [Bool.and_eq_true, decide_eq_true_eq] at hp ⊢
  omega
theorem covs_tchs : ∀ (m : List Row) (b : Row), (∀ p ∈ b, p.1 ≤ p.2) → covs m b = true → tchs m b = true
  | [], _, _, _ => rfl
  | _ :: _, [], _, _ => rfl
  | r :: m, p :: b, h, c => by
    unfold covs at c
    unfold tchs
    rw [List.zip_cons_cons, List.all_cons, Bool.and_eq_true] at c ⊢
    have hp := h p List.mem_cons_self
    exact ⟨tch_of (has_of c.1 (Int.le_refl _) hp) (Int.le_refl _) hp, covs_tchs m b (fun q hq => h q (List.mem_cons_of_mem _ hq)) c.2⟩
def Inn (b : Row) (p : List Int) : Prop := ∀ z ∈ b.zip p, z.1.1 ≤ z.2 ∧ z.2 ≤ z.1.2
theorem inn_in : ∀ {m : List Row} {b : Row} {p : List Int}, b.length = p.length → Inn b p → covs m b = true → inB m p = true
  | [], _, _, _, _, _ => rfl
  | _ :: _, [], [], _, _, _ => rfl
  | _ :: _, [], _ :: _, h, _, _ => by cases h
  | _ :: _, _ :: _, [], h, _, _ => by cases h
  | r :: m, e :: b, n :: p, h, hi, c => by
    unfold covs at c
    unfold inB
    rw [List.zip_cons_cons, List.all_cons, Bool.and_eq_true] at c ⊢
    have he := hi (e, n) (by rw [List.zip_cons_cons]; exact List.mem_cons_self)
    exact ⟨has_of c.1 he.1 he.2, inn_in (Nat.succ.inj h) (fun z hz => hi z (by rw [List.zip_cons_cons]; exact List.mem_cons_of_mem _ hz)) c.2⟩
theorem inn_tch : ∀ {m : List Row} {b : Row} {p : List Int}, b.length = p.length → Inn b p → inB m p = true → tchs m b = true
  | [], _, _, _, _, _ => rfl
  | _ :: _, [], [], _, _, _ => rfl
  | _ :: _, [], _ :: _, h, _, _ => by cases h
  | _ :: _, _ :: _, [], h, _, _ => by cases h
  | r :: m, e :: b, n :: p, h, hi, c => by
    unfold inB at c
    unfold tchs
    rw [List.zip_cons_cons, List.all_cons, Bool.and_eq_true] at c ⊢
    have he := hi (e, n) (by rw [List.zip_cons_cons]; exact List.mem_cons_self)
    exact ⟨tch_of c.1 he.1 he.2, inn_tch (Nat.succ.inj h) (fun z hz => hi z (by rw [List.zip_cons_cons]; exact List.mem_cons_of_mem _ hz)) c.2⟩
/-- the first that touches -/
theorem metz_head (b : Row) : ∀ (us : List Rule) (n : Nat), metz b (us.zipIdx n) = [] ∧ us.all (fun u => !tchs u.1 b) = true ∨
    ∃ j r, metz b (us.zipIdx n) = (n + j) :: r ∧ (us.take j).all (fun u => !tchs u.1 b) = true ∧ ∃ u, us[j]? = some u ∧ tchs u.1 b = true
  | [], _ => .inl ⟨rfl, rfl⟩
  | u :: us, n => by
    by_cases c : tchs u.1 b = true
    · refine .inr ⟨0, metz b (us.zipIdx (n + 1)), ?_, rfl, u, rfl, c⟩
      unfold metz
      rw [List.zipIdx_cons, List.filterMap_cons, if_pos c]
      rfl
    · have e : metz b ((u :: us).zipIdx n) = metz b (us.zipIdx (n + 1)) := by
        unfold metz
        rw [List.zipIdx_cons, List.filterMap_cons, if_neg c]
      rw [e]
      rcases metz_head b us (n + 1) with ⟨h1, h2⟩ | ⟨j, r, h1, h2, u', h3, h4⟩
      · exact .inl ⟨h1, by rw [List.all_cons, h2, Bool.eq_false_iff.mpr c]; rfl⟩
      · exact .inr ⟨j + 1, r, by rw [h1, show n + (j + 1) = n + 1 + j by omega], by rw [List.take_succ_cons, List.all_cons, h2, Bool.eq_false_iff.mpr c]; rfl, u', h3, h4⟩
theorem dec_leaf {t : Tb} {b : Row} {k : Nat} (hk : k ≤ t.1.length) (hb : ∀ p ∈ b, p.1 ≤ p.2) : decB t b k = leafB t b k := by
  unfold decB leafB
  have em : met b t.1 = metz b (t.1.zipIdx 0) := rfl
  rcases metz_head b t.1 0 with ⟨h1, h2⟩ | ⟨j, r, h1, h2, u, h3, h4⟩
  · rw [em, h1]
    by_cases c : k = t.1.length
    · rw [if_pos c, c, List.take_length, h2, List.getElem?_eq_none (Nat.le_refl _)]
      rfl
    · rw [if_neg c, List.getElem?_eq_getElem (by omega)]
      have hn : tchs (t.1[k]'(by omega)).1 b = false := by
        have := List.all_eq_true.mp h2 _ (List.getElem_mem (show k < t.1.length by omega))
        simpa using this
      have hc : covs (t.1[k]'(by omega)).1 b = false := by
        cases e : covs (t.1[k]'(by omega)).1 b with
        | false => rfl
        | true => rw [covs_tchs _ _ hb e] at hn; cases hn
      simp only [List.head?_nil, hc, Bool.and_false]
  · rw [em, h1, Nat.zero_add]
    have hj := (List.getElem?_eq_some_iff.mp h3).1
    have key : (t.1.take k).all (fun u => !tchs u.1 b) = decide (k ≤ j) := by
      by_cases c : k ≤ j
      · rw [decide_eq_true c, List.all_eq_true]
        intro x hx
        exact List.all_eq_true.mp h2 x (List.mem_take_iff_getElem.mpr (by
          obtain ⟨i, hi, e⟩ := List.mem_take_iff_getElem.mp hx
          exact ⟨i, by omega, e⟩))
      · rw [decide_eq_false c, List.all_eq_false]
        refine ⟨u, List.mem_take_iff_getElem.mpr ⟨j, by omega, ?_⟩, by rw [h4]; decide⟩
        exact (List.getElem?_eq_some_iff.mp h3).2
    rw [key]
    by_cases c : k = t.1.length
    · rw [if_pos c, decide_eq_false (by omega)]
      rfl
    · rw [if_neg c]
      simp only [List.head?_cons]
      by_cases c2 : k = j
      · subst c2
        rw [decide_eq_true rfl, decide_eq_true (Nat.le_refl _), h3]
      · rw [decide_eq_false (fun z => c2 z.symm), Bool.false_and]
        by_cases c3 : k ≤ j
        · rw [List.getElem?_eq_getElem (by omega)]
          have hn : tchs (t.1[k]'(by omega)).1 b = false := by
            have := List.all_eq_true.mp h2 (t.1[k]'(by omega)) (List.mem_take_iff_getElem.mpr ⟨k, by omega, rfl⟩)
            simpa using this
          have hc : covs (t.1[k]'(by omega)).1 b = false := by
            cases e : covs (t.1[k]'(by omega)).1 b with
            | false => rfl
            | true => rw [covs_tchs _ _ hb e] at hn; cases hn
          show _ = (decide (k ≤ j) && covs (t.1[k]'(by omega)).1 b)
          rw [hc, Bool.and_false]
        · rw [decide_eq_false c3, Bool.false_and]
theorem leaf_dec {b : Row} {p : List Int} (hl : b.length = p.length) (hi : Inn b p) : ∀ (us : List Rule) (k : Nat), k ≤ us.length → (us.take k).all (fun u => !tchs u.1 b) = true → (match us[k]? with | some u => covs u.1 b | none => true) = true → decN p us = k
  | [], k, hk, _, _ => by
    obtain rfl : k = 0 := by simpa using hk
    rfl
  | u :: us, 0, _, _, h => by
    rw [decN, if_pos (inn_in hl hi h)]
  | u :: us, k + 1, hk, h1, h2 => by
    rw [List.take_succ_cons, List.all_cons, Bool.and_eq_true] at h1
    rw [decN, if_neg, leaf_dec hl hi us k (Nat.le_of_succ_le_succ hk) h1.2 h2]
    intro z
    rw [inn_tch hl hi z] at h1
    exact absurd h1.1 (by decide)
theorem leafB_dec {t : Tb} {b : Row} {p : List Int} {k : Nat} (hl : b.length = p.length) (hi : Inn b p) (hk : k ≤ t.1.length) (h : leafB t b k = true) : decN p t.1 = k := by
  unfold leafB at h
  rw [Bool.and_eq_true] at h
  exact leaf_dec hl hi t.1 k hk h.1 h.2
/-- the fate of the decider -/
def fateD (lf : D) (p : List Int) : List Rule → D
  | [] => lf
  | u :: r => if inB u.1 p = true then u.2.1 else fateD lf p r
theorem fateD_at (t : Tb) (p : List Int) : fateAt t (decN p t.1) = fateD t.2.1 p t.1 := by
  unfold fateAt
  have key : ∀ us : List Rule, (match us[decN p us]? with | some u => u.2.1 | none => t.2.1) = fateD t.2.1 p us := by
    intro us
    induction us with
    | nil => rfl
    | cons u us ih =>
      rw [decN, fateD]
      by_cases c : inB u.1 p = true
      · rw [if_pos c, if_pos c]
        rfl
      · rw [if_neg c, if_neg c, List.getElem?_cons_succ]
        exact ih
  exact key t.1
theorem alk_fate {b : Row} {p : List Int} {f lf : D} (hl : b.length = p.length) (hi : Inn b p) : ∀ us : List Rule, alk b f lf us = true → PyData.eqv (fateD lf p us) f = true
  | [], h => h
  | u :: us, h => by
    rw [alk] at h
    rw [fateD]
    by_cases ci : inB u.1 p = true
    · rw [if_pos ci]
      rw [if_pos (inn_tch hl hi ci)] at h
      cases e : PyData.eqv u.2.1 f with
      | true => rfl
      | false => rw [e, if_pos rfl] at h; cases h
    · rw [if_neg ci]
      split at h
      · split at h
        · cases h
        · split at h <;> rename_i cc
          · exact absurd (inn_in hl hi cc) ci
          · exact alk_fate hl hi us h
      · exact alk_fate hl hi us h
/-- boxes of one point -/
def ptB (p : List Int) : Row := p.map fun n => (n, n)
theorem ptB_inn : ∀ p : List Int, Inn (ptB p) p
  | [], _, h => nomatch h
  | n :: p, z, h => by
    unfold ptB at h
    rw [List.map_cons, List.zip_cons_cons] at h
    rcases List.mem_cons.mp h with rfl | h
    · exact ⟨Int.le_refl _, Int.le_refl _⟩
    · exact ptB_inn p z h
theorem ptB_tch : ∀ (m : List Row) (p : List Int), tchs m (ptB p) = inB m p
  | [], _ => rfl
  | _ :: _, [] => rfl
  | r :: m, n :: p => by
    have ih := ptB_tch m p
    unfold ptB tchs inB at ih ⊢
    rw [List.map_cons, List.zip_cons_cons, List.zip_cons_cons, List.all_cons, List.all_cons, ih]
    rfl
theorem ptB_cov : ∀ (m : List Row) (p : List Int), covs m (ptB p) = inB m p
  | [], _ => rfl
  | _ :: _, [] => rfl
  | r :: m, n :: p => by
    have ih := ptB_cov m p
    unfold ptB covs inB at ih ⊢
    rw [List.map_cons, List.zip_cons_cons, List.zip_cons_cons, List.all_cons, List.all_cons, ih]
    rfl
theorem leaf_pt {p : List Int} : ∀ (us : List Rule) (k : Nat), k ≤ us.length → ((us.take k).all (fun u => !inB u.1 p) && (match us[k]? with | some u => inB u.1 p | none => true)) = decide (k = decN p us)
  | [], k, hk => by
    obtain rfl : k = 0 := by simpa using hk
    rfl
  | u :: us, 0, _ => by
    rw [decN]
    show (true && inB u.1 p) = _
    cases inB u.1 p with
    | true => rfl
    | false => rfl
  | u :: us, k + 1, hk => by
    rw [decN, List.take_succ_cons, List.all_cons, List.getElem?_cons_succ, Bool.and_assoc, leaf_pt us k (Nat.le_of_succ_le_succ hk)]
    cases inB u.1 p with
    | true => simp
    | false => simp
theorem leafB_pt {t : Tb} {p : List Int} {k : Nat} (hk : k ≤ t.1.length) : leafB t (ptB p) k = decide (k = decN p t.1) := by
  rw [← leaf_pt t.1 k hk]
  unfold leafB
  simp only [ptB_tch, ptB_cov]
  all_goals rfl
theorem alk_pt {p : List Int} {f lf : D} : ∀ us : List Rule, alk (ptB p) f lf us = PyData.eqv (fateD lf p us) f
  | [] => rfl
  | u :: us => by
    rw [alk, fateD, ptB_tch, ptB_cov, alk_pt us]
    by_cases c : inB u.1 p = true
    · rw [if_pos c, if_pos c, if_pos c]
      cases PyData.eqv u.2.1 f with
      | true => rfl
      | false => rfl
    · rw [if_neg c, if_neg c]
end
section
variable {P : Program} {w : World} {K : PySem.W.Frag} {mg : Str → Option Value} {base : Heap}
theorem GT.sz {t : Tb} (h : GT 8 t) : Sz (eT t) 6 600000 := by
  have row : ∀ r : Row, GR 4294967295 r → Sz (eRow r) 2 1000 := fun r hr => by
    refine sT (k := 1) (w := 82) (n := 10) (fun d hd => ?_) (by rw [List.length_map]; exact hr.2.1)
    obtain ⟨s, hs, rfl⟩ := List.mem_map.mp hd
    have := hr.2.2 s hs
    exact sT (k := 0) (w := 40) (n := 2) (szc (sI (by omega) (by omega)) (szc (sI (by omega) (by omega)) szn)) (Nat.le_of_ble_eq_true rfl)
  refine sT (k := 5) (w := 250000) (n := 2) (szc (sT (k := 4) (w := 30000) (n := 8) (fun d hd => ?_) (by rw [List.length_map]; exact h.len)) (szc (sT (k := 1) (w := 200) (n := 2) (szc (fts _ h.la.1) (szc h.la.2 szn)) (Nat.le_of_ble_eq_true rfl)) szn)) (Nat.le_of_ble_eq_true rfl)
  obtain ⟨u, hu, rfl⟩ := List.mem_map.mp hd
  have hu' := h.ru u hu
  refine sT (k := 3) (w := 7000) (n := 3) (szc (sT (k := 2) (w := 1000) (n := 6) (fun d hd => ?_) (by rw [List.length_map, hu'.1.1]; exact Nat.le_refl 6)) (szc ((fts _ hu'.2.1).mono (by decide) (by decide)) (szc (hu'.2.2.mono (by decide) (by decide)) szn))) (Nat.le_of_ble_eq_true rfl)
  obtain ⟨r, hr, rfl⟩ := List.mem_map.mp hd
  exact row r (hu'.1.2 r hr)
theorem GT.okT {t : Tb} {n : Nat} (h : GT n t) : okT t := ⟨fun u hu => (fts _ (h.ru u hu).2.1).ok, (fts _ h.la.1).ok⟩
theorem GT.ft {t : Tb} {n : Nat} (h : GT n t) (k : Nat) : fateAt t k ∈ FT := by
  unfold fateAt
  cases e : t.1[k]? with
  | none => exact h.la.1
  | some u => exact (h.ru u (List.mem_of_getElem? e)).2.1
theorem decN_le (p : List Int) : ∀ us : List Rule, decN p us ≤ us.length
  | [] => Nat.le_refl _
  | u :: us => by
    have := decN_le p us
    rw [decN, List.length_cons]
    split <;> omega
theorem GT.gm {t : Tb} {n : Nat} (h : GT n t) : ∀ u ∈ t.1, GM u.1 := fun u hu => ⟨(h.ru u hu).1.1, fun r hr => Nat.le_trans ((h.ru u hu).1.2 r hr).2.1 (by decide)⟩
theorem GT.dj {t : Tb} {n : Nat} (h : GT n t) : ∀ u ∈ t.1, u.1.length = 6 ∧ ∀ r ∈ u.1, Dj r := fun u hu => ⟨(h.ru u hu).1.1, fun r hr => ((h.ru u hu).1.2 r hr).1⟩
theorem bb {a b : Bool} : Sz (.tuple [.bool a, .bool b]) 1 10 := sT (k := 0) (w := 0) (n := 2) (szc (Sz.bool _) (szc (Sz.bool _) szn)) (Nat.le_of_ble_eq_true rfl)
theorem ptB_eq (p : List Int) : (p.map PyData.int).map (fun d => PyData.tuple [d, d]) = (ptB p).map eR := by
  unfold ptB
  rw [List.map_map, List.map_map]
  rfl
theorem ok_law (T : Tx K mg) : FnG P w K mg base 5 T.ad_law T.fd_law ["script"] (spLaw K) := by
  refine okG T.d_law.F x_law (fun vs H Q E h => spLaw_len h) (fun cdv A outer s H vs Q E hr gd h => ?_)
  have nd := x_law.nd
  refine ⟨_, (pss_cons (ps_set (i := 1) nd rfl (Or.inr rfl) (pe_call (ok_law_state T) (hr.mono (by decide)) (by rfl) T.d_law_state.g T.d_law_state.F.kp T.d_law_state.b .nil pass0 (pa_cons (pv 0) pa_nil)))
        (pss_cons (ps_set (i := 2) nd rfl (Or.inl rfl) (pe_call (ok_law_table T) hr (by rfl) T.d_law_table.g T.d_law_table.F.kp T.d_law_table.b .nil pass0 (pa_cons (pv 1) (pa_cons pe_int pa_nil))))
        (pss_cons (ps_set (i := 3) nd rfl (Or.inl rfl) (pe_callB (cr_repr gd hr.units) (by rfl) T.b_repr (by decide +kernel) (pa_cons (pv 2) pa_nil)))
        (pss_cons (ps_set (i := 4) nd rfl (Or.inl rfl) (pe_callB call_len_seq (by rfl) T.b_len (by decide +kernel) (pa_cons (pe_ix ix_seq (pv 2) pe_int (fun _ _ => rfl)) pa_nil)))
        (pss_cons (ps_for PassesOwn.never rfl (pi_range1 (by rfl) T.b_range (pa_cons pe_int pa_nil)) (pg_name (i := 5) nd rfl (Or.inl rfl)) (pss_cons (ps_set (i := 6) nd rfl (Or.inr rfl) (pe_call (ok_law_corners T) (hr.mono (by decide)) (by rfl) T.d_law_corners.g T.d_law_corners.F.kp T.d_law_corners.b .nil pass0 (pa_cons (pv 1) (pa_cons (pv 2) pa_nil))))
        (pss_cons (ps_for PassesOwn.never rfl (pi_tup (pe_ix ix_seq (pv 2) pe_int (fun _ _ => rfl))) (pg_tup (n := 3) rfl (pgs_cons (pg_name (i := 7) nd rfl (Or.inl rfl)) (pgs_cons (pg_name (i := 8) nd rfl (Or.inl rfl)) (pgs_cons (pg_name (i := 9) nd rfl (Or.inl rfl)) pgs_nil)))) (pss_one (ps_if (pt_cmpR op_ne (pe_callB (cr_repr gd hr.units) (by rfl) T.b_repr (by decide +kernel) (pa_cons (pe_tup (pa_cons (pe_call (ok_meets T) (hr.mono (by decide)) (by rfl) T.d_meets.g T.d_meets.F.kp T.d_meets.b .nil pass0 (pa_cons (pv 7) (pa_cons (pv 6) pa_nil))) (pa_cons (pe_call (ok_contains T) (hr.mono (by decide)) (by rfl) T.d_contains.g T.d_contains.F.kp T.d_contains.b .nil pass0 (pa_cons (pv 7) (pa_cons (pv 6) pa_nil))) pa_nil))) pa_nil)) (pe_callB (cr_repr gd hr.units) (by rfl) T.b_repr (by decide +kernel) (pa_cons (pe_tup (pa_cons (pe_call (ok_law_touches T) (hr.mono (by decide)) (by rfl) T.d_law_touches.g T.d_law_touches.F.kp T.d_law_touches.b .nil pass0 (pa_cons (pv 7) (pa_cons (pv 6) pa_nil))) (pa_cons (pe_call (ok_law_covers T) (hr.mono (by decide)) (by rfl) T.d_law_covers.g T.d_law_covers.F.kp T.d_law_covers.b .nil pass0 (pa_cons (pv 7) (pa_cons (pv 6) pa_nil))) pa_nil))) pa_nil)) (nomark _)) (pss_one (ps_ret pe_bl)) pss_nil)))
        (pss_cons (ps_setLc (i := 10) (own := [("k", 11)]) (g := (gName 11)) rfl nd rfl rfl (sw_true rfl rfl rfl (by decide +kernel)) (pi_range1 (by rfl) T.b_range (pa_cons pe_int pa_nil)) (blkOk_by (own := [("k", 11)]) (N := Ns_law) (sc := defScope s_law) (by decide +kernel)) (fun _ _ _ _ _ => (pg_name (i := 11) nd rfl (Or.inl rfl))) (fun _ _ _ _ _ => pts_nil) (fun _ _ _ _ _ => (pe_call (ok_law_inner T) (hr.mono (by decide)) (by rfl) T.d_law_inner.g T.d_law_inner.F.kp T.d_law_inner.b .nil pass0 (pa_cons (pv 1) (pa_cons (pv 6) pa_nil)))))
        (pss_one (ps_for PassesOwn.never rfl (pi_range1 (by rfl) T.b_range (pa_cons (pe_op op_add (pv 4) pe_int) pa_nil)) (pg_name (i := 11) nd rfl (Or.inl rfl)) (pss_cons (ps_if (pt_cmpR op_ne (pe_callB (cr_repr gd hr.units) (by rfl) T.b_repr (by decide +kernel) (pa_cons (pe_call (ok_decides T) hr (by rfl) T.d_decides.g T.d_decides.F.kp T.d_decides.b .nil pass0 (pa_cons (pv 2) (pa_cons (pv 6) (pa_cons (pv 11) pa_nil)))) pa_nil)) (pe_callB (cr_repr gd hr.units) (by rfl) T.b_repr (by decide +kernel) (pa_cons (pe_call (ok_law_rule_leaf T) (hr.mono (by decide)) (by rfl) T.d_law_rule_leaf.g T.d_law_rule_leaf.F.kp T.d_law_rule_leaf.b .nil pass0 (pa_cons (pv 2) (pa_cons (pv 6) (pa_cons (pv 11) pa_nil)))) pa_nil)) (nomark _)) (pss_one (ps_ret pe_bl)) pss_nil)
        (pss_cons (ps_if (pt_cmpR op_ne (pe_callB (cr_repr gd hr.units) (by rfl) T.b_repr (by decide +kernel) (pa_cons (pe_call (ok_is_alike T) hr (by rfl) T.d_is_alike.g T.d_is_alike.F.kp T.d_is_alike.b .nil pass0 (pa_cons (pv 2) (pa_cons (pv 6) (pa_cons (pv 11) pa_nil)))) pa_nil)) (pe_callB (cr_repr gd hr.units) (by rfl) T.b_repr (by decide +kernel) (pa_cons (pe_call (ok_law_fate_leaf T) (hr.mono (by decide)) (by rfl) T.d_law_fate_leaf.g T.d_law_fate_leaf.F.kp T.d_law_fate_leaf.b .nil pass0 (pa_cons (pv 2) (pa_cons (pv 6) (pa_cons (pv 11) pa_nil)))) pa_nil)) (nomark _)) (pss_one (ps_ret pe_bl)) pss_nil)
        (pss_one (ps_for PassesOwn.never rfl (pi_list (pv 10)) (pg_name (i := 12) nd rfl (Or.inl rfl)) (pss_cons (ps_set (i := 13) nd rfl (Or.inl rfl) (pe_call (ok_law_decider T) (hr.mono (by decide)) (by rfl) T.d_law_decider.g T.d_law_decider.F.kp T.d_law_decider.b .nil pass0 (pa_cons (pv 2) (pa_cons (pv 12) pa_nil))))
        (pss_cons (ps_if (PW.pt (pw_and (pt_cmpR op_is_bl (pe_call (ok_decides T) hr (by rfl) T.d_decides.g T.d_decides.F.kp T.d_decides.b .nil pass0 (pa_cons (pv 2) (pa_cons (pv 6) (pa_cons (pv 11) pa_nil)))) pe_bl (nomark _)) (pw_and1 (pt_cmpR op_ne (pv 13) (pv 11) (nomark _))))) (pss_one (ps_ret pe_bl)) pss_nil)
        (pss_one (ps_if (PW.pt (pw_and (pt_cmpR op_is_bl (pe_call (ok_is_alike T) hr (by rfl) T.d_is_alike.g T.d_is_alike.F.kp T.d_is_alike.b .nil pass0 (pa_cons (pv 2) (pa_cons (pv 6) (pa_cons (pv 11) pa_nil)))) pe_bl (nomark _)) (pw_and1 (pt_cmpR (op_neD hr.units) (pe_call (ok_law_fate T) (hr.mono (by decide)) (by rfl) T.d_law_fate.g T.d_law_fate.F.kp T.d_law_fate.b .nil pass0 (pa_cons (pv 2) (pa_cons (pv 13) pa_nil))) (pe_call (ok_law_fate T) (hr.mono (by decide)) (by rfl) T.d_law_fate.g T.d_law_fate.F.kp T.d_law_fate.b .nil pass0 (pa_cons (pv 2) (pa_cons (pv 11) pa_nil))) (nomark _))))) (pss_one (ps_ret pe_bl)) pss_nil))))))))))))))
        (pss_cons (ps_set (i := 12) nd rfl (Or.inl rfl) (pe_call (ok_law_inner T) (hr.mono (by decide)) (by rfl) T.d_law_inner.g T.d_law_inner.F.kp T.d_law_inner.b .nil pass0 (pa_cons (pv 1) (pa_cons (pv 6) pa_nil))))
        (pss_cons (ps_set (i := 6) nd rfl (Or.inr rfl) (pe_callTy call_tuple_of (by rfl) T.b_tuple (by decide +kernel) (pa_cons (pe_lc (own := [("number", 14)]) (g := (gName 14)) rfl nd (pi_tup (pv 12)) (blkOk_by (own := [("number", 14)]) (N := Ns_law) (sc := defScope s_law) (by decide +kernel)) (fun _ _ _ _ _ => (pg_name (i := 14) nd rfl (Or.inl rfl))) (fun _ _ _ _ _ => pts_nil) (fun _ _ _ _ _ => (pe_tup (pa_cons (pv 14) (pa_cons (pv 14) pa_nil))))) pa_nil)))
        (pss_cons (ps_set (i := 13) nd rfl (Or.inl rfl) (pe_call (ok_law_decider T) (hr.mono (by decide)) (by rfl) T.d_law_decider.g T.d_law_decider.F.kp T.d_law_decider.b .nil pass0 (pa_cons (pv 2) (pa_cons (pv 12) pa_nil))))
        (pss_cons (ps_for PassesOwn.never rfl (pi_range1 (by rfl) T.b_range (pa_cons (pe_op op_add (pv 4) pe_int) pa_nil)) (pg_name (i := 11) nd rfl (Or.inl rfl)) (pss_one (ps_if (PW.pt (pw_or (pt_cmpR op_ne (pe_callB (cr_repr gd hr.units) (by rfl) T.b_repr (by decide +kernel) (pa_cons (pe_call (ok_decides T) hr (by rfl) T.d_decides.g T.d_decides.F.kp T.d_decides.b .nil pass0 (pa_cons (pv 2) (pa_cons (pv 6) (pa_cons (pv 11) pa_nil)))) pa_nil)) (pe_callB (cr_repr gd hr.units) (by rfl) T.b_repr (by decide +kernel) (pa_cons (pe_cmpR op_eq (pv 11) (pv 13) (nomark _)) pa_nil)) (nomark _)) (pw_or1 (pt_cmpR op_ne (pe_callB (cr_repr gd hr.units) (by rfl) T.b_repr (by decide +kernel) (pa_cons (pe_call (ok_is_alike T) hr (by rfl) T.d_is_alike.g T.d_is_alike.F.kp T.d_is_alike.b .nil pass0 (pa_cons (pv 2) (pa_cons (pv 6) (pa_cons (pv 11) pa_nil)))) pa_nil)) (pe_callB (cr_repr gd hr.units) (by rfl) T.b_repr (by decide +kernel) (pa_cons (pe_cmpR (op_eqD hr.units) (pe_call (ok_law_fate T) (hr.mono (by decide)) (by rfl) T.d_law_fate.g T.d_law_fate.F.kp T.d_law_fate.b .nil pass0 (pa_cons (pv 2) (pa_cons (pv 11) pa_nil))) (pe_call (ok_law_fate T) (hr.mono (by decide)) (by rfl) T.d_law_fate.g T.d_law_fate.F.kp T.d_law_fate.b .nil pass0 (pa_cons (pv 2) (pa_cons (pv 13) pa_nil))) (nomark _)) pa_nil)) (nomark _))))) (pss_one (ps_ret pe_bl)) pss_nil)))
        (pss_one (ps_ret (pe_cmpR op_eq (pe_callB (cr_repr gd hr.units) (by rfl) T.b_repr (by decide +kernel) (pa_cons (pv 2) pa_nil)) (pv 3) (nomark _))))))))))))), law_run (i := 1) ((rs_seq (rs_asg (re_callS (raC (rc_int _) raN)) (rg_name 2))
        (rs_seq (rs_asg (re_cb ro_repr (rbC (RfE.b (rn 2)) rbN)) (rg_name 3))
        (rs_seq (rs_asg (re_cb ro_len (rbC (RfE.b (ro rv_ix (RfE.b (rn 2)) (RfE.b (rc_int _)))) rbN)) (rg_name 4))
        (rs_seq (rs_for (ri_r1 (rbC (RfE.b (rc_int _)) rbN)) (rg_name 5) (rs_seq (rs_asg (re_callS (raC (rn 2) raN)) (rg_name 6))
        (rs_seq (rs_for (ri_tup (ro rv_ix (RfE.b (rn 2)) (RfE.b (rc_int _)))) (rg_tup (rg_cons (rg_name 7) (rg_cons (rg_name 8) (rg_cons (rg_name 9) rg_nil)))) (rs_if (rt_test (ro rv_ne (RfE.b (re_cb ro_repr (rbC (RfE.b (re_tup (raC (re_call (raC (rn 7) (raC (rn 6) raN))) (raC (re_call (raC (rn 7) (raC (rn 6) raN))) raN)))) rbN))) (RfE.b (re_cb ro_repr (rbC (RfE.b (re_tup (raC (re_call (raC (rn 7) (raC (rn 6) raN))) (raC (re_call (raC (rn 7) (raC (rn 6) raN))) raN)))) rbN))))) (rs_ret (rc_bl _)) rs_next))
        (rs_seq (rs_asg (RfF.e (rf_lc (ri_r1 (rbC (RfE.b (rc_int _)) rbN)) (rg_name 11) rt_yes (re_callS (raC (rn 6) raN)))) (rg_name 10))
        (rs_for (ri_r1 (rbC (RfE.b (ro rv_add (RfE.b (rn 4)) (RfE.b (rc_int _)))) rbN)) (rg_name 11) (rs_seq (rs_if (rt_test (ro rv_ne (RfE.b (re_cb ro_repr (rbC (RfE.b (re_call (raC (rn 2) (raC (rn 6) (raC (rn 11) raN))))) rbN))) (RfE.b (re_cb ro_repr (rbC (RfE.b (re_call (raC (rn 2) (raC (rn 6) (raC (rn 11) raN))))) rbN))))) (rs_ret (rc_bl _)) rs_next)
        (rs_seq (rs_if (rt_test (ro rv_ne (RfE.b (re_cb ro_repr (rbC (RfE.b (re_call (raC (rn 2) (raC (rn 6) (raC (rn 11) raN))))) rbN))) (RfE.b (re_cb ro_repr (rbC (RfE.b (re_call (raC (rn 2) (raC (rn 6) (raC (rn 11) raN))))) rbN))))) (rs_ret (rc_bl _)) rs_next)
        (rs_for (ri_list (rn 10)) (rg_name 12) (rs_seq (rs_asg (re_call (raC (rn 2) (raC (rn 12) raN))) (rg_name 13))
        (rs_seq (rs_if (rt_and (rt_test (ro rv_isB (RfE.b (re_call (raC (rn 2) (raC (rn 6) (raC (rn 11) raN))))) (RfE.b (rc_bl _)))) (rt_test (ro rv_ne (RfE.b (rn 13)) (RfE.b (rn 11))))) (rs_ret (rc_bl _)) rs_next)
        (rs_if (rt_and (rt_test (ro rv_isB (RfE.b (re_call (raC (rn 2) (raC (rn 6) (raC (rn 11) raN))))) (RfE.b (rc_bl _)))) (rt_test (ro rv_neD (RfE.b (re_call (raC (rn 2) (raC (rn 13) raN)))) (RfE.b (re_call (raC (rn 2) (raC (rn 11) raN))))))) (rs_ret (rc_bl _)) rs_next)))))))))))
        (rs_seq (rs_asg (re_callS (raC (rn 6) raN)) (rg_name 12))
        (rs_seq (rs_asg (re_cb ro_tupOf (rbC (RfE.b (RfF.e (rf_lc (ri_tup (rn 12)) (rg_name 14) rt_yes (re_tup (raC (rn 14) (raC (rn 14) raN)))))) rbN)) (rg_name 6))
        (rs_seq (rs_asg (re_call (raC (rn 2) (raC (rn 12) raN))) (rg_name 13))
        (rs_seq (rs_for (ri_r1 (rbC (RfE.b (ro rv_add (RfE.b (rn 4)) (RfE.b (rc_int _)))) rbN)) (rg_name 11) (rs_if (rt_or (rt_test (ro rv_ne (RfE.b (re_cb ro_repr (rbC (RfE.b (re_call (raC (rn 2) (raC (rn 6) (raC (rn 11) raN))))) rbN))) (RfE.b (re_cb ro_repr (rbC (RfE.b (ro rv_eq (RfE.b (rn 11)) (RfE.b (rn 13)))) rbN))))) (rt_test (ro rv_ne (RfE.b (re_cb ro_repr (rbC (RfE.b (re_call (raC (rn 2) (raC (rn 6) (raC (rn 11) raN))))) rbN))) (RfE.b (re_cb ro_repr (rbC (RfE.b (ro rv_eqD (RfE.b (re_call (raC (rn 2) (raC (rn 11) raN)))) (RfE.b (re_call (raC (rn 2) (raC (rn 13) raN)))))) rbN)))))) (rs_ret (rc_bl _)) rs_next))
        (rs_ret (ro rv_eq (RfE.b (re_cb ro_repr (rbC (RfE.b (rn 2)) rbN))) (RfE.b (rn 3))))))))))))) h (by decide) (by decide) ?_⟩
  simp only [true_and, ↓sTake, ↓sTake0, ↓sPick, ↓sNumber, rng_1, rng_2, rng_3, rng_4, rng_6, ↓dKd, dix_0, dix_1, dix_2, dix_3, dix_4, dix_5, dix_6, dix_7, dix_8, dix_9, Bool.not_false, Bool.not_true, Bool.and_true, Bool.true_and, Bool.and_false, Bool.false_and, decide_eq_true_eq, Bool.not_eq_true', decide_eq_false_iff_not, Bool.false_eq_true, if_true, if_false, ↓F0, ↓F1, ↓F2, ↓F3, ↓F4, ↓F5, ↓F6, ↓dParO1, ↓dParO2, ↓dEnumT, ↓oRepr, ↓dUn, ↓oNeg, ↓dSeq, ↓dRet, ↓dRetN, ↓dIf, ↓dAsg, ↓dDrop, ↓dBreak, ↓dCont, ↓dNext, ↓dOwn, ↓dApp, ↓dSetIx, ↓dFrz, frz, ↓dPar, ↓dAug, ↓dFor, ↓dN, ↓dNB, ↓dC, ↓dOp, ↓oI, ↓oI0, ↓oB, ↓oEq, ↓oEqS, eqS, ↓oIsN, isNo, ↓oIx, ↓oIxS, seqOf, ↓oCat, ↓oCatT, ↓oCatS, ↓oIn, ↓oInS, ↓dTb, ↓dAnd, ↓dOr, ↓dNot, ↓dYes, ↓dAndV, ↓dOrV, ↓dNotV, ↓dIfV, ↓dChain, ↓dNil, ↓dCons, ↓dL, ↓dTup, ↓dCB, ↓oAbs, ↓oI2, ↓oLen, ↓oLenS, ↓oInt, ↓oSum, ↓oBs, ↓oTupOf, ↓dSeqOf, ↓dIsi, it_bool_none, it_bool_bool, it_bool_int, it_bool_str, it_bool_list, it_bool_tuple, it_bool_dict, it_int_none, it_int_bool, it_int_int, it_int_str, it_int_list, it_int_tuple, it_int_dict, it_str_none, it_str_bool, it_str_int, it_str_str, it_str_list, it_str_tuple, it_str_dict, it_list_none, it_list_bool, it_list_int, it_list_str, it_list_list, it_list_tuple, it_list_dict, it_tuple_none, it_tuple_bool, it_tuple_int, it_tuple_str, it_tuple_list, it_tuple_tuple, it_tuple_dict, it_dict_none, it_dict_bool, it_dict_int, it_dict_str, it_dict_list, it_dict_tuple, it_dict_dict, ↓dNoP, ↓dPart, ↓dSlT, ↓dSlL, ↓dSlS, ↓dCall, ↓dCallS, ↓dItL, ↓dItT, ↓dItS, ↓dR1, ↓dR2, ↓dZip, ↓dEnum, ↓gN, ↓gNi, ↓gCo, ↓gT, ↓dLc, wipeE, eget, eset, List.set, ev0, List.map_cons, List.map_nil, List.cons_append, List.nil_append, List.replicate_succ, List.replicate_zero, noOwn, isOwn, List.all_cons, List.all_nil, List.length_cons, List.length_nil, lcD]
  refine ⟨8, rfl, by decide, by decide, fun t gt => ⟨gt.sz.rep, ?_⟩⟩
  have hlen : t.1.length ≤ 8 := gt.len
  simp only [eT, true_and, ↓sTake, ↓sTake0, ↓sPick, ↓sNumber, rng_1, rng_2, rng_3, rng_4, rng_6, ↓dKd, dix_0, dix_1, dix_2, dix_3, dix_4, dix_5, dix_6, dix_7, dix_8, dix_9, Bool.not_false, Bool.not_true, Bool.and_true, Bool.true_and, Bool.and_false, Bool.false_and, decide_eq_true_eq, Bool.not_eq_true', decide_eq_false_iff_not, Bool.false_eq_true, if_true, if_false, ↓F0, ↓F1, ↓F2, ↓F3, ↓F4, ↓F5, ↓F6, ↓dParO1, ↓dParO2, ↓dEnumT, ↓oRepr, ↓dUn, ↓oNeg, ↓dSeq, ↓dRet, ↓dRetN, ↓dIf, ↓dAsg, ↓dDrop, ↓dBreak, ↓dCont, ↓dNext, ↓dOwn, ↓dApp, ↓dSetIx, ↓dFrz, frz, ↓dPar, ↓dAug, ↓dFor, ↓dN, ↓dNB, ↓dC, ↓dOp, ↓oI, ↓oI0, ↓oB, ↓oEq, ↓oEqS, eqS, ↓oIsN, isNo, ↓oIx, ↓oIxS, seqOf, ↓oCat, ↓oCatT, ↓oCatS, ↓oIn, ↓oInS, ↓dTb, ↓dAnd, ↓dOr, ↓dNot, ↓dYes, ↓dAndV, ↓dOrV, ↓dNotV, ↓dIfV, ↓dChain, ↓dNil, ↓dCons, ↓dL, ↓dTup, ↓dCB, ↓oAbs, ↓oI2, ↓oLen, ↓oLenS, ↓oInt, ↓oSum, ↓oBs, ↓oTupOf, ↓dSeqOf, ↓dIsi, it_bool_none, it_bool_bool, it_bool_int, it_bool_str, it_bool_list, it_bool_tuple, it_bool_dict, it_int_none, it_int_bool, it_int_int, it_int_str, it_int_list, it_int_tuple, it_int_dict, it_str_none, it_str_bool, it_str_int, it_str_str, it_str_list, it_str_tuple, it_str_dict, it_list_none, it_list_bool, it_list_int, it_list_str, it_list_list, it_list_tuple, it_list_dict, it_tuple_none, it_tuple_bool, it_tuple_int, it_tuple_str, it_tuple_list, it_tuple_tuple, it_tuple_dict, it_dict_none, it_dict_bool, it_dict_int, it_dict_str, it_dict_list, it_dict_tuple, it_dict_dict, ↓dNoP, ↓dPart, ↓dSlT, ↓dSlL, ↓dSlS, ↓dCall, ↓dCallS, ↓dItL, ↓dItT, ↓dItS, ↓dR1, ↓dR2, ↓dZip, ↓dEnum, ↓gN, ↓gNi, ↓gCo, ↓gT, ↓dLc, wipeE, eget, eset, List.set, ev0, List.map_cons, List.map_nil, List.cons_append, List.nil_append, List.replicate_succ, List.replicate_zero, noOwn, isOwn, List.all_cons, List.all_nil, List.length_cons, List.length_nil, List.length_map]
  refine ⟨by decide, by decide, ?_⟩
  refine loop_by (fun rest env => ∃ (s5 s6 s7 s8 s9 s10 : Option En) (o11 : Option D) (s12 s13 : Option En), (rest = [] → ∃ bx, GB bx ∧ s6 = some (.d (eB bx))) ∧ env = [none, some .st, some (.d (eT t)), some (.d (.str (eT t).shown)), some (.d (.int (t.1.length : Nat))), s5, s6, s7, s8, s9, s10, o11.map En.d, s12, s13, none]) ?_ ?_ _ _ ⟨_, _, _, _, _, _, none, _, _, (fun z => nomatch z), rfl⟩
  · rintro env ⟨s5, s6, s7, s8, s9, s10, o11, s12, s13, hh, rfl⟩
    obtain ⟨bx, hb, rfl⟩ := hh rfl
    simp only [eT, true_and, ↓sTake, ↓sTake0, ↓sPick, ↓sNumber, rng_1, rng_2, rng_3, rng_4, rng_6, ↓dKd, dix_0, dix_1, dix_2, dix_3, dix_4, dix_5, dix_6, dix_7, dix_8, dix_9, Bool.not_false, Bool.not_true, Bool.and_true, Bool.true_and, Bool.and_false, Bool.false_and, decide_eq_true_eq, Bool.not_eq_true', decide_eq_false_iff_not, Bool.false_eq_true, if_true, if_false, ↓F0, ↓F1, ↓F2, ↓F3, ↓F4, ↓F5, ↓F6, ↓dParO1, ↓dParO2, ↓dEnumT, ↓oRepr, ↓dUn, ↓oNeg, ↓dSeq, ↓dRet, ↓dRetN, ↓dIf, ↓dAsg, ↓dDrop, ↓dBreak, ↓dCont, ↓dNext, ↓dOwn, ↓dApp, ↓dSetIx, ↓dFrz, frz, ↓dPar, ↓dAug, ↓dFor, ↓dN, ↓dNB, ↓dC, ↓dOp, ↓oI, ↓oI0, ↓oB, ↓oEq, ↓oEqS, eqS, ↓oIsN, isNo, ↓oIx, ↓oIxS, seqOf, ↓oCat, ↓oCatT, ↓oCatS, ↓oIn, ↓oInS, ↓dTb, ↓dAnd, ↓dOr, ↓dNot, ↓dYes, ↓dAndV, ↓dOrV, ↓dNotV, ↓dIfV, ↓dChain, ↓dNil, ↓dCons, ↓dL, ↓dTup, ↓dCB, ↓oAbs, ↓oI2, ↓oLen, ↓oLenS, ↓oInt, ↓oSum, ↓oBs, ↓oTupOf, ↓dSeqOf, ↓dIsi, it_bool_none, it_bool_bool, it_bool_int, it_bool_str, it_bool_list, it_bool_tuple, it_bool_dict, it_int_none, it_int_bool, it_int_int, it_int_str, it_int_list, it_int_tuple, it_int_dict, it_str_none, it_str_bool, it_str_int, it_str_str, it_str_list, it_str_tuple, it_str_dict, it_list_none, it_list_bool, it_list_int, it_list_str, it_list_list, it_list_tuple, it_list_dict, it_tuple_none, it_tuple_bool, it_tuple_int, it_tuple_str, it_tuple_list, it_tuple_tuple, it_tuple_dict, it_dict_none, it_dict_bool, it_dict_int, it_dict_str, it_dict_list, it_dict_tuple, it_dict_dict, ↓dNoP, ↓dPart, ↓dSlT, ↓dSlL, ↓dSlS, ↓dCall, ↓dCallS, ↓dItL, ↓dItT, ↓dItS, ↓dR1, ↓dR2, ↓dZip, ↓dEnum, ↓gN, ↓gNi, ↓gCo, ↓gT, ↓dLc, wipeE, eget, eset, List.set, ev0, List.map_cons, List.map_nil, List.cons_append, List.nil_append, List.replicate_succ, List.replicate_zero, noOwn, isOwn, List.all_cons, List.all_nil, List.length_cons, List.length_nil]
    refine ⟨bx, rfl, hb, fun p hp1 hp2 => ?_⟩
    simp only [eP, true_and, ↓sTake, ↓sTake0, ↓sPick, ↓sNumber, rng_1, rng_2, rng_3, rng_4, rng_6, ↓dKd, dix_0, dix_1, dix_2, dix_3, dix_4, dix_5, dix_6, dix_7, dix_8, dix_9, Bool.not_false, Bool.not_true, Bool.and_true, Bool.true_and, Bool.and_false, Bool.false_and, decide_eq_true_eq, Bool.not_eq_true', decide_eq_false_iff_not, Bool.false_eq_true, if_true, if_false, ↓F0, ↓F1, ↓F2, ↓F3, ↓F4, ↓F5, ↓F6, ↓dParO1, ↓dParO2, ↓dEnumT, ↓oRepr, ↓dUn, ↓oNeg, ↓dSeq, ↓dRet, ↓dRetN, ↓dIf, ↓dAsg, ↓dDrop, ↓dBreak, ↓dCont, ↓dNext, ↓dOwn, ↓dApp, ↓dSetIx, ↓dFrz, frz, ↓dPar, ↓dAug, ↓dFor, ↓dN, ↓dNB, ↓dC, ↓dOp, ↓oI, ↓oI0, ↓oB, ↓oEq, ↓oEqS, eqS, ↓oIsN, isNo, ↓oIx, ↓oIxS, seqOf, ↓oCat, ↓oCatT, ↓oCatS, ↓oIn, ↓oInS, ↓dTb, ↓dAnd, ↓dOr, ↓dNot, ↓dYes, ↓dAndV, ↓dOrV, ↓dNotV, ↓dIfV, ↓dChain, ↓dNil, ↓dCons, ↓dL, ↓dTup, ↓dCB, ↓oAbs, ↓oI2, ↓oLen, ↓oLenS, ↓oInt, ↓oSum, ↓oBs, ↓oTupOf, ↓dSeqOf, ↓dIsi, it_bool_none, it_bool_bool, it_bool_int, it_bool_str, it_bool_list, it_bool_tuple, it_bool_dict, it_int_none, it_int_bool, it_int_int, it_int_str, it_int_list, it_int_tuple, it_int_dict, it_str_none, it_str_bool, it_str_int, it_str_str, it_str_list, it_str_tuple, it_str_dict, it_list_none, it_list_bool, it_list_int, it_list_str, it_list_list, it_list_tuple, it_list_dict, it_tuple_none, it_tuple_bool, it_tuple_int, it_tuple_str, it_tuple_list, it_tuple_tuple, it_tuple_dict, it_dict_none, it_dict_bool, it_dict_int, it_dict_str, it_dict_list, it_dict_tuple, it_dict_dict, ↓dNoP, ↓dPart, ↓dSlT, ↓dSlL, ↓dSlS, ↓dCall, ↓dCallS, ↓dItL, ↓dItT, ↓dItS, ↓dR1, ↓dR2, ↓dZip, ↓dEnum, ↓gN, ↓gNi, ↓gCo, ↓gT, ↓dLc, wipeE, eget, eset, List.set, ev0, List.map_cons, List.map_nil, List.cons_append, List.nil_append, List.replicate_succ, List.replicate_zero, noOwn, isOwn, List.all_cons, List.all_nil, List.length_cons, List.length_nil]
    refine ⟨by rw [List.length_map, hp1]; decide, ?_⟩
    refine lc_fun PyData.int (fun n => some (eR (n, n))) (as := p) (fun n hn R hR => ?_) ?_
    · simp only [true_and, ↓sTake, ↓sTake0, ↓sPick, ↓sNumber, rng_1, rng_2, rng_3, rng_4, rng_6, ↓dKd, dix_0, dix_1, dix_2, dix_3, dix_4, dix_5, dix_6, dix_7, dix_8, dix_9, Bool.not_false, Bool.not_true, Bool.and_true, Bool.true_and, Bool.and_false, Bool.false_and, decide_eq_true_eq, Bool.not_eq_true', decide_eq_false_iff_not, Bool.false_eq_true, if_true, if_false, ↓F0, ↓F1, ↓F2, ↓F3, ↓F4, ↓F5, ↓F6, ↓dParO1, ↓dParO2, ↓dEnumT, ↓oRepr, ↓dUn, ↓oNeg, ↓dSeq, ↓dRet, ↓dRetN, ↓dIf, ↓dAsg, ↓dDrop, ↓dBreak, ↓dCont, ↓dNext, ↓dOwn, ↓dApp, ↓dSetIx, ↓dFrz, frz, ↓dPar, ↓dAug, ↓dFor, ↓dN, ↓dNB, ↓dC, ↓dOp, ↓oI, ↓oI0, ↓oB, ↓oEq, ↓oEqS, eqS, ↓oIsN, isNo, ↓oIx, ↓oIxS, seqOf, ↓oCat, ↓oCatT, ↓oCatS, ↓oIn, ↓oInS, ↓dTb, ↓dAnd, ↓dOr, ↓dNot, ↓dYes, ↓dAndV, ↓dOrV, ↓dNotV, ↓dIfV, ↓dChain, ↓dNil, ↓dCons, ↓dL, ↓dTup, ↓dCB, ↓oAbs, ↓oI2, ↓oLen, ↓oLenS, ↓oInt, ↓oSum, ↓oBs, ↓oTupOf, ↓dSeqOf, ↓dIsi, it_bool_none, it_bool_bool, it_bool_int, it_bool_str, it_bool_list, it_bool_tuple, it_bool_dict, it_int_none, it_int_bool, it_int_int, it_int_str, it_int_list, it_int_tuple, it_int_dict, it_str_none, it_str_bool, it_str_int, it_str_str, it_str_list, it_str_tuple, it_str_dict, it_list_none, it_list_bool, it_list_int, it_list_str, it_list_list, it_list_tuple, it_list_dict, it_tuple_none, it_tuple_bool, it_tuple_int, it_tuple_str, it_tuple_list, it_tuple_tuple, it_tuple_dict, it_dict_none, it_dict_bool, it_dict_int, it_dict_str, it_dict_list, it_dict_tuple, it_dict_dict, ↓dNoP, ↓dPart, ↓dSlT, ↓dSlL, ↓dSlS, ↓dCall, ↓dCallS, ↓dItL, ↓dItT, ↓dItS, ↓dR1, ↓dR2, ↓dZip, ↓dEnum, ↓gN, ↓gNi, ↓gCo, ↓gT, ↓dLc, wipeE, eget, eset, List.set, ev0, List.map_cons, List.map_nil, List.cons_append, List.nil_append, List.replicate_succ, List.replicate_zero, noOwn, isOwn, List.all_cons, List.all_nil, List.length_cons, List.length_nil]
      exact hR
    rw [fm_some]
    refine ⟨t, p, rfl, rfl, by omega, hp1, gt.dj, by omega, by omega, ?_⟩
    rw [show (↑t.1.length + 1 : Int).toNat = t.1.length + 1 by omega, show rng 0 (t.1.length + 1) = ixn (t.1.length + 1) 0 from rng_eq _]
    have eb : PyData.tuple (p.map fun n => eR (n, n)) = eB (ptB p) := by unfold eB ptB; rw [List.map_map]; rfl
    rw [eb]
    refine loop_by (fun rest env => ∃ (i : Nat) (s5 s7 s8 s9 s10 s11 s12 : Option En), i ≤ t.1.length + 1 ∧ rest = ixn (t.1.length + 1) i ∧ env = [none, some .st, some (.d (eT t)), some (.d (.str (eT t).shown)), some (.d (.int (t.1.length : Nat))), s5, some (.d (eB (ptB p))), s7, s8, s9, s10, s11, s12, some (.d (.int (decN p t.1 : Nat))), none]) ?_ ?_ _ _ ⟨0, _, _, _, _, _, _, _, Nat.zero_le _, rfl, rfl⟩
    · rintro env ⟨i, s5, s7, s8, s9, s10, s11, s12, _, _, rfl⟩
      simp only [eT, true_and, ↓sTake, ↓sTake0, ↓sPick, ↓sNumber, rng_1, rng_2, rng_3, rng_4, rng_6, ↓dKd, dix_0, dix_1, dix_2, dix_3, dix_4, dix_5, dix_6, dix_7, dix_8, dix_9, Bool.not_false, Bool.not_true, Bool.and_true, Bool.true_and, Bool.and_false, Bool.false_and, decide_eq_true_eq, Bool.not_eq_true', decide_eq_false_iff_not, Bool.false_eq_true, if_true, if_false, ↓F0, ↓F1, ↓F2, ↓F3, ↓F4, ↓F5, ↓F6, ↓dParO1, ↓dParO2, ↓dEnumT, ↓oRepr, ↓dUn, ↓oNeg, ↓dSeq, ↓dRet, ↓dRetN, ↓dIf, ↓dAsg, ↓dDrop, ↓dBreak, ↓dCont, ↓dNext, ↓dOwn, ↓dApp, ↓dSetIx, ↓dFrz, frz, ↓dPar, ↓dAug, ↓dFor, ↓dN, ↓dNB, ↓dC, ↓dOp, ↓oI, ↓oI0, ↓oB, ↓oEq, ↓oEqS, eqS, ↓oIsN, isNo, ↓oIx, ↓oIxS, seqOf, ↓oCat, ↓oCatT, ↓oCatS, ↓oIn, ↓oInS, ↓dTb, ↓dAnd, ↓dOr, ↓dNot, ↓dYes, ↓dAndV, ↓dOrV, ↓dNotV, ↓dIfV, ↓dChain, ↓dNil, ↓dCons, ↓dL, ↓dTup, ↓dCB, ↓oAbs, ↓oI2, ↓oLen, ↓oLenS, ↓oInt, ↓oSum, ↓oBs, ↓oTupOf, ↓dSeqOf, ↓dIsi, it_bool_none, it_bool_bool, it_bool_int, it_bool_str, it_bool_list, it_bool_tuple, it_bool_dict, it_int_none, it_int_bool, it_int_int, it_int_str, it_int_list, it_int_tuple, it_int_dict, it_str_none, it_str_bool, it_str_int, it_str_str, it_str_list, it_str_tuple, it_str_dict, it_list_none, it_list_bool, it_list_int, it_list_str, it_list_list, it_list_tuple, it_list_dict, it_tuple_none, it_tuple_bool, it_tuple_int, it_tuple_str, it_tuple_list, it_tuple_tuple, it_tuple_dict, it_dict_none, it_dict_bool, it_dict_int, it_dict_str, it_dict_list, it_dict_tuple, it_dict_dict, ↓dNoP, ↓dPart, ↓dSlT, ↓dSlL, ↓dSlS, ↓dCall, ↓dCallS, ↓dItL, ↓dItT, ↓dItS, ↓dR1, ↓dR2, ↓dZip, ↓dEnum, ↓gN, ↓gNi, ↓gCo, ↓gT, ↓dLc, wipeE, eget, eset, List.set, ev0, List.map_cons, List.map_nil, List.cons_append, List.nil_append, List.replicate_succ, List.replicate_zero, noOwn, isOwn, List.all_cons, List.all_nil, List.length_cons, List.length_nil]
      exact ⟨gt.sz.rep, rfl⟩
    · rintro d rest env N ⟨k, s5, s7, s8, s9, s10, s11, s12, hk, h1, rfl⟩ hN
      obtain ⟨h6, rfl, rfl⟩ := ixn_cons h1
      have hk' : k ≤ t.1.length := by omega
      simp only [eT, true_and, ↓sTake, ↓sTake0, ↓sPick, ↓sNumber, rng_1, rng_2, rng_3, rng_4, rng_6, ↓dKd, dix_0, dix_1, dix_2, dix_3, dix_4, dix_5, dix_6, dix_7, dix_8, dix_9, Bool.not_false, Bool.not_true, Bool.and_true, Bool.true_and, Bool.and_false, Bool.false_and, decide_eq_true_eq, Bool.not_eq_true', decide_eq_false_iff_not, Bool.false_eq_true, if_true, if_false, ↓F0, ↓F1, ↓F2, ↓F3, ↓F4, ↓F5, ↓F6, ↓dParO1, ↓dParO2, ↓dEnumT, ↓oRepr, ↓dUn, ↓oNeg, ↓dSeq, ↓dRet, ↓dRetN, ↓dIf, ↓dAsg, ↓dDrop, ↓dBreak, ↓dCont, ↓dNext, ↓dOwn, ↓dApp, ↓dSetIx, ↓dFrz, frz, ↓dPar, ↓dAug, ↓dFor, ↓dN, ↓dNB, ↓dC, ↓dOp, ↓oI, ↓oI0, ↓oB, ↓oEq, ↓oEqS, eqS, ↓oIsN, isNo, ↓oIx, ↓oIxS, seqOf, ↓oCat, ↓oCatT, ↓oCatS, ↓oIn, ↓oInS, ↓dTb, ↓dAnd, ↓dOr, ↓dNot, ↓dYes, ↓dAndV, ↓dOrV, ↓dNotV, ↓dIfV, ↓dChain, ↓dNil, ↓dCons, ↓dL, ↓dTup, ↓dCB, ↓oAbs, ↓oI2, ↓oLen, ↓oLenS, ↓oInt, ↓oSum, ↓oBs, ↓oTupOf, ↓dSeqOf, ↓dIsi, it_bool_none, it_bool_bool, it_bool_int, it_bool_str, it_bool_list, it_bool_tuple, it_bool_dict, it_int_none, it_int_bool, it_int_int, it_int_str, it_int_list, it_int_tuple, it_int_dict, it_str_none, it_str_bool, it_str_int, it_str_str, it_str_list, it_str_tuple, it_str_dict, it_list_none, it_list_bool, it_list_int, it_list_str, it_list_list, it_list_tuple, it_list_dict, it_tuple_none, it_tuple_bool, it_tuple_int, it_tuple_str, it_tuple_list, it_tuple_tuple, it_tuple_dict, it_dict_none, it_dict_bool, it_dict_int, it_dict_str, it_dict_list, it_dict_tuple, it_dict_dict, ↓dNoP, ↓dPart, ↓dSlT, ↓dSlL, ↓dSlS, ↓dCall, ↓dCallS, ↓dItL, ↓dItT, ↓dItS, ↓dR1, ↓dR2, ↓dZip, ↓dEnum, ↓gN, ↓gNi, ↓gCo, ↓gT, ↓dLc, wipeE, eget, eset, List.set, ev0, List.map_cons, List.map_nil, List.cons_append, List.nil_append, List.replicate_succ, List.replicate_zero, noOwn, isOwn, List.all_cons, List.all_nil, List.length_cons, List.length_nil]
      refine ⟨t, ptB p, k, rfl, rfl, rfl, hk', by omega, (Sz.bool _).rep, (Sz.bool _).rep, ?_⟩
      have e1 : decB t (ptB p) k = decide ((k : Int) = (decN p t.1 : Nat)) := by
        rw [dec_leaf hk' (fun q hq => ?_), leafB_pt hk']
        · rw [Bool.eq_iff_iff, decide_eq_true_eq, decide_eq_true_eq]
          omega
        · unfold ptB at hq
          obtain ⟨n, _, rfl⟩ := List.mem_map.mp hq
          exact Int.le_refl n
      rw [e1, if_neg (not_not_intro rfl)]
      refine ⟨t, ptB p, k, rfl, rfl, rfl, hk', by omega, gt.okT, (Sz.bool _).rep, t, k, rfl, rfl, hk', t, decN p t.1, rfl, rfl, decN_le p t.1, gt.okT.at k, gt.okT.at _, (Sz.bool _).rep, ?_⟩
      rw [alk_pt, ← fateD_at, ft_sym _ (gt.ft _) _ (gt.ft k), if_neg (not_not_intro rfl)]
      exact hN _ ⟨k + 1, _, _, _, _, _, _, _, by omega, rfl, rfl⟩
  · rintro d rest env N ⟨s5, s6, s7, s8, s9, s10, o11, s12, s13, _, rfl⟩ hN
    simp only [eT, true_and, ↓sTake, ↓sTake0, ↓sPick, ↓sNumber, rng_1, rng_2, rng_3, rng_4, rng_6, ↓dKd, dix_0, dix_1, dix_2, dix_3, dix_4, dix_5, dix_6, dix_7, dix_8, dix_9, Bool.not_false, Bool.not_true, Bool.and_true, Bool.true_and, Bool.and_false, Bool.false_and, decide_eq_true_eq, Bool.not_eq_true', decide_eq_false_iff_not, Bool.false_eq_true, if_true, if_false, ↓F0, ↓F1, ↓F2, ↓F3, ↓F4, ↓F5, ↓F6, ↓dParO1, ↓dParO2, ↓dEnumT, ↓oRepr, ↓dUn, ↓oNeg, ↓dSeq, ↓dRet, ↓dRetN, ↓dIf, ↓dAsg, ↓dDrop, ↓dBreak, ↓dCont, ↓dNext, ↓dOwn, ↓dApp, ↓dSetIx, ↓dFrz, frz, ↓dPar, ↓dAug, ↓dFor, ↓dN, ↓dNB, ↓dC, ↓dOp, ↓oI, ↓oI0, ↓oB, ↓oEq, ↓oEqS, eqS, ↓oIsN, isNo, ↓oIx, ↓oIxS, seqOf, ↓oCat, ↓oCatT, ↓oCatS, ↓oIn, ↓oInS, ↓dTb, ↓dAnd, ↓dOr, ↓dNot, ↓dYes, ↓dAndV, ↓dOrV, ↓dNotV, ↓dIfV, ↓dChain, ↓dNil, ↓dCons, ↓dL, ↓dTup, ↓dCB, ↓oAbs, ↓oI2, ↓oLen, ↓oLenS, ↓oInt, ↓oSum, ↓oBs, ↓oTupOf, ↓dSeqOf, ↓dIsi, it_bool_none, it_bool_bool, it_bool_int, it_bool_str, it_bool_list, it_bool_tuple, it_bool_dict, it_int_none, it_int_bool, it_int_int, it_int_str, it_int_list, it_int_tuple, it_int_dict, it_str_none, it_str_bool, it_str_int, it_str_str, it_str_list, it_str_tuple, it_str_dict, it_list_none, it_list_bool, it_list_int, it_list_str, it_list_list, it_list_tuple, it_list_dict, it_tuple_none, it_tuple_bool, it_tuple_int, it_tuple_str, it_tuple_list, it_tuple_tuple, it_tuple_dict, it_dict_none, it_dict_bool, it_dict_int, it_dict_str, it_dict_list, it_dict_tuple, it_dict_dict, ↓dNoP, ↓dPart, ↓dSlT, ↓dSlL, ↓dSlS, ↓dCall, ↓dCallS, ↓dItL, ↓dItT, ↓dItS, ↓dR1, ↓dR2, ↓dZip, ↓dEnum, ↓gN, ↓gNi, ↓gCo, ↓gT, ↓dLc, wipeE, eget, eset, List.set, ev0, List.map_cons, List.map_nil, List.cons_append, List.nil_append, List.replicate_succ, List.replicate_zero, noOwn, isOwn, List.all_cons, List.all_nil, List.length_cons, List.length_nil]
    refine ⟨t, rfl, gt, fun bx hb => ?_⟩
    have hbl : ∀ p ∈ bx, p.1 ≤ p.2 := fun p hp => (hb.2 p hp).2.1
    refine loop_by (fun rest env => ∃ (us : List Rule) (s7 s8 s9 : Option En), rest = us.map eRu ∧ (∀ u ∈ us, u ∈ t.1) ∧ env = [none, some .st, some (.d (eT t)), some (.d (.str (eT t).shown)), some (.d (.int (t.1.length : Nat))), some (.d d), some (.d (eB bx)), s7, s8, s9, s10, o11.map En.d, s12, s13, none]) ?_ ?_ _ _ ⟨t.1, _, _, _, rfl, fun _ h => h, rfl⟩
    · rintro env ⟨us, s7, s8, s9, _, _, rfl⟩
      simp only [eT, true_and, ↓sTake, ↓sTake0, ↓sPick, ↓sNumber, rng_1, rng_2, rng_3, rng_4, rng_6, ↓dKd, dix_0, dix_1, dix_2, dix_3, dix_4, dix_5, dix_6, dix_7, dix_8, dix_9, Bool.not_false, Bool.not_true, Bool.and_true, Bool.true_and, Bool.and_false, Bool.false_and, decide_eq_true_eq, Bool.not_eq_true', decide_eq_false_iff_not, Bool.false_eq_true, if_true, if_false, ↓F0, ↓F1, ↓F2, ↓F3, ↓F4, ↓F5, ↓F6, ↓dParO1, ↓dParO2, ↓dEnumT, ↓oRepr, ↓dUn, ↓oNeg, ↓dSeq, ↓dRet, ↓dRetN, ↓dIf, ↓dAsg, ↓dDrop, ↓dBreak, ↓dCont, ↓dNext, ↓dOwn, ↓dApp, ↓dSetIx, ↓dFrz, frz, ↓dPar, ↓dAug, ↓dFor, ↓dN, ↓dNB, ↓dC, ↓dOp, ↓oI, ↓oI0, ↓oB, ↓oEq, ↓oEqS, eqS, ↓oIsN, isNo, ↓oIx, ↓oIxS, seqOf, ↓oCat, ↓oCatT, ↓oCatS, ↓oIn, ↓oInS, ↓dTb, ↓dAnd, ↓dOr, ↓dNot, ↓dYes, ↓dAndV, ↓dOrV, ↓dNotV, ↓dIfV, ↓dChain, ↓dNil, ↓dCons, ↓dL, ↓dTup, ↓dCB, ↓oAbs, ↓oI2, ↓oLen, ↓oLenS, ↓oInt, ↓oSum, ↓oBs, ↓oTupOf, ↓dSeqOf, ↓dIsi, it_bool_none, it_bool_bool, it_bool_int, it_bool_str, it_bool_list, it_bool_tuple, it_bool_dict, it_int_none, it_int_bool, it_int_int, it_int_str, it_int_list, it_int_tuple, it_int_dict, it_str_none, it_str_bool, it_str_int, it_str_str, it_str_list, it_str_tuple, it_str_dict, it_list_none, it_list_bool, it_list_int, it_list_str, it_list_list, it_list_tuple, it_list_dict, it_tuple_none, it_tuple_bool, it_tuple_int, it_tuple_str, it_tuple_list, it_tuple_tuple, it_tuple_dict, it_dict_none, it_dict_bool, it_dict_int, it_dict_str, it_dict_list, it_dict_tuple, it_dict_dict, ↓dNoP, ↓dPart, ↓dSlT, ↓dSlL, ↓dSlS, ↓dCall, ↓dCallS, ↓dItL, ↓dItT, ↓dItS, ↓dR1, ↓dR2, ↓dZip, ↓dEnum, ↓gN, ↓gNi, ↓gCo, ↓gT, ↓dLc, wipeE, eget, eset, List.set, ev0, List.map_cons, List.map_nil, List.cons_append, List.nil_append, List.replicate_succ, List.replicate_zero, noOwn, isOwn, List.all_cons, List.all_nil, List.length_cons, List.length_nil]
      refine ⟨by cases o11 <;> rfl, by decide, by decide, by decide, ?_⟩
      refine lc_draws (fun d => ∃ p : List Int, d = eP p ∧ p.length = 6 ∧ Inn bx p) (fun d hd R hR => ?_) (fun xs hx1 hx2 => ?_)
      · simp only [true_and, ↓sTake, ↓sTake0, ↓sPick, ↓sNumber, rng_1, rng_2, rng_3, rng_4, rng_6, ↓dKd, dix_0, dix_1, dix_2, dix_3, dix_4, dix_5, dix_6, dix_7, dix_8, dix_9, Bool.not_false, Bool.not_true, Bool.and_true, Bool.true_and, Bool.and_false, Bool.false_and, decide_eq_true_eq, Bool.not_eq_true', decide_eq_false_iff_not, Bool.false_eq_true, if_true, if_false, ↓F0, ↓F1, ↓F2, ↓F3, ↓F4, ↓F5, ↓F6, ↓dParO1, ↓dParO2, ↓dEnumT, ↓oRepr, ↓dUn, ↓oNeg, ↓dSeq, ↓dRet, ↓dRetN, ↓dIf, ↓dAsg, ↓dDrop, ↓dBreak, ↓dCont, ↓dNext, ↓dOwn, ↓dApp, ↓dSetIx, ↓dFrz, frz, ↓dPar, ↓dAug, ↓dFor, ↓dN, ↓dNB, ↓dC, ↓dOp, ↓oI, ↓oI0, ↓oB, ↓oEq, ↓oEqS, eqS, ↓oIsN, isNo, ↓oIx, ↓oIxS, seqOf, ↓oCat, ↓oCatT, ↓oCatS, ↓oIn, ↓oInS, ↓dTb, ↓dAnd, ↓dOr, ↓dNot, ↓dYes, ↓dAndV, ↓dOrV, ↓dNotV, ↓dIfV, ↓dChain, ↓dNil, ↓dCons, ↓dL, ↓dTup, ↓dCB, ↓oAbs, ↓oI2, ↓oLen, ↓oLenS, ↓oInt, ↓oSum, ↓oBs, ↓oTupOf, ↓dSeqOf, ↓dIsi, it_bool_none, it_bool_bool, it_bool_int, it_bool_str, it_bool_list, it_bool_tuple, it_bool_dict, it_int_none, it_int_bool, it_int_int, it_int_str, it_int_list, it_int_tuple, it_int_dict, it_str_none, it_str_bool, it_str_int, it_str_str, it_str_list, it_str_tuple, it_str_dict, it_list_none, it_list_bool, it_list_int, it_list_str, it_list_list, it_list_tuple, it_list_dict, it_tuple_none, it_tuple_bool, it_tuple_int, it_tuple_str, it_tuple_list, it_tuple_tuple, it_tuple_dict, it_dict_none, it_dict_bool, it_dict_int, it_dict_str, it_dict_list, it_dict_tuple, it_dict_dict, ↓dNoP, ↓dPart, ↓dSlT, ↓dSlL, ↓dSlS, ↓dCall, ↓dCallS, ↓dItL, ↓dItT, ↓dItS, ↓dR1, ↓dR2, ↓dZip, ↓dEnum, ↓gN, ↓gNi, ↓gCo, ↓gT, ↓dLc, wipeE, eget, eset, List.set, ev0, List.map_cons, List.map_nil, List.cons_append, List.nil_append, List.replicate_succ, List.replicate_zero, noOwn, isOwn, List.all_cons, List.all_nil, List.length_cons, List.length_nil]
        exact ⟨bx, rfl, hb, fun p hp1 hp2 => hR _ ⟨p, rfl, hp1, hp2⟩⟩
      · refine ⟨by omega, by omega, ?_⟩
        rw [show (↑t.1.length + 1 : Int).toNat = t.1.length + 1 by omega, show rng 0 (t.1.length + 1) = ixn (t.1.length + 1) 0 from rng_eq _]
        refine loop_by (fun rest env => ∃ (i : Nat) (o11 : Option D) (s12 s13 : Option En), i ≤ t.1.length + 1 ∧ rest = ixn (t.1.length + 1) i ∧ env = [none, some .st, some (.d (eT t)), some (.d (.str (eT t).shown)), some (.d (.int (t.1.length : Nat))), some (.d d), some (.d (eB bx)), s7, s8, s9, some (.d (.list xs)), o11.map En.d, s12, s13, none]) ?_ ?_ _ _ ⟨0, o11, _, _, Nat.zero_le _, rfl, rfl⟩
        · rintro env ⟨i, o11, s12, s13, _, _, rfl⟩
          exact hN _ ⟨_, _, _, _, _, _, o11, _, _, fun _ => ⟨bx, hb, rfl⟩, rfl⟩
        · rintro d2 rest env N2 ⟨k, o11, s12, s13, hk, h1, rfl⟩ hN2
          obtain ⟨h6, rfl, rfl⟩ := ixn_cons h1
          have hk' : k ≤ t.1.length := by omega
          simp only [eT, true_and, ↓sTake, ↓sTake0, ↓sPick, ↓sNumber, rng_1, rng_2, rng_3, rng_4, rng_6, ↓dKd, dix_0, dix_1, dix_2, dix_3, dix_4, dix_5, dix_6, dix_7, dix_8, dix_9, Bool.not_false, Bool.not_true, Bool.and_true, Bool.true_and, Bool.and_false, Bool.false_and, decide_eq_true_eq, Bool.not_eq_true', decide_eq_false_iff_not, Bool.false_eq_true, if_true, if_false, ↓F0, ↓F1, ↓F2, ↓F3, ↓F4, ↓F5, ↓F6, ↓dParO1, ↓dParO2, ↓dEnumT, ↓oRepr, ↓dUn, ↓oNeg, ↓dSeq, ↓dRet, ↓dRetN, ↓dIf, ↓dAsg, ↓dDrop, ↓dBreak, ↓dCont, ↓dNext, ↓dOwn, ↓dApp, ↓dSetIx, ↓dFrz, frz, ↓dPar, ↓dAug, ↓dFor, ↓dN, ↓dNB, ↓dC, ↓dOp, ↓oI, ↓oI0, ↓oB, ↓oEq, ↓oEqS, eqS, ↓oIsN, isNo, ↓oIx, ↓oIxS, seqOf, ↓oCat, ↓oCatT, ↓oCatS, ↓oIn, ↓oInS, ↓dTb, ↓dAnd, ↓dOr, ↓dNot, ↓dYes, ↓dAndV, ↓dOrV, ↓dNotV, ↓dIfV, ↓dChain, ↓dNil, ↓dCons, ↓dL, ↓dTup, ↓dCB, ↓oAbs, ↓oI2, ↓oLen, ↓oLenS, ↓oInt, ↓oSum, ↓oBs, ↓oTupOf, ↓dSeqOf, ↓dIsi, it_bool_none, it_bool_bool, it_bool_int, it_bool_str, it_bool_list, it_bool_tuple, it_bool_dict, it_int_none, it_int_bool, it_int_int, it_int_str, it_int_list, it_int_tuple, it_int_dict, it_str_none, it_str_bool, it_str_int, it_str_str, it_str_list, it_str_tuple, it_str_dict, it_list_none, it_list_bool, it_list_int, it_list_str, it_list_list, it_list_tuple, it_list_dict, it_tuple_none, it_tuple_bool, it_tuple_int, it_tuple_str, it_tuple_list, it_tuple_tuple, it_tuple_dict, it_dict_none, it_dict_bool, it_dict_int, it_dict_str, it_dict_list, it_dict_tuple, it_dict_dict, ↓dNoP, ↓dPart, ↓dSlT, ↓dSlL, ↓dSlS, ↓dCall, ↓dCallS, ↓dItL, ↓dItT, ↓dItS, ↓dR1, ↓dR2, ↓dZip, ↓dEnum, ↓gN, ↓gNi, ↓gCo, ↓gT, ↓dLc, wipeE, eget, eset, List.set, ev0, List.map_cons, List.map_nil, List.cons_append, List.nil_append, List.replicate_succ, List.replicate_zero, noOwn, isOwn, List.all_cons, List.all_nil, List.length_cons, List.length_nil]
          refine ⟨t, bx, k, rfl, rfl, rfl, hk', by omega, (Sz.bool _).rep, t, bx, k, rfl, rfl, rfl, hk', by omega, hb.1, gt.gm, (Sz.bool _).rep, ?_⟩
          rw [dec_leaf hk' hbl, if_neg (not_not_intro rfl)]
          refine ⟨t, bx, k, rfl, rfl, rfl, hk', by omega, gt.okT, (Sz.bool _).rep, t, bx, k, rfl, rfl, rfl, hk', hb.1, gt.gm, gt.okT, (Sz.bool _).rep, ?_⟩
          rw [if_neg (not_not_intro rfl)]
          refine loop_by (fun rest env => ∃ (s12 s13 : Option En), (∀ x ∈ rest, ∃ p : List Int, x = eP p ∧ p.length = 6 ∧ Inn bx p) ∧ env = [none, some .st, some (.d (eT t)), some (.d (.str (eT t).shown)), some (.d (.int (t.1.length : Nat))), some (.d d), some (.d (eB bx)), s7, s8, s9, some (.d (.list xs)), some (.d (.int (k : Nat))), s12, s13, none]) ?_ ?_ _ _ ⟨_, _, hx2, rfl⟩
          · rintro env ⟨s12, s13, _, rfl⟩
            exact hN2 _ ⟨k + 1, some (.int (k : Nat)), _, _, by omega, rfl, rfl⟩
          · rintro d3 rest env N3 ⟨s12, s13, h1, rfl⟩ hN3
            obtain ⟨p, rfl, hp1, hp2⟩ := h1 d3 List.mem_cons_self
            simp only [eT, true_and, ↓sTake, ↓sTake0, ↓sPick, ↓sNumber, rng_1, rng_2, rng_3, rng_4, rng_6, ↓dKd, dix_0, dix_1, dix_2, dix_3, dix_4, dix_5, dix_6, dix_7, dix_8, dix_9, Bool.not_false, Bool.not_true, Bool.and_true, Bool.true_and, Bool.and_false, Bool.false_and, decide_eq_true_eq, Bool.not_eq_true', decide_eq_false_iff_not, Bool.false_eq_true, if_true, if_false, ↓F0, ↓F1, ↓F2, ↓F3, ↓F4, ↓F5, ↓F6, ↓dParO1, ↓dParO2, ↓dEnumT, ↓oRepr, ↓dUn, ↓oNeg, ↓dSeq, ↓dRet, ↓dRetN, ↓dIf, ↓dAsg, ↓dDrop, ↓dBreak, ↓dCont, ↓dNext, ↓dOwn, ↓dApp, ↓dSetIx, ↓dFrz, frz, ↓dPar, ↓dAug, ↓dFor, ↓dN, ↓dNB, ↓dC, ↓dOp, ↓oI, ↓oI0, ↓oB, ↓oEq, ↓oEqS, eqS, ↓oIsN, isNo, ↓oIx, ↓oIxS, seqOf, ↓oCat, ↓oCatT, ↓oCatS, ↓oIn, ↓oInS, ↓dTb, ↓dAnd, ↓dOr, ↓dNot, ↓dYes, ↓dAndV, ↓dOrV, ↓dNotV, ↓dIfV, ↓dChain, ↓dNil, ↓dCons, ↓dL, ↓dTup, ↓dCB, ↓oAbs, ↓oI2, ↓oLen, ↓oLenS, ↓oInt, ↓oSum, ↓oBs, ↓oTupOf, ↓dSeqOf, ↓dIsi, it_bool_none, it_bool_bool, it_bool_int, it_bool_str, it_bool_list, it_bool_tuple, it_bool_dict, it_int_none, it_int_bool, it_int_int, it_int_str, it_int_list, it_int_tuple, it_int_dict, it_str_none, it_str_bool, it_str_int, it_str_str, it_str_list, it_str_tuple, it_str_dict, it_list_none, it_list_bool, it_list_int, it_list_str, it_list_list, it_list_tuple, it_list_dict, it_tuple_none, it_tuple_bool, it_tuple_int, it_tuple_str, it_tuple_list, it_tuple_tuple, it_tuple_dict, it_dict_none, it_dict_bool, it_dict_int, it_dict_str, it_dict_list, it_dict_tuple, it_dict_dict, ↓dNoP, ↓dPart, ↓dSlT, ↓dSlL, ↓dSlS, ↓dCall, ↓dCallS, ↓dItL, ↓dItT, ↓dItS, ↓dR1, ↓dR2, ↓dZip, ↓dEnum, ↓gN, ↓gNi, ↓gCo, ↓gT, ↓dLc, wipeE, eget, eset, List.set, ev0, List.map_cons, List.map_nil, List.cons_append, List.nil_append, List.replicate_succ, List.replicate_zero, noOwn, isOwn, List.all_cons, List.all_nil, List.length_cons, List.length_nil]
            refine ⟨t, p, rfl, rfl, by omega, hp1, gt.dj, t, bx, k, rfl, rfl, rfl, hk', by omega, ?_⟩
            have hle : bx.length = p.length := by rw [hb.1, hp1]
            have key : ∀ X : Prop, X → (if decB t bx k = true then (if ¬((decN p t.1 : Nat) : Int) = (k : Nat) then PyData.bool false = PyData.bool true else X) else X) := fun X hX => by
              split <;> rename_i c
              · rw [dec_leaf hk' hbl] at c
                rw [leafB_dec hle hp2 hk' c, if_neg (not_not_intro rfl)]
                exact hX
              · exact hX
            refine key _ ⟨t, bx, k, rfl, rfl, rfl, hk', by omega, gt.okT, ?_⟩
            split <;> rename_i c
            · refine ⟨t, decN p t.1, rfl, rfl, decN_le p t.1, t, k, rfl, rfl, hk', gt.okT.at _, gt.okT.at k, ?_⟩
              rw [if_neg (by rw [fateD_at, alk_fate hle hp2 t.1 c]; decide)]
              exact hN3 _ ⟨_, _, fun x hx => h1 x (List.mem_cons_of_mem _ hx), rfl⟩
            · exact hN3 _ ⟨_, _, fun x hx => h1 x (List.mem_cons_of_mem _ hx), rfl⟩
    · rintro d2 rest env N2 ⟨us, s7, s8, s9, h1, h2, rfl⟩ hN2
      cases us with
      | nil => cases h1
      | cons u us =>
        cases h1
        obtain ⟨gm1, gm2⟩ := gt.gm u (h2 u List.mem_cons_self)
        simp only [eRu, true_and, ↓sTake, ↓sTake0, ↓sPick, ↓sNumber, rng_1, rng_2, rng_3, rng_4, rng_6, ↓dKd, dix_0, dix_1, dix_2, dix_3, dix_4, dix_5, dix_6, dix_7, dix_8, dix_9, Bool.not_false, Bool.not_true, Bool.and_true, Bool.true_and, Bool.and_false, Bool.false_and, decide_eq_true_eq, Bool.not_eq_true', decide_eq_false_iff_not, Bool.false_eq_true, if_true, if_false, ↓F0, ↓F1, ↓F2, ↓F3, ↓F4, ↓F5, ↓F6, ↓dParO1, ↓dParO2, ↓dEnumT, ↓oRepr, ↓dUn, ↓oNeg, ↓dSeq, ↓dRet, ↓dRetN, ↓dIf, ↓dAsg, ↓dDrop, ↓dBreak, ↓dCont, ↓dNext, ↓dOwn, ↓dApp, ↓dSetIx, ↓dFrz, frz, ↓dPar, ↓dAug, ↓dFor, ↓dN, ↓dNB, ↓dC, ↓dOp, ↓oI, ↓oI0, ↓oB, ↓oEq, ↓oEqS, eqS, ↓oIsN, isNo, ↓oIx, ↓oIxS, seqOf, ↓oCat, ↓oCatT, ↓oCatS, ↓oIn, ↓oInS, ↓dTb, ↓dAnd, ↓dOr, ↓dNot, ↓dYes, ↓dAndV, ↓dOrV, ↓dNotV, ↓dIfV, ↓dChain, ↓dNil, ↓dCons, ↓dL, ↓dTup, ↓dCB, ↓oAbs, ↓oI2, ↓oLen, ↓oLenS, ↓oInt, ↓oSum, ↓oBs, ↓oTupOf, ↓dSeqOf, ↓dIsi, it_bool_none, it_bool_bool, it_bool_int, it_bool_str, it_bool_list, it_bool_tuple, it_bool_dict, it_int_none, it_int_bool, it_int_int, it_int_str, it_int_list, it_int_tuple, it_int_dict, it_str_none, it_str_bool, it_str_int, it_str_str, it_str_list, it_str_tuple, it_str_dict, it_list_none, it_list_bool, it_list_int, it_list_str, it_list_list, it_list_tuple, it_list_dict, it_tuple_none, it_tuple_bool, it_tuple_int, it_tuple_str, it_tuple_list, it_tuple_tuple, it_tuple_dict, it_dict_none, it_dict_bool, it_dict_int, it_dict_str, it_dict_list, it_dict_tuple, it_dict_dict, ↓dNoP, ↓dPart, ↓dSlT, ↓dSlL, ↓dSlS, ↓dCall, ↓dCallS, ↓dItL, ↓dItT, ↓dItS, ↓dR1, ↓dR2, ↓dZip, ↓dEnum, ↓gN, ↓gNi, ↓gCo, ↓gT, ↓dLc, wipeE, eget, eset, List.set, ev0, List.map_cons, List.map_nil, List.cons_append, List.nil_append, List.replicate_succ, List.replicate_zero, noOwn, isOwn, List.all_cons, List.all_nil, List.length_cons, List.length_nil]
        refine ⟨u.1, bx, rfl, rfl, u.1, bx, rfl, rfl, bb.rep, u.1, bx, rfl, rfl, gm1, hb.1, gm2, u.1, bx, rfl, rfl, gm1, hb.1, gm2, bb.rep, ?_⟩
        rw [if_neg (not_not_intro rfl)]
        exact hN2 _ ⟨us, _, _, _, rfl, fun v hv => h2 v (List.mem_cons_of_mem _ hv), rfl⟩
end
theorem all_mk {l : PySem.W.OpenLaw} {w : World} {K : PySem.W.Frag} {h : Heap} {mg : Str → Option Value} {fa f0 f1 f2 f3 f4 f5 f6 f7 f8 f9 f10 f11 f12 f13 f14 f15 f16 f17 f18 f19 f20 f21 f22 f23 f24 : Addr} (X : K.In h) (G : h.Ns mainGlobals mg) (hfa : mg "law" = some (.ref fa))
    {od0 an0 od1 an1 od2 an2 od3 an3 od4 an4 od5 an5 od6 an6 od7 an7 od8 an8 od9 an9 od10 an10 od11 an11 od12 an12 od13 an13 od14 an14 od15 an15 od16 an16 od17 an17 od18 an18 od19 an19 od20 an20 od21 an21 od22 an22 od23 an23 od24 an24 : Option Addr} {sl0 sl1 sl2 sl3 sl4 sl5 sl6 sl7 sl8 sl9 sl10 sl11 sl12 sl13 sl14 sl15 sl16 sl17 sl18 sl19 sl20 sl21 sl22 sl23 sl24 : Array (Option Value)} {oc0 kV0 dc0 pm0 cd0 ct0 oc1 kV1 dc1 pm1 cd1 ct1 oc2 kV2 dc2 pm2 cd2 ct2 oc3 kV3 dc3 pm3 cd3 ct3 oc4 kV4 dc4 pm4 cd4 ct4 oc5 kV5 dc5 pm5 cd5 ct5 oc6 kV6 dc6 pm6 cd6 ct6 oc7 kV7 dc7 pm7 cd7 ct7 oc8 kV8 dc8 pm8 cd8 ct8 oc9 kV9 dc9 pm9 cd9 ct9 oc10 kV10 dc10 pm10 cd10 ct10 oc11 kV11 dc11 pm11 cd11 ct11 oc12 kV12 dc12 pm12 cd12 ct12 oc13 kV13 dc13 pm13 cd13 ct13 oc14 kV14 dc14 pm14 cd14 ct14 oc15 kV15 dc15 pm15 cd15 ct15 oc16 kV16 dc16 pm16 cd16 ct16 oc17 kV17 dc17 pm17 cd17 ct17 oc18 kV18 dc18 pm18 cd18 ct18 oc19 kV19 dc19 pm19 cd19 ct19 oc20 kV20 dc20 pm20 cd20 ct20 oc21 kV21 dc21 pm21 cd21 ct21 oc22 kV22 dc22 pm22 cd22 ct22 oc23 kV23 dc23 pm23 cd23 ct23 oc24 kV24 dc24 pm24 cd24 ct24 : Value} 
    (a0 : PySem.W.nsIn K mainGlobals "fate_of" = some (some (.ref f0))) (l0 : K.lookup f0 = some ⟨oc0, od0, .func (PySem.W.fnOf "fate_of" "fate_of" (defArgs s_fate_of) (defBody s_fate_of) (defScope s_fate_of) .none kV0 dc0 pm0 an0 cd0 ct0), sl0⟩) (c0 : PySem.W.codeIn K cd0 "fate_of" = true) (k0 : PySem.W.keepIn K (.ref f0) = true)
    (a1 : PySem.W.nsIn K mainGlobals "meets_range" = some (some (.ref f1))) (l1 : K.lookup f1 = some ⟨oc1, od1, .func (PySem.W.fnOf "meets_range" "meets_range" (defArgs s_meets_range) (defBody s_meets_range) (defScope s_meets_range) .none kV1 dc1 pm1 an1 cd1 ct1), sl1⟩) (c1 : PySem.W.codeIn K cd1 "meets_range" = true) (k1 : PySem.W.keepIn K (.ref f1) = true)
    (a2 : PySem.W.nsIn K mainGlobals "contains_range" = some (some (.ref f2))) (l2 : K.lookup f2 = some ⟨oc2, od2, .func (PySem.W.fnOf "contains_range" "contains_range" (defArgs s_contains_range) (defBody s_contains_range) (defScope s_contains_range) .none kV2 dc2 pm2 an2 cd2 ct2), sl2⟩) (c2 : PySem.W.codeIn K cd2 "contains_range" = true) (k2 : PySem.W.keepIn K (.ref f2) = true)
    (a3 : PySem.W.nsIn K mainGlobals "meets" = some (some (.ref f3))) (l3 : K.lookup f3 = some ⟨oc3, od3, .func (PySem.W.fnOf "meets" "meets" (defArgs s_meets) (defBody s_meets) (defScope s_meets) .none kV3 dc3 pm3 an3 cd3 ct3), sl3⟩) (c3 : PySem.W.codeIn K cd3 "meets" = true) (k3 : PySem.W.keepIn K (.ref f3) = true)
    (a4 : PySem.W.nsIn K mainGlobals "contains" = some (some (.ref f4))) (l4 : K.lookup f4 = some ⟨oc4, od4, .func (PySem.W.fnOf "contains" "contains" (defArgs s_contains) (defBody s_contains) (defScope s_contains) .none kV4 dc4 pm4 an4 cd4 ct4), sl4⟩) (c4 : PySem.W.codeIn K cd4 "contains" = true) (k4 : PySem.W.keepIn K (.ref f4) = true)
    (a5 : PySem.W.nsIn K mainGlobals "meeting" = some (some (.ref f5))) (l5 : K.lookup f5 = some ⟨oc5, od5, .func (PySem.W.fnOf "meeting" "meeting" (defArgs s_meeting) (defBody s_meeting) (defScope s_meeting) .none kV5 dc5 pm5 an5 cd5 ct5), sl5⟩) (c5 : PySem.W.codeIn K cd5 "meeting" = true) (k5 : PySem.W.keepIn K (.ref f5) = true)
    (a6 : PySem.W.nsIn K mainGlobals "decides" = some (some (.ref f6))) (l6 : K.lookup f6 = some ⟨oc6, od6, .func (PySem.W.fnOf "decides" "decides" (defArgs s_decides) (defBody s_decides) (defScope s_decides) .none kV6 dc6 pm6 an6 cd6 ct6), sl6⟩) (c6 : PySem.W.codeIn K cd6 "decides" = true) (k6 : PySem.W.keepIn K (.ref f6) = true)
    (a7 : PySem.W.nsIn K mainGlobals "is_alike" = some (some (.ref f7))) (l7 : K.lookup f7 = some ⟨oc7, od7, .func (PySem.W.fnOf "is_alike" "is_alike" (defArgs s_is_alike) (defBody s_is_alike) (defScope s_is_alike) .none kV7 dc7 pm7 an7 cd7 ct7), sl7⟩) (c7 : PySem.W.codeIn K cd7 "is_alike" = true) (k7 : PySem.W.keepIn K (.ref f7) = true)
    (a8 : PySem.W.nsIn K mainGlobals "_is_decided" = some (some (.ref f8))) (l8 : K.lookup f8 = some ⟨oc8, od8, .func (PySem.W.fnOf "_is_decided" "_is_decided" (defArgs s_is_decided) (defBody s_is_decided) (defScope s_is_decided) .none kV8 dc8 pm8 an8 cd8 ct8), sl8⟩) (c8 : PySem.W.codeIn K cd8 "_is_decided" = true) (k8 : PySem.W.keepIn K (.ref f8) = true)
    (a9 : PySem.W.nsIn K mainGlobals "_is_alike" = some (some (.ref f9))) (l9 : K.lookup f9 = some ⟨oc9, od9, .func (PySem.W.fnOf "_is_alike" "_is_alike" (defArgs sU_is_alike) (defBody sU_is_alike) (defScope sU_is_alike) .none kV9 dc9 pm9 an9 cd9 ct9), sl9⟩) (c9 : PySem.W.codeIn K cd9 "_is_alike" = true) (k9 : PySem.W.keepIn K (.ref f9) = true)
    (a10 : PySem.W.nsIn K mainGlobals "_law_state" = some (some (.ref f10))) (l10 : K.lookup f10 = some ⟨oc10, od10, .func (PySem.W.fnOf "_law_state" "_law_state" (defArgs s_law_state) (defBody s_law_state) (defScope s_law_state) .none kV10 dc10 pm10 an10 cd10 ct10), sl10⟩) (c10 : PySem.W.codeIn K cd10 "_law_state" = true) (k10 : PySem.W.keepIn K (.ref f10) = true)
    (a11 : PySem.W.nsIn K mainGlobals "_law_take" = some (some (.ref f11))) (l11 : K.lookup f11 = some ⟨oc11, od11, .func (PySem.W.fnOf "_law_take" "_law_take" (defArgs s_law_take) (defBody s_law_take) (defScope s_law_take) .none kV11 dc11 pm11 an11 cd11 ct11), sl11⟩) (c11 : PySem.W.codeIn K cd11 "_law_take" = true) (k11 : PySem.W.keepIn K (.ref f11) = true)
    (a12 : PySem.W.nsIn K mainGlobals "_law_row" = some (some (.ref f12))) (l12 : K.lookup f12 = some ⟨oc12, od12, .func (PySem.W.fnOf "_law_row" "_law_row" (defArgs s_law_row) (defBody s_law_row) (defScope s_law_row) .none kV12 dc12 pm12 an12 cd12 ct12), sl12⟩) (c12 : PySem.W.codeIn K cd12 "_law_row" = true) (k12 : PySem.W.keepIn K (.ref f12) = true)
    (a13 : PySem.W.nsIn K mainGlobals "_law_match" = some (some (.ref f13))) (l13 : K.lookup f13 = some ⟨oc13, od13, .func (PySem.W.fnOf "_law_match" "_law_match" (defArgs s_law_match) (defBody s_law_match) (defScope s_law_match) .none kV13 dc13 pm13 an13 cd13 ct13), sl13⟩) (c13 : PySem.W.codeIn K cd13 "_law_match" = true) (k13 : PySem.W.keepIn K (.ref f13) = true)
    (a14 : PySem.W.nsIn K mainGlobals "_law_table" = some (some (.ref f14))) (l14 : K.lookup f14 = some ⟨oc14, od14, .func (PySem.W.fnOf "_law_table" "_law_table" (defArgs s_law_table) (defBody s_law_table) (defScope s_law_table) .none kV14 dc14 pm14 an14 cd14 ct14), sl14⟩) (c14 : PySem.W.codeIn K cd14 "_law_table" = true) (k14 : PySem.W.keepIn K (.ref f14) = true)
    (a15 : PySem.W.nsIn K mainGlobals "_law_in" = some (some (.ref f15))) (l15 : K.lookup f15 = some ⟨oc15, od15, .func (PySem.W.fnOf "_law_in" "_law_in" (defArgs s_law_in) (defBody s_law_in) (defScope s_law_in) .none kV15 dc15 pm15 an15 cd15 ct15), sl15⟩) (c15 : PySem.W.codeIn K cd15 "_law_in" = true) (k15 : PySem.W.keepIn K (.ref f15) = true)
    (a16 : PySem.W.nsIn K mainGlobals "_law_decider" = some (some (.ref f16))) (l16 : K.lookup f16 = some ⟨oc16, od16, .func (PySem.W.fnOf "_law_decider" "_law_decider" (defArgs s_law_decider) (defBody s_law_decider) (defScope s_law_decider) .none kV16 dc16 pm16 an16 cd16 ct16), sl16⟩) (c16 : PySem.W.codeIn K cd16 "_law_decider" = true) (k16 : PySem.W.keepIn K (.ref f16) = true)
    (a17 : PySem.W.nsIn K mainGlobals "_law_fate" = some (some (.ref f17))) (l17 : K.lookup f17 = some ⟨oc17, od17, .func (PySem.W.fnOf "_law_fate" "_law_fate" (defArgs s_law_fate) (defBody s_law_fate) (defScope s_law_fate) .none kV17 dc17 pm17 an17 cd17 ct17), sl17⟩) (c17 : PySem.W.codeIn K cd17 "_law_fate" = true) (k17 : PySem.W.keepIn K (.ref f17) = true)
    (a18 : PySem.W.nsIn K mainGlobals "_law_corners" = some (some (.ref f18))) (l18 : K.lookup f18 = some ⟨oc18, od18, .func (PySem.W.fnOf "_law_corners" "_law_corners" (defArgs s_law_corners) (defBody s_law_corners) (defScope s_law_corners) .none kV18 dc18 pm18 an18 cd18 ct18), sl18⟩) (c18 : PySem.W.codeIn K cd18 "_law_corners" = true) (k18 : PySem.W.keepIn K (.ref f18) = true)
    (a19 : PySem.W.nsIn K mainGlobals "_law_touches" = some (some (.ref f19))) (l19 : K.lookup f19 = some ⟨oc19, od19, .func (PySem.W.fnOf "_law_touches" "_law_touches" (defArgs s_law_touches) (defBody s_law_touches) (defScope s_law_touches) .none kV19 dc19 pm19 an19 cd19 ct19), sl19⟩) (c19 : PySem.W.codeIn K cd19 "_law_touches" = true) (k19 : PySem.W.keepIn K (.ref f19) = true)
    (a20 : PySem.W.nsIn K mainGlobals "_law_covers" = some (some (.ref f20))) (l20 : K.lookup f20 = some ⟨oc20, od20, .func (PySem.W.fnOf "_law_covers" "_law_covers" (defArgs s_law_covers) (defBody s_law_covers) (defScope s_law_covers) .none kV20 dc20 pm20 an20 cd20 ct20), sl20⟩) (c20 : PySem.W.codeIn K cd20 "_law_covers" = true) (k20 : PySem.W.keepIn K (.ref f20) = true)
    (a21 : PySem.W.nsIn K mainGlobals "_law_rule_leaf" = some (some (.ref f21))) (l21 : K.lookup f21 = some ⟨oc21, od21, .func (PySem.W.fnOf "_law_rule_leaf" "_law_rule_leaf" (defArgs s_law_rule_leaf) (defBody s_law_rule_leaf) (defScope s_law_rule_leaf) .none kV21 dc21 pm21 an21 cd21 ct21), sl21⟩) (c21 : PySem.W.codeIn K cd21 "_law_rule_leaf" = true) (k21 : PySem.W.keepIn K (.ref f21) = true)
    (a22 : PySem.W.nsIn K mainGlobals "_law_fate_leaf" = some (some (.ref f22))) (l22 : K.lookup f22 = some ⟨oc22, od22, .func (PySem.W.fnOf "_law_fate_leaf" "_law_fate_leaf" (defArgs s_law_fate_leaf) (defBody s_law_fate_leaf) (defScope s_law_fate_leaf) .none kV22 dc22 pm22 an22 cd22 ct22), sl22⟩) (c22 : PySem.W.codeIn K cd22 "_law_fate_leaf" = true) (k22 : PySem.W.keepIn K (.ref f22) = true)
    (a23 : PySem.W.nsIn K mainGlobals "_law_inner" = some (some (.ref f23))) (l23 : K.lookup f23 = some ⟨oc23, od23, .func (PySem.W.fnOf "_law_inner" "_law_inner" (defArgs s_law_inner) (defBody s_law_inner) (defScope s_law_inner) .none kV23 dc23 pm23 an23 cd23 ct23), sl23⟩) (c23 : PySem.W.codeIn K cd23 "_law_inner" = true) (k23 : PySem.W.keepIn K (.ref f23) = true)
    (a24 : PySem.W.nsIn K mainGlobals "law" = some (some (.ref f24))) (l24 : K.lookup f24 = some ⟨oc24, od24, .func (PySem.W.fnOf "law" "law" (defArgs s_law) (defBody s_law) (defScope s_law) .none kV24 dc24 pm24 an24 cd24 ct24), sl24⟩) (c24 : PySem.W.codeIn K cd24 "law" = true) (k24 : PySem.W.keepIn K (.ref f24) = true)
    (z_len : PySem.W.nsIn K mainGlobals "len" = some none)
    (z_zip : PySem.W.nsIn K mainGlobals "zip" = some none)
    (z_enumerate : PySem.W.nsIn K mainGlobals "enumerate" = some none)
    (z_abs : PySem.W.nsIn K mainGlobals "abs" = some none)
    (z_int : PySem.W.nsIn K mainGlobals "int" = some none)
    (z_range : PySem.W.nsIn K mainGlobals "range" = some none)
    (z_tuple : PySem.W.nsIn K mainGlobals "tuple" = some none)
    (z_max : PySem.W.nsIn K mainGlobals "max" = some none)
    (z_min : PySem.W.nsIn K mainGlobals "min" = some none)
    (z_repr : PySem.W.nsIn K mainGlobals "repr" = some none)
    : ∃ fd : FuncData, (∀ (s : Shared) (v : Value), BindsTo s fd ⟨[v], []⟩ [("script", v)]) ∧ ∀ base : Heap, K.In base → base.Ns mainGlobals mg → FnG l.prog w K mg base 5 fa fd ["script"] (spLaw K) := by
  have e := hfa.symm.trans (PySem.W.mg_of X G a24)
  cases e
  have F0 := fun_mk (st := s_fate_of) l0 c0 k0
  have b0 := F0.binds (ps := ["table", "index"]) fun _ _ _ _ _ _ us hl => match us, hl with | [_, _], _ => rfl
  have F1 := fun_mk (st := s_meets_range) l1 c1 k1
  have b1 := F1.binds (ps := ["row", "part"]) fun _ _ _ _ _ _ us hl => match us, hl with | [_, _], _ => rfl
  have F2 := fun_mk (st := s_contains_range) l2 c2 k2
  have b2 := F2.binds (ps := ["row", "part"]) fun _ _ _ _ _ _ us hl => match us, hl with | [_, _], _ => rfl
  have F3 := fun_mk (st := s_meets) l3 c3 k3
  have b3 := F3.binds (ps := ["match", "box"]) fun _ _ _ _ _ _ us hl => match us, hl with | [_, _], _ => rfl
  have F4 := fun_mk (st := s_contains) l4 c4 k4
  have b4 := F4.binds (ps := ["match", "box"]) fun _ _ _ _ _ _ us hl => match us, hl with | [_, _], _ => rfl
  have F5 := fun_mk (st := s_meeting) l5 c5 k5
  have b5 := F5.binds (ps := ["table", "box"]) fun _ _ _ _ _ _ us hl => match us, hl with | [_, _], _ => rfl
  have F6 := fun_mk (st := s_decides) l6 c6 k6
  have b6 := F6.binds (ps := ["table", "box", "index"]) fun _ _ _ _ _ _ us hl => match us, hl with | [_, _, _], _ => rfl
  have F7 := fun_mk (st := s_is_alike) l7 c7 k7
  have b7 := F7.binds (ps := ["table", "box", "index"]) fun _ _ _ _ _ _ us hl => match us, hl with | [_, _, _], _ => rfl
  have F8 := fun_mk (st := s_is_decided) l8 c8 k8
  have b8 := F8.binds (ps := ["table", "box", "met", "index"]) fun _ _ _ _ _ _ us hl => match us, hl with | [_, _, _, _], _ => rfl
  have F9 := fun_mk (st := sU_is_alike) l9 c9 k9
  have b9 := F9.binds (ps := ["table", "box", "met", "index"]) fun _ _ _ _ _ _ us hl => match us, hl with | [_, _, _, _], _ => rfl
  have F10 := fun_mk (st := s_law_state) l10 c10 k10
  have b10 := F10.binds (ps := ["script"]) fun _ _ _ _ _ _ us hl => match us, hl with | [_], _ => rfl
  have F11 := fun_mk (st := s_law_take) l11 c11 k11
  have b11 := F11.binds (ps := ["state", "most"]) fun _ _ _ _ _ _ us hl => match us, hl with | [_, _], _ => rfl
  have F12 := fun_mk (st := s_law_row) l12 c12 k12
  have b12 := F12.binds (ps := ["state", "most"]) fun _ _ _ _ _ _ us hl => match us, hl with | [_, _], _ => rfl
  have F13 := fun_mk (st := s_law_match) l13 c13 k13
  have b13 := F13.binds (ps := ["state"]) fun _ _ _ _ _ _ us hl => match us, hl with | [_], _ => rfl
  have F14 := fun_mk (st := s_law_table) l14 c14 k14
  have b14 := F14.binds (ps := ["state", "most"]) fun _ _ _ _ _ _ us hl => match us, hl with | [_, _], _ => rfl
  have F15 := fun_mk (st := s_law_in) l15 c15 k15
  have b15 := F15.binds (ps := ["match", "point"]) fun _ _ _ _ _ _ us hl => match us, hl with | [_, _], _ => rfl
  have F16 := fun_mk (st := s_law_decider) l16 c16 k16
  have b16 := F16.binds (ps := ["table", "point"]) fun _ _ _ _ _ _ us hl => match us, hl with | [_, _], _ => rfl
  have F17 := fun_mk (st := s_law_fate) l17 c17 k17
  have b17 := F17.binds (ps := ["table", "k"]) fun _ _ _ _ _ _ us hl => match us, hl with | [_, _], _ => rfl
  have F18 := fun_mk (st := s_law_corners) l18 c18 k18
  have b18 := F18.binds (ps := ["state", "table"]) fun _ _ _ _ _ _ us hl => match us, hl with | [_, _], _ => rfl
  have F19 := fun_mk (st := s_law_touches) l19 c19 k19
  have b19 := F19.binds (ps := ["match", "box"]) fun _ _ _ _ _ _ us hl => match us, hl with | [_, _], _ => rfl
  have F20 := fun_mk (st := s_law_covers) l20 c20 k20
  have b20 := F20.binds (ps := ["match", "box"]) fun _ _ _ _ _ _ us hl => match us, hl with | [_, _], _ => rfl
  have F21 := fun_mk (st := s_law_rule_leaf) l21 c21 k21
  have b21 := F21.binds (ps := ["table", "box", "k"]) fun _ _ _ _ _ _ us hl => match us, hl with | [_, _, _], _ => rfl
  have F22 := fun_mk (st := s_law_fate_leaf) l22 c22 k22
  have b22 := F22.binds (ps := ["table", "box", "k"]) fun _ _ _ _ _ _ us hl => match us, hl with | [_, _, _], _ => rfl
  have F23 := fun_mk (st := s_law_inner) l23 c23 k23
  have b23 := F23.binds (ps := ["state", "box"]) fun _ _ _ _ _ _ us hl => match us, hl with | [_, _], _ => rfl
  have F24 := fun_mk (st := s_law) l24 c24 k24
  have b24 := F24.binds (ps := ["script"]) fun _ _ _ _ _ _ us hl => match us, hl with | [_], _ => rfl
  let T : Tx K mg := { ad_fate_of := _, fd_fate_of := _, d_fate_of := ⟨F0, b0, PySem.W.mg_of X G a0⟩, ad_meets_range := _, fd_meets_range := _, d_meets_range := ⟨F1, b1, PySem.W.mg_of X G a1⟩, ad_contains_range := _, fd_contains_range := _, d_contains_range := ⟨F2, b2, PySem.W.mg_of X G a2⟩, ad_meets := _, fd_meets := _, d_meets := ⟨F3, b3, PySem.W.mg_of X G a3⟩, ad_contains := _, fd_contains := _, d_contains := ⟨F4, b4, PySem.W.mg_of X G a4⟩, ad_meeting := _, fd_meeting := _, d_meeting := ⟨F5, b5, PySem.W.mg_of X G a5⟩, ad_decides := _, fd_decides := _, d_decides := ⟨F6, b6, PySem.W.mg_of X G a6⟩, ad_is_alike := _, fd_is_alike := _, d_is_alike := ⟨F7, b7, PySem.W.mg_of X G a7⟩, ad_is_decided := _, fd_is_decided := _, d_is_decided := ⟨F8, b8, PySem.W.mg_of X G a8⟩, adU_is_alike := _, fdU_is_alike := _, dU_is_alike := ⟨F9, b9, PySem.W.mg_of X G a9⟩, ad_law_state := _, fd_law_state := _, d_law_state := ⟨F10, b10, PySem.W.mg_of X G a10⟩, ad_law_take := _, fd_law_take := _, d_law_take := ⟨F11, b11, PySem.W.mg_of X G a11⟩, ad_law_row := _, fd_law_row := _, d_law_row := ⟨F12, b12, PySem.W.mg_of X G a12⟩, ad_law_match := _, fd_law_match := _, d_law_match := ⟨F13, b13, PySem.W.mg_of X G a13⟩, ad_law_table := _, fd_law_table := _, d_law_table := ⟨F14, b14, PySem.W.mg_of X G a14⟩, ad_law_in := _, fd_law_in := _, d_law_in := ⟨F15, b15, PySem.W.mg_of X G a15⟩, ad_law_decider := _, fd_law_decider := _, d_law_decider := ⟨F16, b16, PySem.W.mg_of X G a16⟩, ad_law_fate := _, fd_law_fate := _, d_law_fate := ⟨F17, b17, PySem.W.mg_of X G a17⟩, ad_law_corners := _, fd_law_corners := _, d_law_corners := ⟨F18, b18, PySem.W.mg_of X G a18⟩, ad_law_touches := _, fd_law_touches := _, d_law_touches := ⟨F19, b19, PySem.W.mg_of X G a19⟩, ad_law_covers := _, fd_law_covers := _, d_law_covers := ⟨F20, b20, PySem.W.mg_of X G a20⟩, ad_law_rule_leaf := _, fd_law_rule_leaf := _, d_law_rule_leaf := ⟨F21, b21, PySem.W.mg_of X G a21⟩, ad_law_fate_leaf := _, fd_law_fate_leaf := _, d_law_fate_leaf := ⟨F22, b22, PySem.W.mg_of X G a22⟩, ad_law_inner := _, fd_law_inner := _, d_law_inner := ⟨F23, b23, PySem.W.mg_of X G a23⟩, ad_law := _, fd_law := _, d_law := ⟨F24, b24, PySem.W.mg_of X G a24⟩, b_len := PySem.W.mg_none_of X G z_len, b_zip := PySem.W.mg_none_of X G z_zip, b_enumerate := PySem.W.mg_none_of X G z_enumerate, b_abs := PySem.W.mg_none_of X G z_abs, b_int := PySem.W.mg_none_of X G z_int, b_range := PySem.W.mg_none_of X G z_range, b_tuple := PySem.W.mg_none_of X G z_tuple, b_max := PySem.W.mg_none_of X G z_max, b_min := PySem.W.mg_none_of X G z_min, b_repr := PySem.W.mg_none_of X G z_repr }
  exact ⟨T.fd_law, fun s v => .of_eq rfl, fun base _ _ => ok_law T⟩
theorem walk {l : PySem.W.OpenLaw} {q : Program} {loose : List Str} {XP : (Str → Option Value) → Heap → Prop} {YP : World → Heap → Prop} {d : DefRec} {K : Params → PySem.W.Frag} (hn : l.most = some 63) (hdf : d.params.defaults = [])
    (hY : ∀ (w : World) (h : Heap), YP w h → (K w.params).In h)
    (F : ∀ (w : World) (mg : Str → Option Value) (fa : Addr) (h : Heap), (K w.params).In h → h.Ns mainGlobals mg → mg d.name = some (.ref fa) →
      ∃ fd : FuncData, (∀ (s : Shared) (u : Value), BindsTo s fd ⟨[u], []⟩ [("script", u)]) ∧ ∀ base : Heap, (K w.params).In base → base.Ns mainGlobals mg → FnG l.prog w (K w.params) mg base 5 fa fd ["script"] (spLaw (K w.params))) :
    PySem.W.WalkO q loose XP YP l.row.toRowW d [] (fun f vs => PySem.call f vs) :=
  walkG (k := 5) (x := "script") hn hdf ⟨rfl, by decide, by decide⟩ hY F
end Toy
open PySem PySem.W PyProof.Rows
set_option maxRecDepth 100000 in
set_option maxHeartbeats 0 in
theorem PySem.Challenge.cw_onepolicy_k62_leaves_field_by_field_holds : PySem.Challenge.rw_onepolicy_k62_leaves_field_by_field.Holds := by
  w_on; o_law; k_head; (case hw => w_witness2)
  k_fill
  refine Toy.walk (l := PySem.Challenge.rw_onepolicy_k62_leaves_field_by_field) rfl rfl (fun w h Y => PySem.W.kIn_of Y) ?F
  case F =>
    intro w mg fa h KX G hmg
    refine' Toy.all_mk KX G hmg ?a0 ?l0 ?c0 ?k0 ?a1 ?l1 ?c1 ?k1 ?a2 ?l2 ?c2 ?k2 ?a3 ?l3 ?c3 ?k3 ?a4 ?l4 ?c4 ?k4 ?a5 ?l5 ?c5 ?k5 ?a6 ?l6 ?c6 ?k6 ?a7 ?l7 ?c7 ?k7 ?a8 ?l8 ?c8 ?k8 ?a9 ?l9 ?c9 ?k9 ?a10 ?l10 ?c10 ?k10 ?a11 ?l11 ?c11 ?k11 ?a12 ?l12 ?c12 ?k12 ?a13 ?l13 ?c13 ?k13 ?a14 ?l14 ?c14 ?k14 ?a15 ?l15 ?c15 ?k15 ?a16 ?l16 ?c16 ?k16 ?a17 ?l17 ?c17 ?k17 ?a18 ?l18 ?c18 ?k18 ?a19 ?l19 ?c19 ?k19 ?a20 ?l20 ?c20 ?k20 ?a21 ?l21 ?c21 ?k21 ?a22 ?l22 ?c22 ?k22 ?a23 ?l23 ?c23 ?k23 ?a24 ?l24 ?c24 ?k24 ?z_len ?z_zip ?z_enumerate ?z_abs ?z_int ?z_range ?z_tuple ?z_max ?z_min ?z_repr
    (case a0 => k_is)
    (case l0 => k_is)
    (case c0 => k_is)
    (case k0 => k_is)
    (case a1 => k_is)
    (case l1 => k_is)
    (case c1 => k_is)
    (case k1 => k_is)
    (case a2 => k_is)
    (case l2 => k_is)
    (case c2 => k_is)
    (case k2 => k_is)
    (case a3 => k_is)
    (case l3 => k_is)
    (case c3 => k_is)
    (case k3 => k_is)
    (case a4 => k_is)
    (case l4 => k_is)
    (case c4 => k_is)
    (case k4 => k_is)
    (case a5 => k_is)
    (case l5 => k_is)
    (case c5 => k_is)
    (case k5 => k_is)
    (case a6 => k_is)
    (case l6 => k_is)
    (case c6 => k_is)
    (case k6 => k_is)
    (case a7 => k_is)
    (case l7 => k_is)
    (case c7 => k_is)
    (case k7 => k_is)
    (case a8 => k_is)
    (case l8 => k_is)
    (case c8 => k_is)
    (case k8 => k_is)
    (case a9 => k_is)
    (case l9 => k_is)
    (case c9 => k_is)
    (case k9 => k_is)
    (case a10 => k_is)
    (case l10 => k_is)
    (case c10 => k_is)
    (case k10 => k_is)
    (case a11 => k_is)
    (case l11 => k_is)
    (case c11 => k_is)
    (case k11 => k_is)
    (case a12 => k_is)
    (case l12 => k_is)
    (case c12 => k_is)
    (case k12 => k_is)
    (case a13 => k_is)
    (case l13 => k_is)
    (case c13 => k_is)
    (case k13 => k_is)
    (case a14 => k_is)
    (case l14 => k_is)
    (case c14 => k_is)
    (case k14 => k_is)
    (case a15 => k_is)
    (case l15 => k_is)
    (case c15 => k_is)
    (case k15 => k_is)
    (case a16 => k_is)
    (case l16 => k_is)
    (case c16 => k_is)
    (case k16 => k_is)
    (case a17 => k_is)
    (case l17 => k_is)
    (case c17 => k_is)
    (case k17 => k_is)
    (case a18 => k_is)
    (case l18 => k_is)
    (case c18 => k_is)
    (case k18 => k_is)
    (case a19 => k_is)
    (case l19 => k_is)
    (case c19 => k_is)
    (case k19 => k_is)
    (case a20 => k_is)
    (case l20 => k_is)
    (case c20 => k_is)
    (case k20 => k_is)
    (case a21 => k_is)
    (case l21 => k_is)
    (case c21 => k_is)
    (case k21 => k_is)
    (case a22 => k_is)
    (case l22 => k_is)
    (case c22 => k_is)
    (case k22 => k_is)
    (case a23 => k_is)
    (case l23 => k_is)
    (case c23 => k_is)
    (case k23 => k_is)
    (case a24 => k_is)
    (case l24 => k_is)
    (case c24 => k_is)
    (case k24 => k_is)
    (case z_len => k_is)
    (case z_zip => k_is)
    (case z_enumerate => k_is)
    (case z_abs => k_is)
    (case z_int => k_is)
    (case z_range => k_is)
    (case z_tuple => k_is)
    (case z_max => k_is)
    (case z_min => k_is)
    (case z_repr => k_is)
