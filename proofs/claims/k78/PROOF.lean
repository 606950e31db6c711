import PyProof.Rows.All
import Wide.All
import OpenK.AllK
import Wide.FinOn
import HandS.Base
import HandS.Call
import HandS.List
import HandS.Comp
import HandS.Ends
import HandS.Words
import HandS.WordsList
import HandS.IsInst
import HandS.TupAny
import HandS.TupLe
import HandS.Zip
import HandS.Text
import HandS.Iter
import HandS.Wide
import KE.GoesMore
import HandS.More
import HandS.Dict
import HandS.DictComp
import HandS.WordsDict
import HandS.TupMul
import HandS.Set
import HandS.SetFor
import HandS.Strs
import HandS.Sort
import HandS.FStr
import HandS.Flow
import HandS.Deep
import HandS.Style
import KE.KxIndex
import PySem.Challenge.RW_onepolicy_k78_points_of_packets
set_option Elab.async false
set_option linter.all false
set_option maxRecDepth 100000
set_option maxHeartbeats 4000000
namespace Toy
open PySem PySem.Spec PyProof.Rows L2
/-! The data layer: readings of the hand layer over plain data. -/
abbrev D := PyData
/-- the state of the law's own draws stands at p, its numbers at c -/
def LS (H : Hp) (p c : Addr) : Prop := ∃ (k : Int) (ns : List Int), H p = some (.lst [.int k, .ref c]) ∧ H c = some (.lst (ns.map V.int)) ∧ ns ≠ []
def KTup (K : PySem.W.Frag) (a : Addr) (xs : List V) : Prop := ∃ (o : Obj) (its : Array Value) (n : Nat), K.lookup a = some o ∧ o.cls = .type "tuple" ∧ o.data = .seq its n ∧ its.size ≤ sizeLine ∧ Vals xs its.toList
/-- a tuple at a, not among A -/
def TupAt (K : PySem.W.Frag) (H : Hp) (A : Addr → Prop) (a : Addr) (xs : List V) : Prop := (Rd H a (.tup xs) ∧ ¬ A a) ∨ KTup K a xs
theorem TupAt.sq {K : PySem.W.Frag} {H : Hp} {A : Addr → Prop} {a : Addr} {xs : List V} (h : TupAt K H A a xs) : SqT K H a xs := h.elim (fun z => .inl z.1) .inr
inductive KeyD : D → Key → Prop
  | int (i : Int) : KeyD (.int i) (.inl i)
  | str (s : Str) : KeyD (.str s) (.inr s)
mutual
inductive Rep (K : PySem.W.Frag) (H : Hp) (A : Addr → Prop) : D → V → Prop
  | non : Rep K H A .none .non
  | bl (b : Bool) : Rep K H A (.bool b) (.bl b)
  | int (i : Int) : Rep K H A (.int i) (.int i)
  | str (x : Str) : Rep K H A (.str x) (.str x)
  | lst {a : Addr} {xs : List V} {ds : List D} : H a = some (.lst xs) → ¬ A a → RepL K H A ds xs → Rep K H A (.list ds) (.ref a)
  | tup {a : Addr} {xs : List V} {ds : List D} : TupAt K H A a xs → RepL K H A ds xs → Rep K H A (.tuple ds) (.ref a)
  | dct {a : Addr} {us : List (Key × V)} {kvs : List (D × D)} : H a = some (.dK us) → ¬ A a → RepK K H A kvs us → Rep K H A (.dict kvs) (.ref a)
inductive RepL (K : PySem.W.Frag) (H : Hp) (A : Addr → Prop) : List D → List V → Prop
  | nil : RepL K H A [] []
  | cons {d : D} {v : V} {ds : List D} {vs : List V} : Rep K H A d v → RepL K H A ds vs → RepL K H A (d :: ds) (v :: vs)
inductive RepK (K : PySem.W.Frag) (H : Hp) (A : Addr → Prop) : List (D × D) → List (Key × V) → Prop
  | nil : RepK K H A [] []
  | cons {k d : D} {q : Key} {v : V} {ds : List (D × D)} {us : List (Key × V)} : KeyD k q → Rep K H A d v → RepK K H A ds us → RepK K H A ((k, d) :: ds) ((q, v) :: us)
end
section
variable {K : PySem.W.Frag} {H H' : Hp} {A A' : Addr → Prop}
/-- from one heap to a later one, from one set of shut places to another one -/
structure To (H H' : Hp) (A A' : Addr → Prop) : Prop where
  h : ∀ b o, H b = some o → ¬ A b → H' b = some o ∧ ¬ A' b
mutual
theorem Rep.to (t : To H H' A A') : ∀ {d : D} {v : V}, Rep K H A d v → Rep K H' A' d v
  | .none, _, .non => .non
  | .bool _, _, .bl b => .bl b
  | .int _, _, .int i => .int i
  | .str _, _, .str x => .str x
  | .list _, _, .lst h n r => .lst (t.h _ _ h n).1 (t.h _ _ h n).2 (RepL.to t r)
  | .tuple _, _, .tup (.inl ⟨.inl h, n⟩) r => .tup (.inl ⟨.inl (t.h _ _ h n).1, (t.h _ _ h n).2⟩) (RepL.to t r)
  | .tuple _, _, .tup (.inl ⟨.inr ⟨o, h⟩, n⟩) r => .tup (.inl ⟨.inr ⟨o, (t.h _ _ h n).1⟩, (t.h _ _ h n).2⟩) (RepL.to t r)
  | .tuple _, _, .tup (.inr h) r => .tup (.inr h) (RepL.to t r)
  | .dict _, _, .dct h n r => .dct (t.h _ _ h n).1 (t.h _ _ h n).2 (RepK.to t r)
theorem RepL.to (t : To H H' A A') : ∀ {ds : List D} {vs : List V}, RepL K H A ds vs → RepL K H' A' ds vs
  | [], _, .nil => .nil
  | _ :: _, _, .cons h r => .cons (Rep.to t h) (RepL.to t r)
theorem RepK.to (t : To H H' A A') : ∀ {ds : List (D × D)} {vs : List (Key × V)}, RepK K H A ds vs → RepK K H' A' ds vs
  | [], _, .nil => .nil
  | (_, _) :: _, _, .cons k h r => .cons k (Rep.to t h) (RepK.to t r)
end
theorem RepL.len : ∀ {ds : List D} {vs : List V}, RepL K H A ds vs → ds.length = vs.length
  | _, _, .nil => rfl
  | _, _, .cons _ r => congrArg (· + 1) r.len
theorem RepL.get : ∀ {ds : List D} {vs : List V}, RepL K H A ds vs → ∀ {i : Nat} {d : D}, ds[i]? = some d → ∃ v, vs[i]? = some v ∧ Rep K H A d v
  | _, _, .nil, i, d, h => by simp at h
  | _, _, .cons h r, 0, d, e => by
    rw [List.getElem?_cons_zero] at e
    cases e
    exact ⟨_, rfl, h⟩
  | _, _, .cons h r, i + 1, d, e => by
    rw [List.getElem?_cons_succ] at e
    exact r.get e
theorem RepL.app : ∀ {ds es : List D} {vs ws : List V}, RepL K H A ds vs → RepL K H A es ws → RepL K H A (ds ++ es) (vs ++ ws)
  | _, _, _, _, .nil, h => h
  | _, _, _, _, .cons h r, g => .cons h (r.app g)
theorem RepL.take : ∀ {ds : List D} {vs : List V} (n : Nat), RepL K H A ds vs → RepL K H A (ds.take n) (vs.take n)
  | _, _, 0, _ => by simpa using RepL.nil
  | _, _, n + 1, .nil => by simpa using RepL.nil
  | _, _, n + 1, .cons h r => .cons h (r.take n)
theorem RepL.drop : ∀ {ds : List D} {vs : List V} (n : Nat), RepL K H A ds vs → RepL K H A (ds.drop n) (vs.drop n)
  | _, _, 0, h => h
  | _, _, n + 1, .nil => .nil
  | _, _, n + 1, .cons h r => r.drop n
theorem RepL.set : ∀ {ds : List D} {vs : List V} (n : Nat) {d : D} {v : V}, RepL K H A ds vs → Rep K H A d v → RepL K H A (ds.set n d) (vs.set n v)
  | _, _, _, _, _, .nil, _ => .nil
  | _, _, 0, _, _, .cons h r, g => .cons g r
  | _, _, n + 1, _, _, .cons h r, g => .cons h (r.set n g)
theorem RepL.snoc {ds : List D} {vs : List V} {d : D} {v : V} (h : RepL K H A ds vs) (g : Rep K H A d v) : RepL K H A (ds ++ [d]) (vs ++ [v]) := h.app (.cons g .nil)
mutual
theorem Rep.dp : ∀ {d : D} {v : V}, Rep K H A d v → d.canLay0 = true → Dp K H v d
  | .none, _, .non, _ => .non
  | .bool _, _, .bl b, _ => .bl b
  | .int _, _, .int i, _ => .int i
  | .str _, _, .str x, _ => .str x
  | .list _, _, .lst h n r, c => .lst (SqL.of h) (RepL.dp r (by simpa [PyData.canLay0] using c))
  | .tuple _, _, .tup h r, c => .tup h.sq (RepL.dp r (by simpa [PyData.canLay0] using c))
  | .dict _, _, .dct _ _ _, c => by simp [PyData.canLay0] at c
theorem RepL.dp : ∀ {ds : List D} {vs : List V}, RepL K H A ds vs → PyData.canLayAll0 ds = true → DpAll K H vs ds
  | [], _, .nil, _ => .nil
  | _ :: _, _, .cons h r, c => by
    simp only [PyData.canLayAll0, Bool.and_eq_true] at c
    exact .cons (Rep.dp h c.1) (RepL.dp r c.2)
end
end
/-! ### what stands in the slots -/
inductive En
  | d (x : D)
  | own (ds : List D)
  | odk (kvs : List (D × D))
  | st
abbrev Ev := List (Option En)
def exs : Option (Addr × Addr) → List Addr
  | none => []
  | some q => [q.1, q.2]
def Keep (ex : List Addr) (H H' : Hp) : Prop := ∀ b o, H b = some o → b ∉ ex → H' b = some o
def LSo (st : Option (Addr × Addr)) (H : Hp) : Prop := ∀ q, st = some q → LS H q.1 q.2
structure Stp (st : Option (Addr × Addr)) (H H' : Hp) : Prop where
  k : Keep (exs st) H H'
  l : LSo st H'
def Mo (A : Addr → Prop) (ow : Nat → Option Addr) (a : Addr) : Prop := A a ∨ ∃ i, ow i = some a
def SR (K : PySem.W.Frag) (A : Addr → Prop) (st : Option (Addr × Addr)) (ow : Nat → Option Addr) (H : Hp) (i : Nat) : En → V → Prop
  | .d x, v => Rep K H (Mo A ow) x v
  | .own ds, v => ∃ a vs, ow i = some a ∧ v = .ref a ∧ H a = some (.lst vs) ∧ RepL K H (Mo A ow) ds vs
  | .odk kvs, v => ∃ a us, ow i = some a ∧ v = .ref a ∧ H a = some (.dK us) ∧ RepK K H (Mo A ow) kvs us
  | .st, v => ∃ q, st = some q ∧ v = .ref q.1
structure RE (K : PySem.W.Frag) (A : Addr → Prop) (st : Option (Addr × Addr)) (ow : Nat → Option Addr) (σ : L2.St) (H : Hp) (env : Ev) : Prop where
  ls : LSo st H
  dom : ∀ a, A a → H a ≠ none
  sta : ∀ q, st = some q → A q.1 ∧ A q.2
  al : ∀ i a, ow i = some a → H a ≠ none
  na : ∀ i a, ow i = some a → ¬ A a
  inj : ∀ i j a, ow i = some a → ow j = some a → i = j
  tie : ∀ i a, ow i = some a → (∃ ds, env[i]? = some (some (.own ds))) ∨ ∃ ds, env[i]? = some (some (.odk ds))
  len : σ.length = env.length
  sl : ∀ i e, env[i]? = some (some e) → ∃ v, σ[i]? = some (some v) ∧ SR K A st ow H i e v
theorem Keep.refl (ex : List Addr) (H : Hp) : Keep ex H H := fun _ _ h _ => h
theorem Keep.trans {ex : List Addr} {H H1 H2 : Hp} (a : Keep ex H H1) (b : Keep ex H1 H2) : Keep ex H H2 := fun q o h n => b q o (a q o h n) n
theorem Stp.trans {st : Option (Addr × Addr)} {H H1 H2 : Hp} (a : Stp st H H1) (b : Stp st H1 H2) : Stp st H H2 := ⟨a.k.trans b.k, b.l⟩
theorem LS.same {H H' : Hp} {p c : Addr} (h : LS H p c) (s : Same H H') : LS H' p c := by
  obtain ⟨k, ns, h1, h2, h3⟩ := h
  exact ⟨k, ns, s _ _ h1, s _ _ h2, h3⟩
theorem LSo.same {st : Option (Addr × Addr)} {H H' : Hp} (h : LSo st H) (s : Same H H') : LSo st H' := fun q e => (h q e).same s
theorem Stp.same {st : Option (Addr × Addr)} {H H' : Hp} (h : LSo st H) (s : Same H H') : Stp st H H' := ⟨fun b o e _ => s b o e, h.same s⟩
theorem same_upd {H : Hp} {p : Addr} {o : HO} (h : H p = none) : Same H (upd H p o) := fun b x e => by
  rw [upd_ne (ne_of_none e h)]
  exact e
theorem exs_mem {st : Option (Addr × Addr)} {a : Addr} (h : a ∈ exs st) : ∃ q, st = some q ∧ (a = q.1 ∨ a = q.2) := by
  cases st with
  | none => cases h
  | some q => exact ⟨q, rfl, by simpa [exs] using h⟩
section
variable {K : PySem.W.Frag} {A : Addr → Prop} {st : Option (Addr × Addr)} {ow : Nat → Option Addr} {σ : L2.St} {H H' : Hp} {env : Ev}
theorem RE.to_keep {ex : List Addr} (R : RE K A st ow σ H env) (hx : ∀ a ∈ ex, A a) (hk : Keep ex H H') : To H H' (Mo A ow) (Mo A ow) :=
  ⟨fun b o e n => ⟨hk b o e fun z => n (.inl (hx b z)), n⟩⟩
theorem RE.keep {ex : List Addr} (R : RE K A st ow σ H env) (hx : ∀ a ∈ ex, A a) (hk : Keep ex H H') (hl : LSo st H') (hd : ∀ a ∈ ex, H' a ≠ none) : RE K A st ow σ H' env := by
  have t := R.to_keep hx hk
  have ok : ∀ i a o, ow i = some a → H a = some o → H' a = some o := fun i a o e h => hk a o h fun z => R.na i a e (hx a z)
  have nn : ∀ {a : Addr}, H a ≠ none → (a ∉ ex) → H' a ≠ none := fun {a} h n => by
    cases e : H a with
    | none => exact absurd e h
    | some o => rw [hk a o e n]; intro z; cases z
  refine ⟨hl, fun a ha => ?_, R.sta, fun i a e => nn (R.al i a e) fun z => R.na i a e (hx a z), R.na, R.inj, R.tie, R.len, fun i e he => ?_⟩
  · by_cases h : a ∈ ex
    · exact hd a h
    · exact nn (R.dom a ha) h
  · obtain ⟨v, hv, r⟩ := R.sl i e he
    refine ⟨v, hv, ?_⟩
    cases e with
    | d x => exact Rep.to t r
    | own ds =>
      obtain ⟨a, vs, h1, h2, h3, h4⟩ := r
      exact ⟨a, vs, h1, h2, ok i a _ h1 h3, RepL.to t h4⟩
    | odk ds =>
      obtain ⟨a, vs, h1, h2, h3, h4⟩ := r
      exact ⟨a, vs, h1, h2, ok i a _ h1 h3, RepK.to t h4⟩
    | st => exact r
theorem RE.exA (R : RE K A st ow σ H env) : ∀ a ∈ exs st, A a := fun a h => by
  obtain ⟨q, e, z⟩ := exs_mem h
  rcases z with rfl | rfl
  · exact (R.sta q e).1
  · exact (R.sta q e).2
theorem LSo.ne {st : Option (Addr × Addr)} {H : Hp} (l : LSo st H) : ∀ a ∈ exs st, H a ≠ none := fun a h => by
  obtain ⟨q, e, z⟩ := exs_mem h
  obtain ⟨k, ns, h1, h2, _⟩ := l q e
  rcases z with rfl | rfl
  · rw [h1]; intro z; cases z
  · rw [h2]; intro z; cases z
theorem RE.step (R : RE K A st ow σ H env) (s : Stp st H H') : RE K A st ow σ H' env := R.keep R.exA s.k s.l s.l.ne
theorem RE.toS (R : RE K A st ow σ H env) (s : Stp st H H') : To H H' (Mo A ow) (Mo A ow) := R.to_keep R.exA s.k
theorem RE.alM (R : RE K A st ow σ H env) {a : Addr} (h : Mo A ow a) : H a ≠ none := h.elim (R.dom a) fun ⟨i, e⟩ => R.al i a e
end
/-- data that is read: what a slot owns may be read too -/
inductive RepB (K : PySem.W.Frag) (H : Hp) (A M : Addr → Prop) : D → V → Prop
  | r {d : D} {v : V} : Rep K H M d v → RepB K H A M d v
  | o {a : Addr} {xs : List V} {ds : List D} : H a = some (.lst xs) → ¬ A a → RepL K H M ds xs → RepB K H A M (.list ds) (.ref a)
  | k {a : Addr} {us : List (Key × V)} {kvs : List (D × D)} : H a = some (.dK us) → ¬ A a → RepK K H M kvs us → RepB K H A M (.dict kvs) (.ref a)
def eget : Ev → Nat → Option En
  | [], _ => none
  | e :: _, 0 => e
  | _ :: r, n + 1 => eget r n
theorem eget_some : ∀ {env : Ev} {i : Nat} {e : En}, eget env i = some e → env[i]? = some (some e)
  | [], _, _, h => by cases h
  | _ :: _, 0, _, h => by rw [List.getElem?_cons_zero]; exact congrArg some h
  | _ :: r, n + 1, _, h => by rw [List.getElem?_cons_succ]; exact eget_some h
theorem some_eget : ∀ {env : Ev} {i : Nat} {e : En}, env[i]? = some (some e) → eget env i = some e
  | [], _, _, h => by simp at h
  | _ :: _, 0, _, h => by rw [List.getElem?_cons_zero] at h; exact Option.some.inj h
  | _ :: r, n + 1, _, h => some_eget (env := r) (i := n) (by rw [List.getElem?_cons_succ] at h; exact h)
def isOwn (env : Ev) (i : Nat) : Bool := match eget env i with | some (.own _) => true | some (.odk _) => true | _ => false
def noOwn (vs : List Nat) (env : Ev) : Bool := vs.all fun i => !isOwn env i
structure RfE (K : PySem.W.Frag) (t : TE) (de : Ev → (D → Prop) → Prop) : Prop where
  run : ∀ {A : Addr → Prop} {st : Option (Addr × Addr)} {ow : Nat → Option Addr} {σ : L2.St} {H : Hp} {env : Ev} {Qd : D → Prop} {Q : VK},
  RE K A st ow σ H env → de env Qd → (∀ d v H', Qd d → Stp st H H' → Rep K H' (Mo A ow) d v → Q v H') → t σ H Q
structure RfB (K : PySem.W.Frag) (t : TE) (de : Ev → (D → Prop) → Prop) : Prop where
  run : ∀ {A : Addr → Prop} {st : Option (Addr × Addr)} {ow : Nat → Option Addr} {σ : L2.St} {H : Hp} {env : Ev} {Qd : D → Prop} {Q : VK},
  RE K A st ow σ H env → de env Qd → (∀ d v H', Qd d → Stp st H H' → RepB K H' A (Mo A ow) d v → Q v H') → t σ H Q
structure RfT (K : PySem.W.Frag) (t : TT) (dt : Ev → (Bool → Prop) → Prop) : Prop where
  run : ∀ {A : Addr → Prop} {st : Option (Addr × Addr)} {ow : Nat → Option Addr} {σ : L2.St} {H : Hp} {env : Ev} {Qd : Bool → Prop} {Q : Bool → Hp → Prop},
  RE K A st ow σ H env → dt env Qd → (∀ b H', Qd b → Stp st H H' → Q b H') → t σ H Q
structure RfA (K : PySem.W.Frag) (t : TA) (da : Ev → (List D → Prop) → Prop) : Prop where
  run : ∀ {A : Addr → Prop} {st : Option (Addr × Addr)} {ow : Nat → Option Addr} {σ : L2.St} {H : Hp} {env : Ev} {Qd : List D → Prop} {Q : List V → Hp → Prop},
  RE K A st ow σ H env → da env Qd → (∀ ds vs H', Qd ds → Stp st H H' → RepL K H' (Mo A ow) ds vs → Q vs H') → t σ H Q
/-- arguments that are read alone -/
inductive RepBL (K : PySem.W.Frag) (H : Hp) (A M : Addr → Prop) : List D → List V → Prop
  | nil : RepBL K H A M [] []
  | cons {d : D} {v : V} {ds : List D} {vs : List V} : RepB K H A M d v → RepBL K H A M ds vs → RepBL K H A M (d :: ds) (v :: vs)
structure RfAB (K : PySem.W.Frag) (t : TA) (da : Ev → (List D → Prop) → Prop) : Prop where
  run : ∀ {A : Addr → Prop} {st : Option (Addr × Addr)} {ow : Nat → Option Addr} {σ : L2.St} {H : Hp} {env : Ev} {Qd : List D → Prop} {Q : List V → Hp → Prop},
  RE K A st ow σ H env → da env Qd → (∀ ds vs H', Qd ds → Stp st H H' → RepBL K H' A (Mo A ow) ds vs → Q vs H') → t σ H Q
/-- an operator's reading by values -/
structure RfV2 (K : PySem.W.Frag) (r : R2) (op : D → D → (D → Prop) → Prop) : Prop where
  run : ∀ {A : Addr → Prop} {st : Option (Addr × Addr)} {ow : Nat → Option Addr} {σ : L2.St} {H : Hp} {env : Ev} {a b : D} {x y : V} {Qd : D → Prop} {Q : VK},
  RE K A st ow σ H env → RepB K H A (Mo A ow) a x → RepB K H A (Mo A ow) b y → op a b Qd → (∀ d v H', Qd d → Stp st H H' → Rep K H' (Mo A ow) d v → Q v H') → r x y H Q
structure RfVL (K : PySem.W.Frag) (r : List V → Hp → VK → Prop) (op : List D → (D → Prop) → Prop) : Prop where
  run : ∀ {A : Addr → Prop} {st : Option (Addr × Addr)} {ow : Nat → Option Addr} {σ : L2.St} {H : Hp} {env : Ev} {ds : List D} {vs : List V} {Qd : D → Prop} {Q : VK},
  RE K A st ow σ H env → RepBL K H A (Mo A ow) ds vs → op ds Qd → (∀ d v H', Qd d → Stp st H H' → Rep K H' (Mo A ow) d v → Q v H') → r vs H Q
section
variable {K : PySem.W.Frag}
theorem RepB.to {H H' : Hp} {A M : Addr → Prop} (t : To H H' M M) (hA : ∀ a o, H a = some o → ¬ A a → H' a = some o) {d : D} {v : V} (h : RepB K H A M d v) : RepB K H' A M d v := by
  cases h with
  | r h => exact .r (Rep.to t h)
  | o h n r => exact .o (hA _ _ h n) n (RepL.to t r)
  | k h n r => exact .k (hA _ _ h n) n (RepK.to t r)
theorem RE.stepB {A : Addr → Prop} {st : Option (Addr × Addr)} {ow : Nat → Option Addr} {σ : L2.St} {H H' : Hp} {env : Ev} (R : RE K A st ow σ H env) (s : Stp st H H') {d : D} {v : V} (h : RepB K H A (Mo A ow) d v) : RepB K H' A (Mo A ow) d v :=   h.to (R.toS s) fun a o e n => s.k a o e fun z => n (R.exA a z)
theorem RfE.b {t : TE} {de : Ev → (D → Prop) → Prop} (h : RfE K t de) : RfB K t de := ⟨fun R q k => h.run R q fun d v H' x s r => k d v H' x s (.r r)⟩
def dN (i : Nat) : Ev → (D → Prop) → Prop := fun env Q => match eget env i with | some (.d x) => Q x | _ => False
def dNB (i : Nat) : Ev → (D → Prop) → Prop := fun env Q => match eget env i with | some (.d x) => Q x | some (.own ds) => Q (.list ds) | some (.odk ds) => Q (.dict ds) | _ => False
theorem stp_refl {A : Addr → Prop} {st : Option (Addr × Addr)} {ow : Nat → Option Addr} {σ : L2.St} {H : Hp} {env : Ev} (R : RE K A st ow σ H env) : Stp st H H := ⟨Keep.refl _ _, R.ls⟩
theorem rn (i : Nat) : RfE K (tVar i) (dN i) := ⟨fun {A st ow σ H env Qd Q} R q k => by
  unfold dN at q
  split at q
  · rename_i x e
    obtain ⟨v, hv, r⟩ := R.sl i _ (eget_some e)
    exact ⟨v, hv, k x v H q (stp_refl R) r⟩
  · exact q.elim⟩
theorem rnb (i : Nat) : RfB K (tVar i) (dNB i) := ⟨fun {A st ow σ H env Qd Q} R q k => by
  unfold dNB at q
  split at q
  · rename_i x e
    obtain ⟨v, hv, r⟩ := R.sl i _ (eget_some e)
    exact ⟨v, hv, k x v H q (stp_refl R) (.r r)⟩
  · rename_i x e
    obtain ⟨v, hv, a, vs, h1, rfl, h3, h4⟩ := R.sl i _ (eget_some e)
    exact ⟨_, hv, k _ _ H q (stp_refl R) (.o h3 (R.na _ _ h1) h4)⟩
  · rename_i x e
    obtain ⟨v, hv, a, vs, h1, rfl, h3, h4⟩ := R.sl i _ (eget_some e)
    exact ⟨_, hv, k _ _ H q (stp_refl R) (.k h3 (R.na _ _ h1) h4)⟩
  · exact q.elim⟩
def dC (x : D) : Ev → (D → Prop) → Prop := fun _ Q => Q x
theorem rc_int (i : Int) : RfE K (tC (.int i)) (dC (.int i)) := ⟨fun R q k => k _ _ _ q (stp_refl R) (.int i)⟩
theorem rc_bl (i : Bool) : RfE K (tC (.bl i)) (dC (.bool i)) := ⟨fun R q k => k _ _ _ q (stp_refl R) (.bl i)⟩
theorem rc_str (i : Str) : RfE K (tC (.str i)) (dC (.str i)) := ⟨fun R q k => k _ _ _ q (stp_refl R) (.str i)⟩
theorem rc_non : RfE K (tC .non) (dC .none) := ⟨fun R q k => k _ _ _ q (stp_refl R) .non⟩
/-- a constant of the top: a tuple of scalars -/
inductive Sc : D → V → Prop
  | non : Sc .none .non
  | bl (b : Bool) : Sc (.bool b) (.bl b)
  | int (i : Int) : Sc (.int i) (.int i)
  | str (s : Str) : Sc (.str s) (.str s)
theorem Sc.rep {d : D} {v : V} {H : Hp} {A : Addr → Prop} (h : Sc d v) : Rep K H A d v := by
  cases h with
  | non => exact .non
  | bl b => exact .bl b
  | int b => exact .int b
  | str b => exact .str b
theorem sc_all {ds : List D} {vs : List V} {H : Hp} {A : Addr → Prop} (h : Paired Sc ds vs) : RepL K H A ds vs := by
  induction h with
  | nil => exact .nil
  | cons h _ ih => exact .cons h.rep ih
theorem rc_tup {a : Addr} {ds : List D} {vs : List V} (h : KTup K a vs) (hs : Paired Sc ds vs) : RfE K (tC (.ref a)) (dC (.tuple ds)) := ⟨fun R q k => k _ _ _ q (stp_refl R) (.tup (.inr h) (sc_all hs))⟩
def dOp (op : D → D → (D → Prop) → Prop) (da db : Ev → (D → Prop) → Prop) : Ev → (D → Prop) → Prop := fun env Q => da env fun x => db env fun y => op x y Q
theorem ro {r : R2} {op : D → D → (D → Prop) → Prop} {ta tb : TE} {da db : Ev → (D → Prop) → Prop} (ho : RfV2 K r op) (ha : RfB K ta da) (hb : RfB K tb db) : RfE K (tOp r ta tb) (dOp op da db) := ⟨fun R q k =>
  ha.run R q fun _ _ _ q1 s1 r1 => hb.run (R.step s1) q1 fun _ _ _ q2 s2 r2 => ho.run ((R.step s1).step s2) ((R.step s1).stepB s2 r1) r2 q2 fun d v H3 q3 s3 r3 => k d v H3 q3 (s1.trans (s2.trans s3)) r3⟩
/-! operators by values -/
def oI (C : Int → Int → Prop) (g : Int → Int → D) : D → D → (D → Prop) → Prop := fun x y Q => match x, y with
  | .int i, .int j => C i j ∧ Q (g i j)
  | _, _ => False
def oI0 (g : Int → Int → D) : D → D → (D → Prop) → Prop := fun x y Q => match x, y with
  | .int i, .int j => Q (g i j)
  | _, _ => False
theorem rv_I {C : Int → Int → Prop} {gv : Int → Int → V} {gd : Int → Int → D} (h : ∀ i j, Sc (gd i j) (gv i j)) : RfV2 K (rI C gv) (oI C gd) := ⟨fun R h1 h2 q k => by
  unfold oI at q
  split at q
  · cases h1 with | r h1 =>
    cases h2 with | r h2 =>
    cases h1; cases h2
    exact ⟨_, _, rfl, rfl, q.1, k _ _ _ q.2 (stp_refl R) (h _ _).rep⟩
  · exact q.elim⟩
theorem rv_I0 {gv : Int → Int → V} {gd : Int → Int → D} (h : ∀ i j, Sc (gd i j) (gv i j)) : RfV2 K (rI0 gv) (oI0 gd) := ⟨fun R h1 h2 q k => by
  unfold oI0 at q
  split at q
  · cases h1 with | r h1 =>
    cases h2 with | r h2 =>
    cases h1; cases h2
    exact ⟨_, _, rfl, rfl, k _ _ _ q (stp_refl R) (h _ _).rep⟩
  · exact q.elim⟩
theorem rv_add : RfV2 K (rI0 fun i j => .int (i + j)) (oI0 fun i j => .int (i + j)) := rv_I0 fun _ _ => .int _
theorem rv_sub : RfV2 K (rI0 fun i j => .int (i - j)) (oI0 fun i j => .int (i - j)) := rv_I0 fun _ _ => .int _
theorem rv_mul : RfV2 K (rI CMul fun i j => .int (i * j)) (oI CMul fun i j => .int (i * j)) := rv_I fun _ _ => .int _
theorem rv_mod : RfV2 K (rI (fun _ j => 0 < j) fun i j => .int (i % j)) (oI (fun _ j => 0 < j) fun i j => .int (i % j)) := rv_I fun _ _ => .int _
theorem rv_fdiv : RfV2 K (rI CDiv fun i j => .int (i / j)) (oI CDiv fun i j => .int (i / j)) := rv_I fun _ _ => .int _
theorem rv_pow : RfV2 K (rI CPow fun i j => .int (i ^ j.toNat)) (oI CPow fun i j => .int (i ^ j.toNat)) := rv_I fun _ _ => .int _
theorem rv_shl : RfV2 K (rI CPow fun i j => .int (i * 2 ^ j.toNat)) (oI CPow fun i j => .int (i * 2 ^ j.toNat)) := rv_I fun _ _ => .int _
theorem rv_shr : RfV2 K (rI (fun _ j => 0 ≤ j) fun i j => .int (i / 2 ^ j.toNat)) (oI (fun _ j => 0 ≤ j) fun i j => .int (i / 2 ^ j.toNat)) := rv_I fun _ _ => .int _
theorem rv_and : RfV2 K (rI0 fun i j => .int (Builtin.bitAnd i j)) (oI0 fun i j => .int (Builtin.bitAnd i j)) := rv_I0 fun _ _ => .int _
theorem rv_or : RfV2 K (rI0 fun i j => .int (Builtin.bitOr i j)) (oI0 fun i j => .int (Builtin.bitOr i j)) := rv_I0 fun _ _ => .int _
theorem rv_xor : RfV2 K (rI0 fun i j => .int (Builtin.bitXor i j)) (oI0 fun i j => .int (Builtin.bitXor i j)) := rv_I0 fun _ _ => .int _
theorem rv_lt : RfV2 K (rI0 fun i j => .bl (decide (i < j))) (oI0 fun i j => .bool (decide (i < j))) := rv_I0 fun _ _ => .bl _
theorem rv_le : RfV2 K (rI0 fun i j => .bl (decide (i ≤ j))) (oI0 fun i j => .bool (decide (i ≤ j))) := rv_I0 fun _ _ => .bl _
theorem rv_gt : RfV2 K (rI0 fun i j => .bl (decide (j < i))) (oI0 fun i j => .bool (decide (j < i))) := rv_I0 fun _ _ => .bl _
theorem rv_ge : RfV2 K (rI0 fun i j => .bl (decide (j ≤ i))) (oI0 fun i j => .bool (decide (j ≤ i))) := rv_I0 fun _ _ => .bl _
def okD (d : D) : Bool := SeqAt.shaped d
theorem okD_lay {d : D} (h : okD d = true) : d.canLay0 = true := by
  unfold okD SeqAt.shaped at h
  rw [Bool.and_eq_true] at h
  exact h.1
theorem RepB.dp {H : Hp} {A M : Addr → Prop} {d : D} {v : V} (h : RepB K H A M d v) (c : d.canLay0 = true) : Dp K H v d := by
  cases h with
  | r h => exact Rep.dp h c
  | o h n r => exact .lst (SqL.of h) (RepL.dp r (by simpa [PyData.canLay0] using c))
  | k h n r => simp [PyData.canLay0] at c
def oEq (neg : Bool) : D → D → (D → Prop) → Prop := fun x y Q => okD x = true ∧ okD y = true ∧ Q (.bool (if neg then !PyData.eqv x y else PyData.eqv x y))
theorem rv_eqD : RfV2 K (rEqD K) (oEq false) := ⟨fun R h1 h2 q k => ⟨_, _, h1.dp (okD_lay q.1), h2.dp (okD_lay q.2.1), q.1, q.2.1, k _ _ _ q.2.2 (stp_refl R) (.bl _)⟩⟩
theorem rv_neD : RfV2 K (rNeD K) (oEq true) := ⟨fun R h1 h2 q k => ⟨_, _, h1.dp (okD_lay q.1), h2.dp (okD_lay q.2.1), q.1, q.2.1, k _ _ _ q.2.2 (stp_refl R) (.bl _)⟩⟩
/-- == of scalars -/
def eqS : D → D → Option Bool
  | .none, .none => some true
  | .none, .int _ => some false | .int _, .none => some false | .none, .bool _ => some false | .bool _, .none => some false | .none, .str _ => some false | .str _, .none => some false
  | .int i, .int j => some (decide (i = j)) | .bool a, .bool b => some (decide (a = b)) | .str a, .str b => some (decide (a = b))
  | .int _, .str _ => some false | .str _, .int _ => some false | .bool _, .str _ => some false | .str _, .bool _ => some false
  | _, _ => none
def oEqS (neg : Bool) : D → D → (D → Prop) → Prop := fun x y Q => match eqS x y with
  | some b => Q (.bool (if neg then !b else b))
  | none => False
theorem eqS_V {H : Hp} {A M : Addr → Prop} {a b : D} {x y : V} {c : Bool} (h : eqS a b = some c) (h1 : RepB K H A M a x) (h2 : RepB K H A M b y) : scal x y = true ∧ decide (x = y) = c := by
  cases h1 with
  | r h1 =>
    cases h2 with
    | r h2 => cases h1 <;> cases h2 <;> simp_all [eqS, scal]
    | o h n r => cases h1 <;> simp_all [eqS]
    | k h n r => cases h1 <;> simp_all [eqS]
  | o h n r => cases b <;> simp_all [eqS]
  | k h n r => cases b <;> simp_all [eqS]
theorem rv_eq : RfV2 K rEq (oEqS false) := ⟨fun R h1 h2 q k => by
  unfold oEqS at q
  split at q
  · rename_i b e
    obtain ⟨e1, e2⟩ := eqS_V e h1 h2
    exact ⟨e1, by rw [e2]; exact k _ _ _ q (stp_refl R) (.bl _)⟩
  · exact q.elim⟩
theorem rv_ne : RfV2 K rNe (oEqS true) := ⟨fun R h1 h2 q k => by
  unfold oEqS at q
  split at q
  · rename_i b e
    obtain ⟨e1, e2⟩ := eqS_V e h1 h2
    exact ⟨e1, by rw [e2]; exact k _ _ _ q (stp_refl R) (.bl _)⟩
  · exact q.elim⟩
def isNo : D → Bool | .none => true | _ => false
def oIsN (neg : Bool) : D → D → (D → Prop) → Prop := fun x y Q => match y with
  | .none => Q (.bool (if neg then !isNo x else isNo x))
  | _ => False
theorem isNo_V {H : Hp} {A M : Addr → Prop} {a : D} {x : V} (h1 : RepB K H A M a x) : decide (x = .non) = isNo a := by
  cases h1 with
  | r h1 => cases h1 <;> simp [isNo]
  | o h n r => simp [isNo]
  | k h n r => simp [isNo]
theorem rv_isN : RfV2 K (fun x y H Q => y = .non ∧ Q (.bl (decide (x = .non))) H) (oIsN false) := ⟨fun R h1 h2 q k => by
  unfold oIsN at q
  split at q
  · cases h2 with | r h2 =>
    cases h2
    exact ⟨rfl, by rw [isNo_V h1]; exact k _ _ _ q (stp_refl R) (.bl _)⟩
  · exact q.elim⟩
theorem rv_notN : RfV2 K (fun x y H Q => y = .non ∧ Q (.bl (!decide (x = .non))) H) (oIsN true) := ⟨fun R h1 h2 q k => by
  unfold oIsN at q
  split at q
  · cases h2 with | r h2 =>
    cases h2
    exact ⟨rfl, by rw [isNo_V h1]; exact k _ _ _ q (stp_refl R) (.bl _)⟩
  · exact q.elim⟩
def oB (g : Bool → Bool → Bool) : D → D → (D → Prop) → Prop := fun x y Q => match x, y with
  | .bool i, .bool j => Q (.bool (g i j))
  | _, _ => False
theorem rv_isB : RfV2 K (fun x y H Q => ∃ a b, x = .bl a ∧ y = .bl b ∧ Q (.bl (decide (a = b))) H) (oB fun a b => decide (a = b)) := ⟨fun R h1 h2 q k => by
  unfold oB at q
  split at q
  · cases h1 with | r h1 =>
    cases h2 with | r h2 =>
    cases h1; cases h2
    exact ⟨_, _, rfl, rfl, k _ _ _ q (stp_refl R) (.bl _)⟩
  · exact q.elim⟩
theorem rv_notB : RfV2 K (fun x y H Q => ∃ a b, x = .bl a ∧ y = .bl b ∧ Q (.bl (!decide (a = b))) H) (oB fun a b => !decide (a = b)) := ⟨fun R h1 h2 q k => by
  unfold oB at q
  split at q
  · cases h1 with | r h1 =>
    cases h2 with | r h2 =>
    cases h1; cases h2
    exact ⟨_, _, rfl, rfl, k _ _ _ q (stp_refl R) (.bl _)⟩
  · exact q.elim⟩
/-! sequences -/
def seqOf : D → Option (List D)
  | .list ds => some ds
  | .tuple ds => some ds
  | _ => none
theorem RepB.seq {H : Hp} {A M : Addr → Prop} {d : D} {v : V} {ds : List D} (h : RepB K H A M d v) (e : seqOf d = some ds) : ∃ a xs, v = .ref a ∧ (SqL K H a xs ∨ SqT K H a xs) ∧ RepL K H M ds xs := by
  cases h with
  | r h =>
    cases h with
    | lst h n r => cases e; exact ⟨_, _, rfl, .inl (SqL.of h), r⟩
    | tup h r => cases e; exact ⟨_, _, rfl, .inr h.sq, r⟩
    | _ => cases e
  | o h n r => cases e; exact ⟨_, _, rfl, .inl (SqL.of h), r⟩
  | k h n r => cases e
theorem RepB.lst {H : Hp} {A M : Addr → Prop} {v : V} {ds : List D} (h : RepB K H A M (.list ds) v) : ∃ a xs, v = .ref a ∧ H a = some (.lst xs) ∧ RepL K H M ds xs := by
  cases h with
  | r h => cases h with | lst h n r => exact ⟨_, _, rfl, h, r⟩
  | o h n r => exact ⟨_, _, rfl, h, r⟩
theorem RepB.tup {H : Hp} {A M : Addr → Prop} {v : V} {ds : List D} (h : RepB K H A M (.tuple ds) v) : ∃ a xs, v = .ref a ∧ TupAt K H M a xs ∧ RepL K H M ds xs := by
  cases h with
  | r h => cases h with | tup h r => exact ⟨_, _, rfl, h, r⟩
/-- ds[i] -/
def dix (ds : List D) (i : Int) : Option D := atI ds i
def oIx : D → D → (D → Prop) → Prop := fun x y Q => match seqOf x, y with
  | some ds, .int i => (match dix ds i with | some d => Q d | none => False)
  | _, _ => False
theorem dix_nn {xs : List D} {i : Int} {x : D} (h : 0 ≤ i) (e : xs[i.toNat]? = some x) : dix xs i = some x := by
  have hl := (List.getElem?_eq_some_iff.mp e).1
  unfold dix atI ixN
  rw [if_pos h, if_pos (by omega)]
  exact e
theorem dix_map {α : Type} {f : α → D} {as : List α} {i : Int} {a : α} (h : 0 ≤ i) (e : as[i.toNat]? = some a) : dix (as.map f) i = some (f a) := dix_nn h (by rw [List.getElem?_map, e]; rfl)
theorem dix_0 (a : D) (r : List D) : dix (a :: r) 0 = some a := dix_nn (by decide) rfl
theorem dix_1 (a b : D) (r : List D) : dix (a :: b :: r) 1 = some b := dix_nn (by decide) rfl
theorem dix_2 (a b c : D) (r : List D) : dix (a :: b :: c :: r) 2 = some c := dix_nn (by decide) rfl
theorem dix_3 (a b c d : D) (r : List D) : dix (a :: b :: c :: d :: r) 3 = some d := dix_nn (by decide) rfl
theorem dix_4 (a b c d e : D) (r : List D) : dix (a :: b :: c :: d :: e :: r) 4 = some e := dix_nn (by decide) rfl
theorem dix_5 (a b c d e f : D) (r : List D) : dix (a :: b :: c :: d :: e :: f :: r) 5 = some f := dix_nn (by decide) rfl
theorem dix_6 (a b c d e f g : D) (r : List D) : dix (a :: b :: c :: d :: e :: f :: g :: r) 6 = some g := dix_nn (by decide) rfl
theorem dix_7 (a b c d e f g h : D) (r : List D) : dix (a :: b :: c :: d :: e :: f :: g :: h :: r) 7 = some h := dix_nn (by decide) rfl
theorem dix_8 (a b c d e f g h i : D) (r : List D) : dix (a :: b :: c :: d :: e :: f :: g :: h :: i :: r) 8 = some i := dix_nn (by decide) rfl
theorem dix_9 (a b c d e f g h i j : D) (r : List D) : dix (a :: b :: c :: d :: e :: f :: g :: h :: i :: j :: r) 9 = some j := dix_nn (by decide) rfl
theorem atI_rep {H : Hp} {M : Addr → Prop} {ds : List D} {xs : List V} {i : Int} {d : D} (r : RepL K H M ds xs) (e : atI ds i = some d) : ∃ v, atI xs i = some v ∧ Rep K H M d v := by
  unfold atI at e ⊢
  rw [r.len] at e
  cases h : ixN xs.length i with
  | none => rw [h] at e; cases e
  | some j =>
    rw [h] at e
    exact r.get e
theorem rv_ix : RfV2 K (rIx K) oIx := ⟨fun {A st ow σ H env a b x y Qd Q} R h1 h2 q k => by
  unfold oIx at q
  split at q
  · rename_i ds i e
    split at q
    · rename_i d e1
      obtain ⟨p, xs, rfl, hs, r⟩ := h1.seq e
      obtain ⟨v, e2, rv⟩ := atI_rep r e1
      cases h2 with | r h2 =>
      cases h2
      rcases hs with h | h
      · exact .inl ⟨_, _, _, v, rfl, rfl, h, e2, k _ _ _ q (stp_refl R) rv⟩
      · exact .inr (.inl ⟨_, _, _, v, rfl, rfl, h, e2, k _ _ _ q (stp_refl R) rv⟩)
    · exact q.elim
  · exact q.elim⟩
def oIxS : D → D → (D → Prop) → Prop := fun x y Q => match x, y with
  | .str z, .int i => z.length ≤ sizeLine ∧ ∃ c, atI z.cps.toList i = some c ∧ Q (.str ⟨#[c]⟩)
  | _, _ => False
theorem rv_ixS : RfV2 K rIxS oIxS := ⟨fun R h1 h2 q k => by
  unfold oIxS at q
  split at q
  · cases h1 with | r h1 =>
    cases h2 with | r h2 =>
    cases h1; cases h2
    obtain ⟨q1, c, q2, q3⟩ := q
    exact ⟨_, _, c, rfl, rfl, q1, q2, k _ _ _ q3 (stp_refl R) (.str _)⟩
  · exact q.elim⟩
/-- a new place -/
theorem new_to {H : Hp} {p : Addr} {o : HO} {M M' : Addr → Prop} (n : H p = none) (hm : ∀ a, M' a → M a ∨ a = p) : To H (upd H p o) M M' :=   ⟨fun b x e z => ⟨same_upd n b x e, fun w => (hm b w).elim z fun y => by rw [y, n] at e; cases e⟩⟩
theorem to_same {H H' : Hp} {M : Addr → Prop} (s : Same H H') : To H H' M M := ⟨fun b x e z => ⟨s b x e, z⟩⟩
section
variable {A : Addr → Prop} {st : Option (Addr × Addr)} {ow : Nat → Option Addr} {σ : L2.St} {H : Hp} {env : Ev}
theorem RE.newM (R : RE K A st ow σ H env) {p : Addr} (n : H p = none) : ¬ Mo A ow p := fun z => R.alM z n
theorem RE.newA (R : RE K A st ow σ H env) {p : Addr} (n : H p = none) : ¬ A p := fun z => R.dom p z n
theorem RE.mkT (R : RE K A st ow σ H env) {p : Addr} {ds : List D} {xs : List V} (n : H p = none) (r : RepL K H (Mo A ow) ds xs) : Rep K (upd H p (.tup xs)) (Mo A ow) (.tuple ds) (.ref p) :=   .tup (.inl ⟨.inl upd_same, R.newM n⟩) (RepL.to (to_same (same_upd n)) r)
theorem RE.mkL (R : RE K A st ow σ H env) {p : Addr} {ds : List D} {xs : List V} (n : H p = none) (r : RepL K H (Mo A ow) ds xs) : Rep K (upd H p (.lst xs)) (Mo A ow) (.list ds) (.ref p) :=   .lst upd_same (R.newM n) (RepL.to (to_same (same_upd n)) r)
theorem RE.new (R : RE K A st ow σ H env) {p : Addr} {o : HO} (n : H p = none) : Stp st H (upd H p o) := .same R.ls (same_upd n)
end
def cutD {α : Type} (xs : List α) (lo hi : Option Int) : List α := (xs.drop (HT.sIx xs.length 0 lo)).take (HT.sIx xs.length xs.length hi - HT.sIx xs.length 0 lo)
theorem cut_rep {H : Hp} {M : Addr → Prop} {ds : List D} {xs : List V} {lo hi : Option Int} (r : RepL K H M ds xs) : RepL K H M (cutD ds lo hi) (cutV xs lo hi) := by
  unfold cutD cutV
  rw [r.len]
  exact (r.drop _).take _
def oCat : D → D → (D → Prop) → Prop := fun x y Q => match x, y with
  | .list a, .list b => a.length + b.length ≤ sizeLine ∧ Q (.list (a ++ b))
  | _, _ => False
theorem rv_cat : RfV2 K rCat oCat := ⟨fun R h1 h2 q k => by
  unfold oCat at q
  split at q
  · obtain ⟨a, xs, rfl, h3, r3⟩ := h1.lst
    obtain ⟨b, ys, rfl, h4, r4⟩ := h2.lst
    exact ⟨a, b, xs, ys, rfl, rfl, h3, h4, by rw [← r3.len, ← r4.len]; exact q.1, fun p n => k _ _ _ q.2 (R.new n) (R.mkL n (r3.app r4))⟩
  · exact q.elim⟩
def oCatT : D → D → (D → Prop) → Prop := fun x y Q => match x, y with
  | .tuple a, .tuple b => a.length + b.length ≤ sizeLine ∧ Q (.tuple (a ++ b))
  | _, _ => False
theorem RepL.nil_iff {H : Hp} {M : Addr → Prop} {ds : List D} {xs : List V} (r : RepL K H M ds xs) (h : xs = []) : ds = [] := by
  subst h
  cases r
  rfl
theorem rv_catT : RfV2 K (rCatA K) oCatT := ⟨fun R h1 h2 q k => by
  unfold oCatT at q
  split at q
  · obtain ⟨a, xs, rfl, h3, r3⟩ := h1.tup
    obtain ⟨b, ys, rfl, h4, r4⟩ := h2.tup
    refine ⟨a, b, xs, ys, rfl, rfl, h3.sq, h4.sq, by rw [← r3.len, ← r4.len]; exact q.1, fun e => ?_, fun _ e => ?_, fun _ _ p n => k _ _ _ q.2 (R.new n) (R.mkT n (r3.app r4))⟩
    · have e' := r3.nil_iff e
      subst e'
      exact k _ _ _ q.2 (stp_refl R) (.tup h4 r4)
    · have e' := r4.nil_iff e
      subst e'
      rw [List.append_nil] at q
      exact k _ _ _ q.2 (stp_refl R) (.tup h3 r3)
  · exact q.elim⟩
def oCatS : D → D → (D → Prop) → Prop := fun x y Q => match x, y with
  | .str a, .str b => a.length + b.length ≤ sizeLine ∧ Q (.str (a ++ b))
  | _, _ => False
theorem rv_catS : RfV2 K (fun x y H Q => ∃ i j, x = .str i ∧ y = .str j ∧ i.length + j.length ≤ sizeLine ∧ Q (.str (i ++ j)) H) oCatS := ⟨fun R h1 h2 q k => by
  unfold oCatS at q
  split at q
  · cases h1 with | r h1 =>
    cases h2 with | r h2 =>
    cases h1; cases h2
    exact ⟨_, _, rfl, rfl, q.1, k _ _ _ q.2 (stp_refl R) (.str _)⟩
  · exact q.elim⟩
/-! in -/
def flatD : D → Bool
  | .none => true | .bool _ => true | .int _ => true | .str _ => true | _ => false
def inD (x : D) (xs : List D) : Bool := xs.any fun y => PyData.eqv y x
theorem flat_V {H : Hp} {M : Addr → Prop} {d : D} {v : V} (h : Rep K H M d v) : flatV v = flatD d := by cases h <;> rfl
theorem flat_all {H : Hp} {M : Addr → Prop} : ∀ {ds : List D} {vs : List V}, RepL K H M ds vs → vs.all flatV = ds.all flatD
  | _, _, .nil => rfl
  | _, _, .cons h r => by rw [List.all_cons, List.all_cons, flat_V h, flat_all r]
theorem eqV_D {H : Hp} {M : Addr → Prop} {d e : D} {v u : V} (h : Rep K H M d v) (h2 : Rep K H M e u) (f : flatD d = true) (f2 : flatD e = true) : eqV v u = PyData.eqv d e := by
  cases h <;> cases h2 <;> first | rfl | (simp [flatD] at f) | (simp [flatD] at f2)
theorem inV_D {H : Hp} {M : Addr → Prop} {d : D} {v : V} (h : Rep K H M d v) (f : flatD d = true) : ∀ {ds : List D} {vs : List V}, RepL K H M ds vs → ds.all flatD = true → inV v vs = inD d ds
  | _, _, .nil, _ => rfl
  | _, _, .cons h1 r, g => by
    rw [List.all_cons, Bool.and_eq_true] at g
    have := inV_D h f r g.2
    unfold inV inD at this ⊢
    rw [List.any_cons, List.any_cons, this, eqV_D h1 h g.1 f]
def oIn (neg : Bool) : D → D → (D → Prop) → Prop := fun x y Q => match seqOf y with
  | some ds => flatD x = true ∧ ds.all flatD = true ∧ Q (.bool (if neg then !inD x ds else inD x ds))
  | none => False
theorem rv_in (neg : Bool) : RfV2 K (rIn K neg) (oIn neg) := ⟨fun {A st ow σ H env a b x y Qd Q} R h1 h2 q k => by
  unfold oIn at q
  split at q
  · rename_i ds e
    obtain ⟨p, xs, rfl, hs, r⟩ := h2.seq e
    obtain ⟨f1, f2, q⟩ := q
    cases h1 with
    | r h1 => exact ⟨p, xs, rfl, hs, by rw [flat_V h1]; exact f1, by rw [flat_all r]; exact f2, by rw [inV_D h1 f1 r f2]; exact k _ _ _ q (stp_refl R) (.bl _)⟩
    | o h n r => cases f1
    | k h n r => cases f1
  · exact q.elim⟩
def oInS (neg : Bool) : D → D → (D → Prop) → Prop := fun x y Q => match x, y with
  | .str u, .str z => ∃ c, u = ⟨#[c]⟩ ∧ Q (.bool (if neg then !decide (c ∈ z.cps.toList) else decide (c ∈ z.cps.toList)))
  | _, _ => False
theorem rv_inS : RfV2 K (fun x y H Q => ∃ (c : Nat) (z : Str), x = .str ⟨#[c]⟩ ∧ y = .str z ∧ Q (.bl (decide (c ∈ z.cps.toList))) H) (oInS false) := ⟨fun R h1 h2 q k => by
  unfold oInS at q
  split at q
  · cases h1 with | r h1 =>
    cases h2 with | r h2 =>
    cases h1; cases h2
    obtain ⟨c, rfl, q⟩ := q
    exact ⟨_, _, rfl, rfl, k _ _ _ q (stp_refl R) (.bl _)⟩
  · exact q.elim⟩
end
section
variable {K : PySem.W.Frag}
theorem To.refl (H : Hp) (M : Addr → Prop) : To H H M M := ⟨fun _ _ h n => ⟨h, n⟩⟩
theorem To.trans {H H1 H2 : Hp} {M M1 M2 : Addr → Prop} (a : To H H1 M M1) (b : To H1 H2 M1 M2) : To H H2 M M2 := ⟨fun p o h n => b.h p o (a.h p o h n).1 (a.h p o h n).2⟩
/-! tests -/
def dTb (de : Ev → (D → Prop) → Prop) : Ev → (Bool → Prop) → Prop := fun env Q => de env fun x => match x with | .bool b => Q b | _ => False
theorem rt_test {t : TE} {de : Ev → (D → Prop) → Prop} (h : RfE K t de) : RfT K (tTest t) (dTb de) := ⟨fun R q k => h.run R q fun d v H' q' s r => by
  split at q'
  · cases r
    exact ⟨_, rfl, k _ _ q' s⟩
  · exact q'.elim⟩
theorem rt_val {t : TE} {de : Ev → (D → Prop) → Prop} (h : RfE K t de) : RfT K (tB t) (dTb de) := ⟨fun R q k => h.run R q fun d v H' q' s r => by
  split at q'
  · cases r
    exact ⟨_, rfl, k _ _ q' s⟩
  · exact q'.elim⟩
def dAnd (a b : Ev → (Bool → Prop) → Prop) : Ev → (Bool → Prop) → Prop := fun env Q => a env fun c => if c = true then b env Q else Q false
def dOr (a b : Ev → (Bool → Prop) → Prop) : Ev → (Bool → Prop) → Prop := fun env Q => a env fun c => if c = true then Q true else b env Q
def dNot (a : Ev → (Bool → Prop) → Prop) : Ev → (Bool → Prop) → Prop := fun env Q => a env fun c => Q (!c)
theorem rt_and {t u : TT} {a b : Ev → (Bool → Prop) → Prop} (h1 : RfT K t a) (h2 : RfT K u b) : RfT K (tAnd t u) (dAnd a b) := ⟨fun R q k => h1.run R q fun c H1 q1 s1 => by
  cases c with
  | true =>
    rw [if_pos rfl] at q1 ⊢
    exact h2.run (R.step s1) q1 fun c H2 q2 s2 => k c H2 q2 (s1.trans s2)
  | false =>
    rw [if_neg Bool.false_ne_true] at q1 ⊢
    exact k _ _ q1 s1⟩
theorem rt_or {t u : TT} {a b : Ev → (Bool → Prop) → Prop} (h1 : RfT K t a) (h2 : RfT K u b) : RfT K (tOr t u) (dOr a b) := ⟨fun R q k => h1.run R q fun c H1 q1 s1 => by
  cases c with
  | false =>
    rw [if_neg Bool.false_ne_true] at q1 ⊢
    exact h2.run (R.step s1) q1 fun c H2 q2 s2 => k c H2 q2 (s1.trans s2)
  | true =>
    rw [if_pos rfl] at q1 ⊢
    exact k _ _ q1 s1⟩
theorem rt_not {t : TT} {a : Ev → (Bool → Prop) → Prop} (h : RfT K t a) : RfT K (tNot t) (dNot a) := ⟨fun R q k => h.run R q fun c H1 q1 s1 => k _ _ q1 s1⟩
def dYes : Ev → (Bool → Prop) → Prop := fun _ Q => Q true
theorem rt_yes : RfT K tYes dYes := ⟨fun R q k => k _ _ q (stp_refl R)⟩
/-! expressions that branch -/
def dAndV (a b : Ev → (D → Prop) → Prop) : Ev → (D → Prop) → Prop := fun env Q => a env fun x => match x with | .bool c => if c = true then b env Q else Q (.bool false) | _ => False
def dOrV (a b : Ev → (D → Prop) → Prop) : Ev → (D → Prop) → Prop := fun env Q => a env fun x => match x with | .bool c => if c = true then Q (.bool true) else b env Q | _ => False
def dNotV (a : Ev → (D → Prop) → Prop) : Ev → (D → Prop) → Prop := fun env Q => a env fun x => match x with | .bool c => Q (.bool (!c)) | _ => False
def dIfV (c : Ev → (Bool → Prop) → Prop) (a b : Ev → (D → Prop) → Prop) : Ev → (D → Prop) → Prop := fun env Q => c env fun k => if k = true then a env Q else b env Q
theorem re_and {t u : TE} {a b : Ev → (D → Prop) → Prop} (h1 : RfE K t a) (h2 : RfE K u b) : RfE K (tAndV t u) (dAndV a b) := ⟨fun R q k => h1.run R q fun x v H1 q1 s1 r1 => by
  split at q1
  · rename_i c
    cases r1
    refine ⟨_, rfl, ?_⟩
    cases c with
    | true =>
      rw [if_pos rfl] at q1 ⊢
      exact h2.run (R.step s1) q1 fun d v H2 q2 s2 r2 => k d v H2 q2 (s1.trans s2) r2
    | false =>
      rw [if_neg Bool.false_ne_true] at q1 ⊢
      exact k _ _ _ q1 s1 (.bl _)
  · exact q1.elim⟩
theorem re_or {t u : TE} {a b : Ev → (D → Prop) → Prop} (h1 : RfE K t a) (h2 : RfE K u b) : RfE K (tOrV t u) (dOrV a b) := ⟨fun R q k => h1.run R q fun x v H1 q1 s1 r1 => by
  split at q1
  · rename_i c
    cases r1
    refine ⟨_, rfl, ?_⟩
    cases c with
    | false =>
      rw [if_neg Bool.false_ne_true] at q1 ⊢
      exact h2.run (R.step s1) q1 fun d v H2 q2 s2 r2 => k d v H2 q2 (s1.trans s2) r2
    | true =>
      rw [if_pos rfl] at q1 ⊢
      exact k _ _ _ q1 s1 (.bl _)
  · exact q1.elim⟩
theorem re_not {t : TE} {a : Ev → (D → Prop) → Prop} (h : RfE K t a) : RfE K (tNotV t) (dNotV a) := ⟨fun R q k => h.run R q fun x v H1 q1 s1 r1 => by
  split at q1
  · cases r1
    exact ⟨_, rfl, k _ _ _ q1 s1 (.bl _)⟩
  · exact q1.elim⟩
theorem re_if {c : TT} {t u : TE} {dc : Ev → (Bool → Prop) → Prop} {a b : Ev → (D → Prop) → Prop} (hc : RfT K c dc) (h1 : RfE K t a) (h2 : RfE K u b) : RfE K (tIf c t u) (dIfV dc a b) := ⟨fun R q k => hc.run R q fun c H1 q1 s1 => by
  cases c with
  | true =>
    rw [if_pos rfl] at q1 ⊢
    exact h1.run (R.step s1) q1 fun d v H2 q2 s2 r2 => k d v H2 q2 (s1.trans s2) r2
  | false =>
    rw [if_neg Bool.false_ne_true] at q1 ⊢
    exact h2.run (R.step s1) q1 fun d v H2 q2 s2 r2 => k d v H2 q2 (s1.trans s2) r2⟩
def dChain (op op' : D → D → (D → Prop) → Prop) (a b c : Ev → (D → Prop) → Prop) : Ev → (D → Prop) → Prop := fun env Q => a env fun x => b env fun y => op x y fun z => match z with
  | .bool k => if k = true then c env fun w => op' y w Q else Q (.bool false)
  | _ => False
theorem re_chain {r r' : R2} {op op' : D → D → (D → Prop) → Prop} {ta tb tc : TE} {a b c : Ev → (D → Prop) → Prop} (ho : RfV2 K r op) (ho' : RfV2 K r' op') (ha : RfB K ta a) (hb : RfB K tb b) (hc : RfB K tc c) : RfE K (tChain r r' ta tb tc) (dChain op op' a b c) := ⟨fun {A st ow σ H env Qd Q} R q k =>
  ha.run R q fun x v H1 q1 s1 r1 => hb.run (R.step s1) q1 fun y u H2 q2 s2 r2 => ho.run ((R.step s1).step s2) ((R.step s1).stepB s2 r1) r2 q2 fun z w H3 q3 s3 r3 => by
    have R3 := ((R.step s1).step s2).step s3
    split at q3
    · rename_i k'
      cases r3
      refine ⟨_, rfl, ?_⟩
      cases k' with
      | true =>
        rw [if_pos rfl] at q3 ⊢
        exact hc.run R3 q3 fun y' u' H4 q4 s4 r4 => ho'.run (R3.step s4) (R3.stepB s4 (((R.step s1).step s2).stepB s3 r2)) r4 q4 fun d v H5 q5 s5 r5 => k d v H5 q5 (s1.trans (s2.trans (s3.trans (s4.trans s5)))) r5
      | false =>
        rw [if_neg Bool.false_ne_true] at q3 ⊢
        exact k _ _ _ q3 (s1.trans (s2.trans s3)) (.bl _)
    · exact q3.elim⟩
/-! arguments -/
structure RfN (K : PySem.W.Frag) (n : Nat) (t : TA) (da : Ev → (List D → Prop) → Prop) : Prop where
  run : ∀ {A : Addr → Prop} {st : Option (Addr × Addr)} {ow : Nat → Option Addr} {σ : L2.St} {H : Hp} {env : Ev} {Qd : List D → Prop} {Q : List V → Hp → Prop},
  RE K A st ow σ H env → da env Qd → (∀ ds vs H', Qd ds → ds.length = n → Stp st H H' → RepL K H' (Mo A ow) ds vs → Q vs H') → t σ H Q
def dNil : Ev → (List D → Prop) → Prop := fun _ Q => Q []
def dCons (de : Ev → (D → Prop) → Prop) (da : Ev → (List D → Prop) → Prop) : Ev → (List D → Prop) → Prop := fun env Q => de env fun x => da env fun xs => Q (x :: xs)
theorem raN : RfN K 0 tNil dNil := ⟨fun R q k => k _ _ _ q rfl (stp_refl R) .nil⟩
theorem raC {n : Nat} {te : TE} {ta : TA} {de : Ev → (D → Prop) → Prop} {da : Ev → (List D → Prop) → Prop} (h : RfE K te de) (hs : RfN K n ta da) : RfN K (n + 1) (tCons te ta) (dCons de da) := ⟨fun R q k =>
  h.run R q fun d v H1 q1 s1 r1 => hs.run (R.step s1) q1 fun ds vs H2 q2 e2 s2 r2 => k (d :: ds) (v :: vs) H2 q2 (congrArg (· + 1) e2) (s1.trans s2) (.cons (Rep.to ((R.step s1).toS s2) r1) r2)⟩
theorem rbN : RfAB K tNil dNil := ⟨fun R q k => k _ _ _ q (stp_refl R) .nil⟩
theorem rbC {te : TE} {ta : TA} {de : Ev → (D → Prop) → Prop} {da : Ev → (List D → Prop) → Prop} (h : RfB K te de) (hs : RfAB K ta da) : RfAB K (tCons te ta) (dCons de da) := ⟨fun R q k =>
  h.run R q fun d v H1 q1 s1 r1 => hs.run (R.step s1) q1 fun ds vs H2 q2 s2 r2 => k (d :: ds) (v :: vs) H2 q2 (s1.trans s2) (.cons ((R.step s1).stepB s2 r1) r2)⟩
theorem Stp.none {st : Option (Addr × Addr)} {H H' : Hp} (s : Stp st H H') {p : Addr} (n : H' p = none) : H p = none := by
  cases e : H p with
  | none => rfl
  | some o =>
    by_cases hx : p ∈ exs st
    · exact absurd n (s.l.ne p hx)
    · rw [s.k p o e hx] at n; cases n
/-! new things -/
/-- a new list -/
structure RfF (K : PySem.W.Frag) (t : TE) (df : Ev → (List D → Prop) → Prop) : Prop where
  run : ∀ {A : Addr → Prop} {st : Option (Addr × Addr)} {ow : Nat → Option Addr} {σ : L2.St} {H : Hp} {env : Ev} {Qd : List D → Prop} {Q : VK},
  RE K A st ow σ H env → df env Qd → (∀ ds a vs H', Qd ds → Stp st H H' → H a = none → H' a = some (.lst vs) → RepL K H' (fun b => Mo A ow b ∨ b = a) ds vs → Q (.ref a) H') → t σ H Q
def dL (df : Ev → (List D → Prop) → Prop) : Ev → (D → Prop) → Prop := fun env Q => df env fun ds => Q (.list ds)
theorem RE.fr0 {A : Addr → Prop} {st : Option (Addr × Addr)} {ow : Nat → Option Addr} {σ : L2.St} {H : Hp} {env : Ev} (R : RE K A st ow σ H env) {a : Addr} (n : H a = none) : ¬ Mo A ow a := R.newM n
theorem RfF.e {t : TE} {df : Ev → (List D → Prop) → Prop} (h : RfF K t df) : RfE K t (dL df) := ⟨fun R q k => h.run R q fun ds a vs H' q' s n e r => k _ _ _ q' s (.lst e (R.newM n) (RepL.to ⟨fun b o x y => ⟨x, fun z => y (.inl z)⟩⟩ r))⟩
def dTup (da : Ev → (List D → Prop) → Prop) : Ev → (D → Prop) → Prop := fun env Q => da env fun xs => Q (.tuple xs)
theorem len_small {n m : Nat} (e : m = n) (h : n ≤ 1000) : m ≤ sizeLine := Nat.le_trans (e ▸ h) (by decide)
theorem re_tup {n : Nat} {t : TA} {da : Ev → (List D → Prop) → Prop} (h : RfN K n t da) (hn : n ≤ 1000 := by decide) : RfE K (tTup t) (dTup da) := ⟨fun R q k => h.run R q fun ds vs H1 q1 e1 s1 r1 =>
  ⟨len_small (r1.len.symm.trans e1) hn, fun p np => k _ _ _ q1 (s1.trans ((R.step s1).new np)) ((R.step s1).mkT np r1)⟩⟩
theorem rf_lst {n : Nat} {t : TA} {da : Ev → (List D → Prop) → Prop} (h : RfN K n t da) (hn : n ≤ 1000 := by decide) : RfF K (tLst t) da := ⟨fun R q k => h.run R q fun ds vs H1 q1 e1 s1 r1 =>
  ⟨len_small (r1.len.symm.trans e1) hn, fun p np => k _ _ _ _ q1 (s1.trans ((R.step s1).new np)) (s1.none np) upd_same (RepL.to (new_to np fun a z => z) r1)⟩⟩
/-! calls of built-in functions -/
def dCB (op : List D → (D → Prop) → Prop) (da : Ev → (List D → Prop) → Prop) : Ev → (D → Prop) → Prop := fun env Q => da env fun xs => op xs Q
theorem re_cb {r : List V → Hp → VK → Prop} {op : List D → (D → Prop) → Prop} {t : TA} {da : Ev → (List D → Prop) → Prop} (ho : RfVL K r op) (ha : RfAB K t da) : RfE K (tCB r t) (dCB op da) := ⟨fun R q k =>
  ha.run R q fun ds vs H1 q1 s1 r1 => ho.run (R.step s1) r1 q1 fun d v H2 q2 s2 r2 => k d v H2 q2 (s1.trans s2) r2⟩
def oAbs : List D → (D → Prop) → Prop := fun xs Q => match xs with | [.int i] => Q (.int (if i < 0 then -i else i)) | _ => False
theorem RepB.int {H : Hp} {A M : Addr → Prop} {i : Int} {v : V} (h : RepB K H A M (.int i) v) : v = .int i := by cases h with | r h => cases h; rfl
theorem RepB.bl {H : Hp} {A M : Addr → Prop} {i : Bool} {v : V} (h : RepB K H A M (.bool i) v) : v = .bl i := by cases h with | r h => cases h; rfl
theorem RepB.str {H : Hp} {A M : Addr → Prop} {i : Str} {v : V} (h : RepB K H A M (.str i) v) : v = .str i := by cases h with | r h => cases h; rfl
theorem RepBL.one {H : Hp} {A M : Addr → Prop} {d : D} {vs : List V} (h : RepBL K H A M [d] vs) : ∃ v, vs = [v] ∧ RepB K H A M d v := by
  cases h with | cons h r => cases r; exact ⟨_, rfl, h⟩
theorem RepBL.two {H : Hp} {A M : Addr → Prop} {d e : D} {vs : List V} (h : RepBL K H A M [d, e] vs) : ∃ v u, vs = [v, u] ∧ RepB K H A M d v ∧ RepB K H A M e u := by
  cases h with | cons h r =>
  obtain ⟨u, rfl, z⟩ := r.one
  exact ⟨_, _, rfl, h, z⟩
theorem ro_abs : RfVL K (fun xs H Q => ∃ i, xs = [.int i] ∧ Q (.int (if i < 0 then -i else i)) H) oAbs := ⟨fun R h q k => by
  unfold oAbs at q
  split at q
  · obtain ⟨v, rfl, z⟩ := h.one
    cases z.int
    exact ⟨_, rfl, k _ _ _ q (stp_refl R) (.int _)⟩
  · exact q.elim⟩
def oI2 (g : Int → Int → Int) : List D → (D → Prop) → Prop := fun xs Q => match xs with | [.int i, .int j] => Q (.int (g i j)) | _ => False
theorem ro_min : RfVL K (fun xs H Q => ∃ i j, xs = [.int i, .int j] ∧ Q (.int (if j < i then j else i)) H) (oI2 fun i j => if j < i then j else i) := ⟨fun R h q k => by
  unfold oI2 at q
  split at q
  · obtain ⟨v, u, rfl, z1, z2⟩ := h.two
    cases z1.int; cases z2.int
    exact ⟨_, _, rfl, k _ _ _ q (stp_refl R) (.int _)⟩
  · exact q.elim⟩
theorem ro_max : RfVL K (fun xs H Q => ∃ i j, xs = [.int i, .int j] ∧ Q (.int (if j > i then j else i)) H) (oI2 fun i j => if j > i then j else i) := ⟨fun R h q k => by
  unfold oI2 at q
  split at q
  · obtain ⟨v, u, rfl, z1, z2⟩ := h.two
    cases z1.int; cases z2.int
    exact ⟨_, _, rfl, k _ _ _ q (stp_refl R) (.int _)⟩
  · exact q.elim⟩
def oLen : List D → (D → Prop) → Prop := fun xs Q => match xs with | [d] => (match seqOf d with | some ds => Q (.int ds.length) | none => False) | _ => False
theorem ro_len : RfVL K (fun xs H Q => ∃ p ys, xs = [.ref p] ∧ (SqL K H p ys ∨ SqT K H p ys) ∧ Q (.int ys.length) H) oLen := ⟨fun {A st ow σ H env ds vs Qd Q} R h q k => by
  unfold oLen at q
  split at q
  · split at q
    · rename_i ds e
      obtain ⟨v, rfl, z⟩ := h.one
      obtain ⟨a, xs, rfl, hs, r⟩ := z.seq e
      exact ⟨_, _, rfl, hs, by rw [← r.len]; exact k _ _ _ q (stp_refl R) (.int _)⟩
    · exact q.elim
  · exact q.elim⟩
def oLenS : List D → (D → Prop) → Prop := fun xs Q => match xs with | [.str z] => z.length ≤ sizeLine ∧ Q (.int z.length) | _ => False
theorem ro_lenS : RfVL K (fun xs H Q => ∃ z, xs = [.str z] ∧ z.length ≤ sizeLine ∧ Q (.int z.length) H) oLenS := ⟨fun R h q k => by
  unfold oLenS at q
  split at q
  · obtain ⟨v, rfl, z⟩ := h.one
    cases z.str
    exact ⟨_, rfl, q.1, k _ _ _ q.2 (stp_refl R) (.int _)⟩
  · exact q.elim⟩
def oInt : List D → (D → Prop) → Prop := fun xs Q => match xs with | [.int i] => Q (.int i) | [.bool k] => Q (.int (if k then 1 else 0)) | _ => False
theorem ro_int : RfVL K (fun xs H Q => (∃ i, xs = [.int i] ∧ Q (.int i) H) ∨ ∃ k, xs = [.bl k] ∧ Q (.int (if k then 1 else 0)) H) oInt := ⟨fun R h q k => by
  unfold oInt at q
  split at q
  · obtain ⟨v, rfl, z⟩ := h.one
    cases z.int
    exact .inl ⟨_, rfl, k _ _ _ q (stp_refl R) (.int _)⟩
  · obtain ⟨v, rfl, z⟩ := h.one
    cases z.bl
    exact .inr ⟨_, rfl, k _ _ _ q (stp_refl R) (.int _)⟩
  · exact q.elim⟩
def intsOf : List D → Option (List Int)
  | [] => some []
  | .int i :: r => (intsOf r).map (i :: ·)
  | _ :: _ => none
def boolsOf : List D → Option (List Bool)
  | [] => some []
  | .bool i :: r => (boolsOf r).map (i :: ·)
  | _ :: _ => none
theorem ints_V {H : Hp} {M : Addr → Prop} : ∀ {ds : List D} {vs : List V} {ns : List Int}, RepL K H M ds vs → intsOf ds = some ns → vs = ns.map V.int
  | [], _, _, .nil, e => by cases e; rfl
  | .int i :: r, _, ns, .cons h t, e => by
    unfold intsOf at e
    cases z : intsOf r with
    | none => rw [z] at e; cases e
    | some ms =>
      rw [z] at e
      cases e
      cases h
      rw [ints_V t z, List.map_cons]
theorem bools_V {H : Hp} {M : Addr → Prop} : ∀ {ds : List D} {vs : List V} {ns : List Bool}, RepL K H M ds vs → boolsOf ds = some ns → vs = ns.map V.bl
  | [], _, _, .nil, e => by cases e; rfl
  | .bool i :: r, _, ns, .cons h t, e => by
    unfold boolsOf at e
    cases z : boolsOf r with
    | none => rw [z] at e; cases e
    | some ms =>
      rw [z] at e
      cases e
      cases h
      rw [bools_V t z, List.map_cons]
def oSum : List D → (D → Prop) → Prop := fun xs Q => match xs with | [.list ds] => (match intsOf ds with | some ns => Q (.int ns.sum) | none => False) | _ => False
theorem ro_sum : RfVL K (rSum K) oSum := ⟨fun R h q k => by
  unfold oSum at q
  split at q
  · split at q
    · rename_i ns e
      obtain ⟨v, rfl, z⟩ := h.one
      obtain ⟨a, xs, rfl, hs, r⟩ := z.lst
      cases ints_V r e
      exact ⟨_, _, rfl, SqL.of hs, k _ _ _ q (stp_refl R) (.int _)⟩
    · exact q.elim
  · exact q.elim⟩
def oBs (g : List Bool → Bool) : List D → (D → Prop) → Prop := fun xs Q => match xs with | [.list ds] => (match boolsOf ds with | some ns => Q (.bool (g ns)) | none => False) | _ => False
theorem ro_all : RfVL K (rAll K) (oBs fun bs => bs.all id) := ⟨fun R h q k => by
  unfold oBs at q
  split at q
  · split at q
    · rename_i ns e
      obtain ⟨v, rfl, z⟩ := h.one
      obtain ⟨a, xs, rfl, hs, r⟩ := z.lst
      cases bools_V r e
      exact ⟨_, _, rfl, SqL.of hs, k _ _ _ q (stp_refl R) (.bl _)⟩
    · exact q.elim
  · exact q.elim⟩
theorem ro_any : RfVL K (rAny K) (oBs fun bs => bs.any id) := ⟨fun R h q k => by
  unfold oBs at q
  split at q
  · split at q
    · rename_i ns e
      obtain ⟨v, rfl, z⟩ := h.one
      obtain ⟨a, xs, rfl, hs, r⟩ := z.lst
      cases bools_V r e
      exact ⟨_, _, rfl, SqL.of hs, k _ _ _ q (stp_refl R) (.bl _)⟩
    · exact q.elim
  · exact q.elim⟩
def oTupOf : List D → (D → Prop) → Prop := fun xs Q => match xs with | [d] => (match seqOf d with | some ds => Q (.tuple ds) | none => False) | _ => False
theorem ro_tupOf : RfVL K (fun xs H Q => ∃ p ys, xs = [.ref p] ∧ ((SqL K H p ys ∧ ∀ l, H l = none → Q (.ref l) (upd H l (.tup ys))) ∨ (SqT K H p ys ∧ Q (.ref p) H))) oTupOf := ⟨fun {A st ow σ H env ds vs Qd Q} R h q k => by
  unfold oTupOf at q
  split at q
  · rename_i d
    split at q
    · rename_i ds e
      obtain ⟨v, rfl, z⟩ := h.one
      cases d with
      | list _ =>
        cases e
        obtain ⟨a, xs, rfl, hs, r⟩ := z.lst
        exact ⟨_, _, rfl, .inl ⟨SqL.of hs, fun p n => k _ _ _ q (R.new n) (R.mkT n r)⟩⟩
      | tuple _ =>
        cases e
        obtain ⟨a, xs, rfl, hs, r⟩ := z.tup
        exact ⟨_, _, rfl, .inr ⟨hs.sq, k _ _ _ q (stp_refl R) (.tup hs r)⟩⟩
      | _ => cases e
    · exact q.elim
  · exact q.elim⟩
def dSeqOf (da : Ev → (D → Prop) → Prop) : Ev → (List D → Prop) → Prop := fun env Q => da env fun d => match seqOf d with | some ds => Q ds | none => False
theorem rf_listOf {ta : TE} {da : Ev → (D → Prop) → Prop} (h : RfB K ta da) : RfF K (tCB (fun xs H Q => ∃ p ys, xs = [.ref p] ∧ (SqL K H p ys ∨ SqT K H p ys) ∧ ∀ l, H l = none → Q (.ref l) (upd H l (.lst ys))) (tCons ta tNil)) (dSeqOf da) := ⟨fun R q k => h.run R q fun d v H1 q1 s1 r1 => by
  split at q1
  · rename_i ds e
    obtain ⟨a, xs, rfl, hs, r⟩ := r1.seq e
    exact ⟨_, _, rfl, hs, fun l n => k _ _ _ _ q1 (s1.trans ((R.step s1).new n)) (s1.none n) upd_same (RepL.to (new_to n fun a z => z) r)⟩
  · exact q1.elim⟩
/-! isinstance -/
def tyN : D → String
  | .none => "NoneType" | .bool _ => "bool" | .int _ => "int" | .str _ => "str" | .list _ => "list" | .tuple _ => "tuple" | .dict _ => "dict"
theorem RepB.ty {H : Hp} {A M : Addr → Prop} {d : D} {v : V} (h : RepB K H A M d v) : TyX K H v (.type (tyN d)) := by
  cases h with
  | r h =>
    cases h with
    | non => exact .base .non
    | bl b => exact .base (.bl b)
    | int b => exact .base (.int b)
    | str b => exact .base (.str b)
    | lst h _ _ => exact .base (.lst h)
    | tup h _ =>
      rcases h with ⟨h | ⟨o, h⟩, _⟩ | ⟨o, its, n, h1, h2, _⟩
      · exact .base (.tup h)
      · exact .fTuple h
      · exact .kTuple h1 h2
    | dct h _ _ => exact .base (.dK h)
  | o h _ _ => exact .base (.lst h)
  | k h _ _ => exact .base (.dK h)
def tys : List String := ["bool", "int", "str", "list", "tuple", "dict"]
def isTy (n : String) : D → Bool
  | .none => false | .bool _ => n == "bool" || n == "int" | .int _ => n == "int" | .str _ => n == "str" | .list _ => n == "list" | .tuple _ => n == "tuple" | .dict _ => n == "dict"
theorem kit_tab : (tys.all fun n => ["NoneType", "bool", "int", "str", "list", "tuple", "dict"].all fun m => kitB m n == some (m == n || (m == "bool" && n == "int"))) = true := by decide +kernel
theorem kit_ty {n : String} (hn : n ∈ tys) (d : D) : PySem.W.kitOne K (.type (tyN d)) (.type n) = some (isTy n d) := by
  have h := kit_tab
  rw [List.all_eq_true] at h
  have h1 := h n hn
  rw [List.all_eq_true] at h1
  have h2 := eq_of_beq (h1 (tyN d) (by cases d <;> simp [tyN]))
  refine (show PySem.W.kitOne K (.type (tyN d)) (.type n) = kitB (tyN d) n from rfl).trans (h2.trans (congrArg some ?_))
  have hn' : n = "bool" ∨ n = "int" ∨ n = "str" ∨ n = "list" ∨ n = "tuple" ∨ n = "dict" := by simpa [tys] using hn
  rcases hn' with rfl | rfl | rfl | rfl | rfl | rfl <;> cases d <;> simp [tyN, isTy]
def dIsi (n : String) (da : Ev → (D → Prop) → Prop) : Ev → (D → Prop) → Prop := fun env Q => da env fun x => Q (.bool (isTy n x))
theorem re_isi {n : String} {ta : TE} {da : Ev → (D → Prop) → Prop} (h : RfB K ta da) (hn : n ∈ tys := by decide) : RfE K (tCB (rIsi K) (tCons ta (tCons (tC (.ty n)) tNil))) (dIsi n da) := ⟨fun R q k => h.run R q fun d v H1 q1 s1 r1 =>
  ⟨_, _, _, _, _, rfl, .ty n, r1.ty, kit_ty hn d, k _ _ _ q1 s1 (.bl _)⟩⟩
/-! slices -/
structure RfO (K : PySem.W.Frag) (t : TO) (dt : Ev → (Option Int → Prop) → Prop) : Prop where
  run : ∀ {A : Addr → Prop} {st : Option (Addr × Addr)} {ow : Nat → Option Addr} {σ : L2.St} {H : Hp} {env : Ev} {Qd : Option Int → Prop} {Q : Option Int → Hp → Prop},
  RE K A st ow σ H env → dt env Qd → (∀ d H', Qd d → Stp st H H' → Q d H') → t σ H Q
def dNoP : Ev → (Option Int → Prop) → Prop := fun _ Q => Q none
def dPart (de : Ev → (D → Prop) → Prop) : Ev → (Option Int → Prop) → Prop := fun env Q => de env fun x => match x with | .int i => Q (some i) | _ => False
theorem rp_no : RfO K tNoPart dNoP := ⟨fun R q k => k _ _ q (stp_refl R)⟩
theorem rp_some {t : TE} {de : Ev → (D → Prop) → Prop} (h : RfE K t de) : RfO K (tPart t) (dPart de) := ⟨fun R q k => h.run R q fun d v H1 q1 s1 r1 => by
  split at q1
  · cases r1
    exact ⟨_, rfl, k _ _ q1 s1⟩
  · exact q1.elim⟩
def dSlT (de : Ev → (D → Prop) → Prop) (dl dh : Ev → (Option Int → Prop) → Prop) : Ev → (D → Prop) → Prop := fun env Q => de env fun x => dl env fun l => dh env fun h => match x with | .tuple ds => Q (.tuple (cutD ds l h)) | _ => False
def dSlL (de : Ev → (D → Prop) → Prop) (dl dh : Ev → (Option Int → Prop) → Prop) : Ev → (List D → Prop) → Prop := fun env Q => de env fun x => dl env fun l => dh env fun h => match x with | .list ds => Q (cutD ds l h) | _ => False
def dSlS (de : Ev → (D → Prop) → Prop) (dl dh : Ev → (Option Int → Prop) → Prop) : Ev → (D → Prop) → Prop := fun env Q => de env fun x => dl env fun l => dh env fun h => match x with | .str z => z.length ≤ sizeLine ∧ Q (.str (cutS z l h)) | _ => False
theorem cut_whole {α : Type} {xs : List α} {lo hi : Option Int} (h : HT.sIx xs.length 0 lo = 0 ∧ HT.sIx xs.length xs.length hi = xs.length) : cutD xs lo hi = xs := by
  unfold cutD
  rw [h.1, h.2, List.drop_zero, Nat.sub_zero, List.take_length]
theorem re_slT {t : TE} {tl th : TO} {de : Ev → (D → Prop) → Prop} {dl dh : Ev → (Option Int → Prop) → Prop} (he : RfB K t de) (hl : RfO K tl dl) (hh : RfO K th dh) : RfE K (tSl (rSlA K) t tl th) (dSlT de dl dh) := ⟨fun R q k =>
  he.run R q fun d v H1 q1 s1 r1 => hl.run (R.step s1) q1 fun l H2 q2 s2 => hh.run ((R.step s1).step s2) q2 fun u H3 q3 s3 => by
    have R3 := ((R.step s1).step s2).step s3
    have s13 := s1.trans (s2.trans s3)
    split at q3
    · have r3 := ((R.step s1).step s2).stepB s3 ((R.step s1).stepB s2 r1)
      obtain ⟨a, xs, rfl, hs, r⟩ := r3.tup
      refine ⟨a, xs, rfl, hs.sq, fun e => ?_, fun _ p n => k _ _ _ q3 (s13.trans (R3.new n)) (R3.mkT n (cut_rep r))⟩
      rw [← r.len] at e
      rw [cut_whole e] at q3
      exact k _ _ _ q3 s13 (.tup hs r)
    · exact q3.elim⟩
theorem rf_slL {t : TE} {tl th : TO} {de : Ev → (D → Prop) → Prop} {dl dh : Ev → (Option Int → Prop) → Prop} (he : RfB K t de) (hl : RfO K tl dl) (hh : RfO K th dh) : RfF K (tSl (rSlL K) t tl th) (dSlL de dl dh) := ⟨fun R q k =>
  he.run R q fun d v H1 q1 s1 r1 => hl.run (R.step s1) q1 fun l H2 q2 s2 => hh.run ((R.step s1).step s2) q2 fun u H3 q3 s3 => by
    have R3 := ((R.step s1).step s2).step s3
    have s13 := s1.trans (s2.trans s3)
    split at q3
    · have r3 := ((R.step s1).step s2).stepB s3 ((R.step s1).stepB s2 r1)
      obtain ⟨a, xs, rfl, hs, r⟩ := r3.lst
      exact ⟨a, xs, rfl, SqL.of hs, fun p n => k _ _ _ _ q3 (s13.trans (R3.new n)) (s13.none n) upd_same (RepL.to (new_to n fun a z => z) (cut_rep r))⟩
    · exact q3.elim⟩
theorem re_slS {t : TE} {tl th : TO} {de : Ev → (D → Prop) → Prop} {dl dh : Ev → (Option Int → Prop) → Prop} (he : RfB K t de) (hl : RfO K tl dl) (hh : RfO K th dh) : RfE K (tSl rSlS t tl th) (dSlS de dl dh) := ⟨fun R q k =>
  he.run R q fun d v H1 q1 s1 r1 => hl.run (R.step s1) q1 fun l H2 q2 s2 => hh.run ((R.step s1).step s2) q2 fun u H3 q3 s3 => by
    have s13 := s1.trans (s2.trans s3)
    split at q3
    · cases r1.str
      exact ⟨_, rfl, q3.1, k _ _ _ q3.2 s13 (.str _)⟩
    · exact q3.elim⟩
/-! calls of defs -/
def spD (K : PySem.W.Frag) (f : List D → (D → Prop) → Prop) : Sp := fun vs H Q _ => ∃ (A : Addr → Prop) (ds : List D) (Qd : D → Prop), (∀ a, A a → H a ≠ none) ∧ RepL K H A ds vs ∧ f ds Qd ∧ ∀ d v H', Qd d → Same H H' → Rep K H' A d v → Q v H'
def spS (K : PySem.W.Frag) (f : List D → (D → Prop) → Prop) : Sp := fun vs H Q _ => ∃ (A : Addr → Prop) (q : Addr × Addr) (ds : List D) (ws : List V) (Qd : D → Prop), vs = .ref q.1 :: ws ∧ LS H q.1 q.2 ∧ A q.1 ∧ A q.2 ∧ (∀ a, A a → H a ≠ none) ∧ RepL K H A ds ws ∧ f ds Qd ∧
  ∀ d v H', Qd d → Stp (some q) H H' → Rep K H' A d v → Q v H'
def dCall (f : List D → (D → Prop) → Prop) (da : Ev → (List D → Prop) → Prop) : Ev → (D → Prop) → Prop := fun env Q => da env fun xs => f xs Q
def dCallS (i : Nat) (f : List D → (D → Prop) → Prop) (da : Ev → (List D → Prop) → Prop) : Ev → (D → Prop) → Prop := fun env Q => match eget env i with | some .st => da env fun xs => f xs Q | _ => False
theorem re_call {n : Nat} {f : List D → (D → Prop) → Prop} {E : XK} {t : TA} {da : Ev → (List D → Prop) → Prop} (h : RfN K n t da) : RfE K (tCall (spD K f) [] E t) (dCall f da) := ⟨fun R q k => h.run R q fun ds vs H1 q1 e1 s1 r1 => by
  have R1 := R.step s1
  exact ⟨_, ds, _, fun a => R1.alM, by rw [List.append_nil]; exact r1, q1, fun d v H2 q2 s2 r2 => k d v H2 q2 (s1.trans (.same s1.l s2)) r2⟩⟩
theorem re_callS {n i : Nat} {f : List D → (D → Prop) → Prop} {E : XK} {t : TA} {da : Ev → (List D → Prop) → Prop} (h : RfN K n t da) : RfE K (tCall (spS K f) [] E (tCons (tVar i) t)) (dCallS i f da) := ⟨fun R q k => by
  unfold dCallS at q
  split at q
  · rename_i e
    obtain ⟨v, hv, z, e1, rfl⟩ := R.sl i _ (eget_some e)
    refine ⟨_, hv, h.run R q fun ds vs H1 q1 _ s1 r1 => ?_⟩
    have R1 := R.step s1
    refine ⟨Mo _ _, z, ds, vs, _, by rw [List.append_nil], s1.l z e1, .inl (R.sta z e1).1, .inl (R.sta z e1).2, fun a => R1.alM, r1, q1, fun d v H2 q2 s2 r2 => ?_⟩
    subst e1
    exact k d v H2 q2 (s1.trans s2) r2
  · exact q.elim⟩
end
section
variable {K : PySem.W.Frag}
/-! what a for walks -/
def ItOk (K : PySem.W.Frag) (J : It) (ds : List D) (M0 : Addr → Prop) (H0 : Hp) : Prop := ∀ (M : Addr → Prop) (H : Hp), To H0 H M0 M → (∀ a, M a → H a ≠ none) → ∀ i,
  (i = ds.length → J.stop i H) ∧ ∀ d, ds[i]? = some d → J.go i H ∧ ∀ x H', J.yld i H x H' → Same H H' ∧ Rep K H' M d x
theorem ItOk.mono {J : It} {ds : List D} {M0 M1 : Addr → Prop} {H0 H1 : Hp} (h : ItOk K J ds M0 H0) (t : To H0 H1 M0 M1) : ItOk K J ds M1 H1 := fun M H t2 a i => h M H (t.trans t2) a i
structure RfI (K : PySem.W.Frag) (t : TI) (di : Ev → (List D → Prop) → Prop) : Prop where
  run : ∀ {A : Addr → Prop} {st : Option (Addr × Addr)} {ow : Nat → Option Addr} {σ : L2.St} {H : Hp} {env : Ev} {Qd : List D → Prop} {R : It → Hp → Prop},
  RE K A st ow σ H env → di env Qd → (∀ ds J H', Qd ds → Stp st H H' → ItOk K J ds (Mo A ow) H' → R J H') → t σ H R
theorem Same.refl' (H : Hp) : Same H H := fun _ _ h => h
theorem RepL.get2 {H : Hp} {M : Addr → Prop} {ds : List D} {vs : List V} (r : RepL K H M ds vs) {i : Nat} {d : D} {v : V} (e : ds[i]? = some d) (e2 : vs[i]? = some v) : Rep K H M d v := by
  obtain ⟨u, h1, h2⟩ := r.get e
  rw [e2] at h1
  cases h1
  exact h2
theorem itl_ok {a : Addr} {xs : List V} {ds : List D} {M : Addr → Prop} {H : Hp} (h : H a = some (.lst xs)) (n : ¬ M a) (r : RepL K H M ds xs) : ItOk K (Itl K a) ds M H := fun M' H' t _ i => by
  have h' := (t.h _ _ h n).1
  refine ⟨fun l => ⟨xs, SqL.of h', by rw [← r.len]; omega⟩, fun d e => ?_⟩
  obtain ⟨v, ev, rv⟩ := r.get e
  exact ⟨⟨xs, v, SqL.of h', ev⟩, fun x H2 ⟨e2, y⟩ => by
    subst e2
    have := y xs (SqL.of h')
    rw [ev] at this
    cases this
    exact ⟨Same.refl' _, Rep.to t rv⟩⟩
theorem itt_ok {a : Addr} {xs : List V} {ds : List D} {M : Addr → Prop} {H : Hp} (h : TupAt K H M a xs) (r : RepL K H M ds xs) : ItOk K (Itt K a) ds M H := fun M' H' t _ i => by
  have h' : SqT K H' a xs := by
    rcases h with ⟨h | ⟨o, h⟩, n⟩ | h
    · exact .inl (.inl (t.h _ _ h n).1)
    · exact .inl (.inr ⟨o, (t.h _ _ h n).1⟩)
    · exact .inr h
  refine ⟨fun l => ⟨xs, h', by rw [← r.len]; omega⟩, fun d e => ?_⟩
  obtain ⟨v, ev, rv⟩ := r.get e
  exact ⟨⟨xs, v, h', ev⟩, fun x H2 ⟨e2, y⟩ => by
    subst e2
    have := y xs h'
    rw [ev] at this
    cases this
    exact ⟨Same.refl' _, Rep.to t rv⟩⟩
def rng (lo : Int) (n : Nat) : List D := (List.range n).map fun i => PyData.int (lo + (i : Nat))
theorem itr_ok {lo : Int} {n : Nat} {M : Addr → Prop} {H : Hp} : ItOk K (Itr lo n) (rng lo n) M H := fun M' H' t _ i => by
  refine ⟨fun l => by unfold rng at l; rw [List.length_map, List.length_range] at l; show n ≤ i; omega, fun d e => ?_⟩
  have hi : i < n := by
    have := (List.getElem?_eq_some_iff.mp e).1
    unfold rng at this
    rw [List.length_map, List.length_range] at this
    exact this
  unfold rng at e
  rw [List.getElem?_map, List.getElem?_range hi] at e
  cases e
  exact ⟨hi, fun x H2 ⟨e2, y⟩ => by
    subst e2 y
    exact ⟨Same.refl' _, .int _⟩⟩
def dItL (de : Ev → (D → Prop) → Prop) : Ev → (List D → Prop) → Prop := fun env Q => de env fun x => match x with | .list ds => Q ds | _ => False
def dItT (de : Ev → (D → Prop) → Prop) : Ev → (List D → Prop) → Prop := fun env Q => de env fun x => match x with | .tuple ds => Q ds | _ => False
theorem ri_list {t : TE} {de : Ev → (D → Prop) → Prop} (h : RfE K t de) : RfI K (iList K t) (dItL de) := ⟨fun R q k => h.run R q fun d v H1 q1 s1 r1 => by
  split at q1
  · cases r1 with | lst h0 n r => exact ⟨_, rfl, ⟨_, SqL.of h0⟩, k _ _ _ q1 s1 (itl_ok h0 n r)⟩
  · exact q1.elim⟩
theorem ri_tup {t : TE} {de : Ev → (D → Prop) → Prop} (h : RfE K t de) : RfI K (iTup K t) (dItT de) := ⟨fun R q k => h.run R q fun d v H1 q1 s1 r1 => by
  split at q1
  · cases r1 with | tup h0 r => exact ⟨_, rfl, ⟨_, h0.sq⟩, k _ _ _ q1 s1 (itt_ok h0 r)⟩
  · exact q1.elim⟩
def dR1 (da : Ev → (List D → Prop) → Prop) : Ev → (List D → Prop) → Prop := fun env Q => da env fun xs => match xs with | [.int j] => -(2 ^ 62) ≤ j ∧ j < 2 ^ 62 ∧ Q (rng 0 j.toNat) | _ => False
def dR2 (da : Ev → (List D → Prop) → Prop) : Ev → (List D → Prop) → Prop := fun env Q => da env fun xs => match xs with | [.int i, .int j] => (-(2 ^ 62) ≤ i ∧ i < 2 ^ 62 ∧ -(2 ^ 62) ≤ j ∧ j < 2 ^ 62) ∧ Q (rng i (j - i).toNat) | _ => False
theorem ri_r1 {t : TA} {da : Ev → (List D → Prop) → Prop} (h : RfAB K t da) : RfI K (iRng1 t) (dR1 da) := ⟨fun R q k => h.run R q fun ds vs H1 q1 s1 r1 => by
  split at q1
  · obtain ⟨v, rfl, z⟩ := r1.one
    cases z.int
    exact ⟨_, rfl, q1.1, q1.2.1, k _ _ _ q1.2.2 s1 itr_ok⟩
  · exact q1.elim⟩
theorem ri_r2 {t : TA} {da : Ev → (List D → Prop) → Prop} (h : RfAB K t da) : RfI K (iRng2 t) (dR2 da) := ⟨fun R q k => h.run R q fun ds vs H1 q1 s1 r1 => by
  split at q1
  · obtain ⟨v, u, rfl, z1, z2⟩ := r1.two
    cases z1.int; cases z2.int
    exact ⟨_, _, rfl, q1.1, k _ _ _ q1.2 s1 itr_ok⟩
  · exact q1.elim⟩
def chars (z : Str) : List D := z.cps.toList.map fun c => PyData.str ⟨#[c]⟩
def dItS (de : Ev → (D → Prop) → Prop) : Ev → (List D → Prop) → Prop := fun env Q => de env fun x => match x with | .str z => Q (chars z) | _ => False
theorem its_ok {z : Str} {M : Addr → Prop} {H : Hp} : ItOk K (Its z) (chars z) M H := fun M' H' t _ i => by
  refine ⟨fun l => by unfold chars at l; rw [List.length_map] at l; show z.cps.size ≤ i; rw [← Array.length_toList]; omega, fun d e => ?_⟩
  unfold chars at e
  rw [List.getElem?_map] at e
  cases g : z.cps.toList[i]? with
  | none => rw [g] at e; cases e
  | some c =>
    rw [g] at e
    cases e
    have hi := (List.getElem?_eq_some_iff.mp g).1
    refine ⟨by simpa [Its] using hi, fun x H2 ⟨e2, c2, y1, y2⟩ => ?_⟩
    subst e2 y2
    rw [Array.getElem?_toList] at g
    rw [g] at y1
    cases y1
    exact ⟨Same.refl' _, .str _⟩
theorem ri_str {t : TE} {de : Ev → (D → Prop) → Prop} (h : RfE K t de) : RfI K (iStr t) (dItS de) := ⟨fun R q k => h.run R q fun d v H1 q1 s1 r1 => by
  split at q1
  · cases r1
    exact ⟨_, rfl, k _ _ _ q1 s1 its_ok⟩
  · exact q1.elim⟩
def zipD : List D → List D → List D
  | a :: r, b :: s => .tuple [a, b] :: zipD r s
  | _, _ => []
theorem zipD_get : ∀ {as bs : List D} {i : Nat} {d : D}, (zipD as bs)[i]? = some d → ∃ a b, as[i]? = some a ∧ bs[i]? = some b ∧ d = .tuple [a, b]
  | a :: r, b :: s, 0, d, e => by
    unfold zipD at e
    rw [List.getElem?_cons_zero] at e
    cases e
    exact ⟨a, b, rfl, rfl, rfl⟩
  | a :: r, b :: s, i + 1, d, e => by
    unfold zipD at e
    rw [List.getElem?_cons_succ] at e
    rw [List.getElem?_cons_succ, List.getElem?_cons_succ]
    exact zipD_get e
  | [], _, i, d, e => by simp [zipD] at e
  | _ :: _, [], i, d, e => by simp [zipD] at e
theorem zipD_len : ∀ {as bs : List D}, (zipD as bs).length = min as.length bs.length
  | a :: r, b :: s => by
    unfold zipD
    rw [List.length_cons, List.length_cons, List.length_cons, zipD_len]
    omega
  | [], _ => by simp [zipD]
  | _ :: _, [] => by simp [zipD]
theorem TupAt.to {H H' : Hp} {M M' : Addr → Prop} {a : Addr} {xs : List V} (t : To H H' M M') (h : TupAt K H M a xs) : TupAt K H' M' a xs := by
  rcases h with ⟨h | ⟨o, h⟩, n⟩ | h
  · exact .inl ⟨.inl (t.h _ _ h n).1, (t.h _ _ h n).2⟩
  · exact .inl ⟨.inr ⟨o, (t.h _ _ h n).1⟩, (t.h _ _ h n).2⟩
  · exact .inr h
theorem pair_rep {H : Hp} {M : Addr → Prop} {T : Addr} {d e : D} {x y : V} (n : H T = none) (al : ∀ a, M a → H a ≠ none) (h1 : Rep K H M d x) (h2 : Rep K H M e y) : Rep K (upd H T (.tup [x, y])) M (.tuple [d, e]) (.ref T) :=   .tup (.inl ⟨.inl upd_same, fun z => al T z n⟩) (.cons (Rep.to (to_same (same_upd n)) h1) (.cons (Rep.to (to_same (same_upd n)) h2) .nil))
theorem itz_ok {a b : Addr} {xs ys : List V} {ds es : List D} {M : Addr → Prop} {H : Hp} (h : H a = some (.lst xs)) (n : ¬ M a) (r : RepL K H M ds xs) (h2 : H b = some (.lst ys)) (n2 : ¬ M b) (r2 : RepL K H M es ys) : ItOk K (Itz K a b) (zipD ds es) M H := fun M' H' t al i => by
  have g1 := SqL.of (K := K) (t.h _ _ h n).1
  have g2 := SqL.of (K := K) (t.h _ _ h2 n2).1
  refine ⟨fun l => ⟨xs, ys, g1, g2, by rw [zipD_len, r.len, r2.len] at l; omega⟩, fun d e => ?_⟩
  obtain ⟨x, y, e1, e2, rfl⟩ := zipD_get e
  obtain ⟨v, ev, rv⟩ := r.get e1
  obtain ⟨u, eu, ru⟩ := r2.get e2
  refine ⟨⟨xs, ys, v, u, g1, g2, ev, eu⟩, fun x' H2 ⟨T, x1, y1, z1, z2, z3, z4, z5⟩ => ?_⟩
  subst z1 z3
  have w1 := z4 xs g1
  have w2 := z5 ys g2
  rw [ev] at w1; rw [eu] at w2
  cases w1; cases w2
  exact ⟨same_upd z2, pair_rep z2 al (Rep.to t rv) (Rep.to t ru)⟩
theorem itzT_ok {a b : Addr} {xs ys : List V} {ds es : List D} {M : Addr → Prop} {H : Hp} (h : TupAt K H M a xs) (r : RepL K H M ds xs) (h2 : TupAt K H M b ys) (r2 : RepL K H M es ys) : ItOk K (RZ.ItzT K a b) (zipD ds es) M H := fun M' H' t al i => by
  have g1 := (h.to t).sq
  have g2 := (h2.to t).sq
  refine ⟨fun l => ⟨xs, ys, g1, g2, by rw [zipD_len, r.len, r2.len] at l; omega⟩, fun d e => ?_⟩
  obtain ⟨x, y, e1, e2, rfl⟩ := zipD_get e
  obtain ⟨v, ev, rv⟩ := r.get e1
  obtain ⟨u, eu, ru⟩ := r2.get e2
  refine ⟨⟨xs, ys, v, u, g1, g2, ev, eu⟩, fun x' H2 ⟨T, x1, y1, z1, z2, z3, z4, z5⟩ => ?_⟩
  subst z1 z3
  have w1 := z4 xs g1
  have w2 := z5 ys g2
  rw [ev] at w1; rw [eu] at w2
  cases w1; cases w2
  exact ⟨same_upd z2, pair_rep z2 al (Rep.to t rv) (Rep.to t ru)⟩
def dZip (da : Ev → (List D → Prop) → Prop) : Ev → (List D → Prop) → Prop := fun env Q => da env fun xs => match xs with | [.list a, .list b] => Q (zipD a b) | [.tuple a, .tuple b] => Q (zipD a b) | _ => False
theorem ri_zip {n : Nat} {t : TA} {da : Ev → (List D → Prop) → Prop} (h : RfN K n t da) : RfI K (RZ.iZipA K t) (dZip da) := ⟨fun R q k => h.run R q fun ds vs H1 q1 _ s1 r1 => by
  split at q1
  · cases r1 with | cons h1 r1 => cases r1 with | cons h2 r2 =>
    cases r2
    cases h1 with | lst h1 n1 r1 => cases h2 with | lst h2 n2 r2 =>
    exact ⟨_, _, _, _, rfl, .inl ⟨SqL.of h1, SqL.of h2, k _ _ _ q1 s1 (itz_ok h1 n1 r1 h2 n2 r2)⟩⟩
  · cases r1 with | cons h1 r1 => cases r1 with | cons h2 r2 =>
    cases r2
    cases h1 with | tup h1 r1 => cases h2 with | tup h2 r2 =>
    exact ⟨_, _, _, _, rfl, .inr ⟨h1.sq, h2.sq, k _ _ _ q1 s1 (itzT_ok h1 r1 h2 r2)⟩⟩
  · exact q1.elim⟩
def enumD (n : Nat) : List D → List D
  | [] => []
  | a :: r => .tuple [.int (n : Nat), a] :: enumD (n + 1) r
theorem enumD_len : ∀ {as : List D} {n : Nat}, (enumD n as).length = as.length
  | [], _ => rfl
  | a :: r, n => congrArg (· + 1) enumD_len
theorem enumD_get : ∀ {as : List D} {n i : Nat} {d : D}, (enumD n as)[i]? = some d → ∃ a, as[i]? = some a ∧ d = .tuple [.int ((n + i : Nat) : Int), a]
  | [], n, i, d, e => by simp [enumD] at e
  | a :: r, n, 0, d, e => by
    unfold enumD at e
    rw [List.getElem?_cons_zero] at e
    cases e
    exact ⟨a, rfl, rfl⟩
  | a :: r, n, i + 1, d, e => by
    unfold enumD at e
    rw [List.getElem?_cons_succ] at e ⊢
    obtain ⟨x, h1, h2⟩ := enumD_get e
    exact ⟨x, h1, by rw [h2, Nat.add_right_comm, Nat.add_assoc]⟩
theorem ite_ok {a : Addr} {xs : List V} {ds : List D} {M : Addr → Prop} {H : Hp} (h : H a = some (.lst xs)) (n : ¬ M a) (r : RepL K H M ds xs) : ItOk K (Ite K a) (enumD 0 ds) M H := fun M' H' t al i => by
  have g1 := SqL.of (K := K) (t.h _ _ h n).1
  refine ⟨fun l => ⟨xs, g1, by rw [enumD_len, r.len] at l; omega⟩, fun d e => ?_⟩
  obtain ⟨x, e1, rfl⟩ := enumD_get e
  obtain ⟨v, ev, rv⟩ := r.get e1
  refine ⟨⟨xs, v, g1, ev⟩, fun x' H2 ⟨T, x1, z1, z2, z3, z4⟩ => ?_⟩
  subst z1 z3
  have w1 := z4 xs g1
  rw [ev] at w1
  cases w1
  rw [Nat.zero_add]
  exact ⟨same_upd z2, pair_rep z2 al (.int _) (Rep.to t rv)⟩
def dEnum (da : Ev → (List D → Prop) → Prop) : Ev → (List D → Prop) → Prop := fun env Q => da env fun xs => match xs with | [.list a] => Q (enumD 0 a) | _ => False
theorem ri_enum {n : Nat} {t : TA} {da : Ev → (List D → Prop) → Prop} (h : RfN K n t da) : RfI K (iEnum K t) (dEnum da) := ⟨fun R q k => h.run R q fun ds vs H1 q1 _ s1 r1 => by
  split at q1
  · cases r1 with | cons h1 r1 =>
    cases r1
    cases h1 with | lst h1 n1 r1 =>
    exact ⟨_, _, rfl, SqL.of h1, k _ _ _ q1 s1 (ite_ok h1 n1 r1)⟩
  · exact q1.elim⟩
/-! targets -/
structure RfG (K : PySem.W.Frag) (is : List Nat) (g : TG) (dg : D → Ev → (Ev → Prop) → Prop) : Prop where
  run : ∀ {A : Addr → Prop} {st : Option (Addr × Addr)} {ow : Nat → Option Addr} {σ : L2.St} {H : Hp} {env : Ev} {d : D} {v : V} {Qd : Ev → Prop} {Q : L2.St → Hp → Prop},
  RE K A st ow σ H env → Rep K H (Mo A ow) d v → dg d env Qd → (∀ env' ow' σ', Qd env' → RE K A st ow' σ' H env' → (∀ j a, ow' j = some a → ow j = some a) → (∀ js, (∀ i ∈ is, i ∈ js) → wipe σ' js = wipe σ js ∧ ∀ j, j ∉ js → ow' j = ow j) → Q σ' H) → g v σ H Q
structure RfGs (K : PySem.W.Frag) (is : List Nat) (g : TGs) (dg : List D → Ev → (Ev → Prop) → Prop) : Prop where
  run : ∀ {A : Addr → Prop} {st : Option (Addr × Addr)} {ow : Nat → Option Addr} {σ : L2.St} {H : Hp} {env : Ev} {ds : List D} {vs : List V} {Qd : Ev → Prop} {Q : L2.St → Hp → Prop},
  RE K A st ow σ H env → RepL K H (Mo A ow) ds vs → dg ds env Qd → (∀ env' ow' σ', Qd env' → RE K A st ow' σ' H env' → (∀ j a, ow' j = some a → ow j = some a) → (∀ js, (∀ i ∈ is, i ∈ js) → wipe σ' js = wipe σ js ∧ ∀ j, j ∉ js → ow' j = ow j) → Q σ' H) → g vs σ H Q
def eset (env : Ev) (i : Nat) (e : Option En) : Ev := env.set i e
def owDel (ow : Nat → Option Addr) (i : Nat) : Nat → Option Addr := fun j => if j = i then none else ow j
theorem owDel_sub {ow : Nat → Option Addr} {i j : Nat} {a : Addr} (h : owDel ow i j = some a) : ow j = some a ∧ j ≠ i := by
  unfold owDel at h
  split at h
  · cases h
  · exact ⟨h, by assumption⟩
theorem Mo.sub {A : Addr → Prop} {ow ow' : Nat → Option Addr} (h : ∀ j a, ow' j = some a → ow j = some a) {a : Addr} (m : Mo A ow' a) : Mo A ow a := m.imp id fun ⟨i, e⟩ => ⟨i, h i a e⟩
theorem to_less {H : Hp} {M M' : Addr → Prop} (h : ∀ a, M' a → M a) : To H H M M' := ⟨fun b o e n => ⟨e, fun z => n (h b z)⟩⟩
theorem SR.less {A : Addr → Prop} {st : Option (Addr × Addr)} {ow ow' : Nat → Option Addr} {H : Hp} {i : Nat} {e : En} {v : V} (h : ∀ j a, ow' j = some a → ow j = some a) (hi : ow' i = ow i) (r : SR K A st ow H i e v) : SR K A st ow' H i e v := by
  have t : To H H (Mo A ow) (Mo A ow') := to_less fun a => Mo.sub h
  cases e with
  | d x => exact Rep.to t r
  | own ds =>
    obtain ⟨a, vs, h1, h2, h3, h4⟩ := r
    exact ⟨a, vs, hi.trans h1, h2, h3, RepL.to t h4⟩
  | odk ds =>
    obtain ⟨a, vs, h1, h2, h3, h4⟩ := r
    exact ⟨a, vs, hi.trans h1, h2, h3, RepK.to t h4⟩
  | st => exact r
/-- a slot is written -/
theorem RE.put {A : Addr → Prop} {st : Option (Addr × Addr)} {ow : Nat → Option Addr} {σ : L2.St} {H : Hp} {env : Ev} (R : RE K A st ow σ H env) (i : Nat) {d : D} {v : V} (r : Rep K H (Mo A ow) d v) : RE K A st (owDel ow i) (σ.set i (some v)) H (eset env i (some (.d d))) := by
  have sub : ∀ j a, owDel ow i j = some a → ow j = some a := fun j a h => (owDel_sub h).1
  have t : To H H (Mo A ow) (Mo A (owDel ow i)) := to_less fun a => Mo.sub sub
  refine ⟨R.ls, R.dom, R.sta, fun j a h => R.al j a (sub j a h), fun j a h => R.na j a (sub j a h), fun j k a h1 h2 => R.inj j k a (sub j a h1) (sub k a h2), fun j a h => ?_, by unfold eset; rw [List.length_set, List.length_set]; exact R.len, fun j e he => ?_⟩
  · have hj := (owDel_sub h).2
    unfold eset
    rw [List.getElem?_set_ne fun z => hj z.symm]
    exact R.tie j a (sub j a h)
  unfold eset at he
  by_cases hj : i = j
  · subst hj
    have hl : i < env.length := by
      have := (List.getElem?_eq_some_iff.mp he).1
      rwa [List.length_set] at this
    rw [List.getElem?_set_self hl] at he
    cases he
    exact ⟨v, List.getElem?_set_self (by rw [R.len]; exact hl), Rep.to t r⟩
  · rw [List.getElem?_set_ne hj] at he
    obtain ⟨u, hu, s⟩ := R.sl j e he
    exact ⟨u, by rw [List.getElem?_set_ne hj]; exact hu, s.less sub (by unfold owDel; rw [if_neg (fun z => hj z.symm)])⟩
theorem wipe_get {σ : L2.St} : ∀ {vs : List Nat} {j : Nat}, j ∈ vs → j < σ.length → (wipe σ vs)[j]? = some none
  | v :: vs, j, h, hl => by
    unfold wipe
    by_cases e : v = j
    · subst e
      exact List.getElem?_set_self (by rw [wipe_length]; exact hl)
    · rw [List.getElem?_set_ne e]
      exact wipe_get ((List.mem_cons.mp h).resolve_left fun z => e z.symm) hl
theorem wipe_set {σ : L2.St} {i : Nat} {x : Option V} {js : List Nat} (h : i ∈ js) : wipe (σ.set i x) js = wipe σ js := by
  refine List.ext_getElem? fun j => ?_
  by_cases hj : j < σ.length
  · by_cases hm : j ∈ js
    · rw [wipe_get hm (by rw [List.length_set]; exact hj), wipe_get hm hj]
    · rw [wipe_out hm, wipe_out hm, List.getElem?_set_ne fun (z : i = j) => hm (z ▸ h)]
  · rw [List.getElem?_eq_none (by rw [wipe_length, List.length_set]; omega), List.getElem?_eq_none (by rw [wipe_length]; omega)]
def gN (i : Nat) : D → Ev → (Ev → Prop) → Prop := fun d env Q => Q (eset env i (some (.d d)))
theorem rg_name (i : Nat) : RfG K [i] (gName i) (gN i) := ⟨fun R r q k => k _ _ _ q (R.put i r) (fun j a h => (owDel_sub h).1) fun js h => ⟨wipe_set (h i (by simp)), fun j hj => by unfold owDel; rw [if_neg (fun (z : j = i) => hj (z.symm ▸ h i (by simp)))]⟩⟩
def gNi : List D → Ev → (Ev → Prop) → Prop := fun ds env Q => match ds with | [] => Q env | _ => False
def gCo (g : D → Ev → (Ev → Prop) → Prop) (gs : List D → Ev → (Ev → Prop) → Prop) : List D → Ev → (Ev → Prop) → Prop := fun ds env Q => match ds with | d :: r => g d env fun env1 => gs r env1 Q | [] => False
def gT (n : Nat) (gs : List D → Ev → (Ev → Prop) → Prop) : D → Ev → (Ev → Prop) → Prop := fun d env Q => match d with | .tuple ds => ds.length = n ∧ gs ds env Q | _ => False
theorem rg_nil : RfGs K [] gNil gNi := ⟨fun {A st ow σ H env ds vs Qd Q} R r q k => by
  unfold gNi at q
  split at q
  · cases r
    exact ⟨rfl, k _ _ _ q R (fun _ _ h => h) fun _ _ => ⟨rfl, fun _ _ => rfl⟩⟩
  · exact q.elim⟩
theorem rg_cons {is js : List Nat} {t : TG} {u : TGs} {g : D → Ev → (Ev → Prop) → Prop} {gs : List D → Ev → (Ev → Prop) → Prop} (h : RfG K is t g) (hs : RfGs K js u gs) : RfGs K (is ++ js) (gCons t u) (gCo g gs) := ⟨fun {A st ow σ H env ds vs Qd Q} R r q k => by
  unfold gCo at q
  split at q
  · cases r with | cons r1 r2 =>
    refine ⟨_, _, rfl, h.run R r1 q fun env1 ow1 σ1 q1 R1 sub1 w1 => hs.run R1 (RepL.to (to_less fun a => Mo.sub sub1) r2) q1 fun env2 ow2 σ2 q2 R2 sub2 w2 => k env2 ow2 σ2 q2 R2 (fun j a e => sub1 j a (sub2 j a e)) fun ks hk => ?_⟩
    have a2 := w2 ks fun i hi => hk i (List.mem_append_right _ hi)
    have a1 := w1 ks fun i hi => hk i (List.mem_append_left _ hi)
    exact ⟨a2.1.trans a1.1, fun j hj => (a2.2 j hj).trans (a1.2 j hj)⟩
  · exact q.elim⟩
theorem rg_tup {is : List Nat} {n : Nat} {u : TGs} {gs : List D → Ev → (Ev → Prop) → Prop} (h : RfGs K is u gs) : RfG K is (gTup K n u) (gT n gs) := ⟨fun {A st ow σ H env d v Qd Q} R r q k => by
  unfold gT at q
  split at q
  · cases r with | tup r1 r2 =>
    exact ⟨_, _, rfl, r1.sq, by rw [← r2.len]; exact q.1, h.run R r2 q.2 k⟩
  · exact q.elim⟩
/-! comprehensions -/
def wipeE (env : Ev) : List Nat → Ev
  | [] => env
  | v :: vs => eset (wipeE env vs) v none
theorem wipe_idem {σ : L2.St} {js : List Nat} : wipe (wipe σ js) js = wipe σ js := by
  refine List.ext_getElem? fun j => ?_
  by_cases hj : j < σ.length
  · by_cases hm : j ∈ js
    · rw [wipe_get hm (by rw [wipe_length]; exact hj), wipe_get hm hj]
    · rw [wipe_out hm]
  · rw [List.getElem?_eq_none (by rw [wipe_length, wipe_length]; omega), List.getElem?_eq_none (by rw [wipe_length]; omega)]
theorem RE.wipe1 {A : Addr → Prop} {st : Option (Addr × Addr)} {ow : Nat → Option Addr} {σ : L2.St} {H : Hp} {env : Ev} (R : RE K A st ow σ H env) (i : Nat) (hi : ow i = none) : RE K A st ow (σ.set i none) H (eset env i none) := by
  refine ⟨R.ls, R.dom, R.sta, R.al, R.na, R.inj, fun j a h => ?_, by unfold eset; rw [List.length_set, List.length_set]; exact R.len, fun j e he => ?_⟩
  · have hj : i ≠ j := fun z => by subst z; rw [hi] at h; cases h
    unfold eset
    rw [List.getElem?_set_ne hj]
    exact R.tie j a h
  unfold eset at he
  by_cases hj : i = j
  · subst hj
    have hl : i < env.length := by
      have := (List.getElem?_eq_some_iff.mp he).1
      rwa [List.length_set] at this
    rw [List.getElem?_set_self hl] at he
    cases he
  · rw [List.getElem?_set_ne hj] at he
    obtain ⟨u, hu, s⟩ := R.sl j e he
    exact ⟨u, by rw [List.getElem?_set_ne hj]; exact hu, s⟩
theorem RE.wipes {A : Addr → Prop} {st : Option (Addr × Addr)} {ow : Nat → Option Addr} {σ : L2.St} {H : Hp} {env : Ev} (R : RE K A st ow σ H env) : ∀ vs : List Nat, (∀ i ∈ vs, ow i = none) → RE K A st ow (wipe σ vs) H (wipeE env vs)
  | [], _ => R
  | v :: vs, h => (R.wipes vs fun i hi => h i (List.mem_cons_of_mem _ hi)).wipe1 v (h v List.mem_cons_self)
theorem RE.noOwn {A : Addr → Prop} {st : Option (Addr × Addr)} {ow : Nat → Option Addr} {σ : L2.St} {H : Hp} {env : Ev} (R : RE K A st ow σ H env) {vs : List Nat} (h : noOwn vs env = true) : ∀ i ∈ vs, ow i = none := fun i hi => by
  cases e : ow i with
  | none => rfl
  | some a =>
    unfold Toy.noOwn at h
    rw [List.all_eq_true] at h
    have h1 := h i hi
    unfold isOwn at h1
    rcases R.tie i a e with ⟨ds, z⟩ | ⟨ds, z⟩
    · rw [some_eget z] at h1; cases h1
    · rw [some_eget z] at h1; cases h1
def lcD (g : D → Ev → (Ev → Prop) → Prop) (c : Ev → (Bool → Prop) → Prop) (e : Ev → (D → Prop) → Prop) : List D → Ev → (List D → Prop) → Prop
  | [], _, Q => Q []
  | d :: r, env, Q => g d env fun env1 => c env1 fun b => if b = true then e env1 fun x => lcD g c e r env fun xs => Q (x :: xs) else lcD g c e r env Q
/-- at most 100000 turns, said ahead -/
def dLc (vs : List Nat) (di : Ev → (List D → Prop) → Prop) (g : D → Ev → (Ev → Prop) → Prop) (c : Ev → (Bool → Prop) → Prop) (e : Ev → (D → Prop) → Prop) : Ev → (List D → Prop) → Prop :=
  fun env Q => noOwn vs env = true ∧ di env fun ds => ds.length ≤ 100000 ∧ lcD g c e ds (wipeE env vs) Q
theorem drop_get {α : Type} {xs : List α} {i : Nat} {x : α} (h : xs[i]? = some x) : xs.drop i = x :: xs.drop (i + 1) := by
  obtain ⟨h1, h2⟩ := List.getElem?_eq_some_iff.mp h
  rw [← h2]
  exact List.drop_eq_getElem_cons h1
theorem rf_lc {vs is : List Nat} {wi : TI} {tg : TG} {tt : TT} {te : TE} {di : Ev → (List D → Prop) → Prop} {g : D → Ev → (Ev → Prop) → Prop} {c : Ev → (Bool → Prop) → Prop} {e : Ev → (D → Prop) → Prop}
    (hi : RfI K wi di) (hg : RfG K is tg g) (hc : RfT K tt c) (he : RfE K te e) (his : ∀ i ∈ is, i ∈ vs := by decide) : RfF K (tLc wi tg tt te vs) (dLc vs di g c e) := ⟨fun {A st ow σ H env Qd Q} R q0 k =>
  hi.run R q0.2 fun ds J H1 ⟨hl, q1⟩ s1 J1 L hL => by
    have hno := R.noOwn q0.1
    have R1 := R.step s1
    have nM := R1.newM hL
    let A' : Addr → Prop := fun a => A a ∨ a = L
    have toA : ∀ {H' : Hp}, To H1 (upd H1 L (.lst [])) (Mo A ow) (Mo A' ow) := new_to hL fun a z => by
      rcases z with (z | z) | z
      · exact .inl (.inl z)
      · exact .inr z
      · exact .inl (.inr z)
    have bk : ∀ a, Mo A' ow a → Mo A ow a ∨ a = L := fun a z => by
      rcases z with (z | z) | z
      · exact .inl (.inl z)
      · exact .inr z
      · exact .inl (.inr z)
    have fw : ∀ a, Mo A ow a → Mo A' ow a := fun a z => z.elim (fun z => .inl (.inl z)) .inr
    have fwL : Mo A' ow L := .inl (.inr rfl)
    -- the turns
    refine ⟨fun i m H' => m = ds.length - i ∧ i ≤ ds.length ∧ ∃ acc xs, H' L = some (.lst xs) ∧ xs.length ≤ i ∧ RepL K H' (Mo A' ow) acc xs ∧ RE K A' st ow (wipe σ vs) H' (wipeE env vs) ∧ Keep (exs st) H H' ∧ To H1 H' (Mo A ow) (Mo A' ow) ∧ LSo st H' ∧
      lcD g c e (ds.drop i) (wipeE env vs) (fun r => Qd (acc ++ r)), ⟨_, rfl, Nat.zero_le _, [], [], upd_same, Nat.zero_le _, .nil, ?_, ?_, toA (H' := H1), ?_, ?_⟩, ?_⟩
    · have RR := (R1.wipes vs hno)
      have S1 : Stp st H1 (upd H1 L (.lst [])) := R1.new hL
      have RS := RR.step S1
      refine ⟨RS.ls, fun a z => ?_, fun z e => ⟨.inl (RS.sta z e).1, .inl (RS.sta z e).2⟩, RS.al, fun j a e z => ?_, RS.inj, RS.tie, RS.len, fun j e' he' => ?_⟩
      · rcases z with z | rfl
        · exact RS.dom a z
        · rw [upd_same]; intro z; cases z
      · rcases z with z | rfl
        · exact RS.na j a e z
        · exact R1.al j _ e hL
      · obtain ⟨v, hv, r⟩ := RR.sl j e' he'
        refine ⟨v, hv, ?_⟩
        have t : To H1 (upd H1 L (.lst [])) (Mo A ow) (Mo A' ow) := toA (H' := H1)
        cases e' with
        | d x => exact Rep.to t r
        | own ds =>
          obtain ⟨a, vs, h1, h2, h3, h4⟩ := r
          exact ⟨a, vs, h1, h2, same_upd hL _ _ h3, RepL.to t h4⟩
        | odk ds =>
          obtain ⟨a, vs, h1, h2, h3, h4⟩ := r
          exact ⟨a, vs, h1, h2, same_upd hL _ _ h3, RepK.to t h4⟩
        | st => exact r
    · exact s1.k.trans fun b o z n => same_upd hL b o z
    · exact s1.l.same (same_upd hL)
    · exact q1
    · rintro i m H' ⟨rfl, hi, acc, xs, hx, hxl, rx, RR, kk, tt', ll, qq⟩
      have al : ∀ a, Mo A' ow a → H' a ≠ none := fun a z => RR.alM z
      by_cases hlt : i < ds.length
      · have eD : ds[i]? = some ds[i] := List.getElem?_eq_getElem hlt
        rw [drop_get eD] at qq
        obtain ⟨go, yl⟩ := (J1 (Mo A' ow) H' tt' al i).2 _ eD
        refine .inr ⟨go, fun H2 => ∃ acc xs, H2 L = some (.lst xs) ∧ xs.length ≤ i + 1 ∧ RepL K H2 (Mo A' ow) acc xs ∧ RE K A' st ow (wipe σ vs) H2 (wipeE env vs) ∧ Keep (exs st) H H2 ∧ To H1 H2 (Mo A ow) (Mo A' ow) ∧ LSo st H2 ∧
          lcD g c e (ds.drop (i + 1)) (wipeE env vs) (fun r => Qd (acc ++ r)), fun H2 z => ⟨_, by omega, rfl, hlt, z⟩, fun x H2 y => ?_⟩
        obtain ⟨sm, rx1⟩ := yl x H2 y
        have S2 : Stp st H' H2 := .same ll sm
        have RR2 := RR.step S2
        refine hg.run RR2 rx1 qq fun env3 ow3 σ3 q3 R3 sub3 w3 => ⟨(w3 vs his).1.trans wipe_idem, ?_⟩
        have eo : ow = ow3 := funext fun j => by
          by_cases hj : j ∈ vs
          · cases e : ow3 j with
            | none => exact hno j hj
            | some a => exact sub3 j a e
          · exact ((w3 vs his).2 j hj).symm
        subst eo
        refine hc.run R3 q3 fun b H4 q4 s4 => ?_
        have R4 := R3.step s4
        have L4 : H4 L = some (.lst xs) := s4.k L _ (sm L _ hx) fun z => by
          obtain ⟨z1, e1, z2⟩ := exs_mem z
          have w := RR.sta z1 e1
          obtain ⟨kk', ns, l1, l2, l3⟩ := R1.ls z1 e1
          rcases z2 with z2 | z2
          · rw [z2, l1] at hL; cases hL
          · rw [z2, l2] at hL; cases hL
        have exL : ∀ a ∈ exs st, a ≠ L := fun a z e' => by
          subst e'
          exact R1.ls.ne _ z hL
        have S4 : Stp st H' H4 := ⟨S2.k.trans s4.k, s4.l⟩
        have RR4 := RR.step S4
        have t4 : To H' H4 (Mo A' ow) (Mo A' ow) := RR.toS S4
        have kH4 : Keep (exs st) H H4 := kk.trans S4.k
        have tH4 : To H1 H4 (Mo A ow) (Mo A' ow) := tt'.trans t4
        cases b with
        | false =>
          rw [if_neg Bool.false_ne_true] at q4 ⊢
          exact ⟨acc, xs, L4, Nat.le_succ_of_le hxl, RepL.to t4 rx, RR4, kH4, tH4, s4.l, q4⟩
        | true =>
          rw [if_pos rfl] at q4 ⊢
          refine he.run R4 q4 fun d v H5 q5 s5 r5 => ?_
          have L5 : H5 L = some (.lst xs) := s5.k L _ L4 fun z => exL L z rfl
          have S5 : Stp st H' H5 := ⟨S4.k.trans s5.k, s5.l⟩
          have RR5 := RR.step S5
          have t5 : To H' H5 (Mo A' ow) (Mo A' ow) := RR.toS S5
          have len5 : xs.length < sizeLine := Nat.lt_of_le_of_lt hxl (Nat.lt_of_lt_of_le hlt (Nat.le_trans hl (by decide)))
          have nL5 : ∀ {b : Addr} {o : HO}, H5 b = some o → ¬ Mo A' ow b → b ≠ L := fun _ n z => n (z ▸ fwL)
          have t6 : To H5 (upd H5 L (.lst (xs ++ [v]))) (Mo A' ow) (Mo A' ow) := ⟨fun b o e' n => ⟨by rw [upd_ne (nL5 e' n)]; exact e', n⟩⟩
          have l6 : LSo st (upd H5 L (.lst (xs ++ [v]))) := fun z e' => by
            obtain ⟨kk', ns, l1, l2, l3⟩ := s5.l z e'
            have m1 : z.1 ≠ L := exL _ (by subst e'; simp [exs])
            have m2 : z.2 ≠ L := exL _ (by subst e'; simp [exs])
            exact ⟨kk', ns, by rw [upd_ne m1]; exact l1, by rw [upd_ne m2]; exact l2, l3⟩
          have k6 : Keep [L] H5 (upd H5 L (.lst (xs ++ [v]))) := fun b o e' n => by
            rw [upd_ne (fun z => n (by rw [z]; simp))]
            exact e'
          refine ⟨xs, L5, len5, acc ++ [d], xs ++ [v], upd_same, by rw [List.length_append]; exact Nat.succ_le_succ hxl, RepL.to t6 ((RepL.to t5 rx).snoc r5), ?_, fun b o e' n => ?_, (tt'.trans t5).trans t6, l6, ?_⟩
          · refine RR5.keep (ex := [L]) (fun a ha => .inr (by simpa using ha)) k6 l6 fun a ha => ?_
            have : a = L := by simpa using ha
            subst this
            rw [upd_same]; intro z; cases z
          · rw [upd_ne (fun z => by rw [z, s1.none hL] at e'; cases e')]
            exact S5.k b o (kk b o e' n) n
          · have : (fun r => Qd (acc ++ [d] ++ r)) = fun r => Qd (acc ++ (d :: r)) := funext fun r => by rw [List.append_assoc]; rfl
            rw [this]
            exact q5
      · have e' : i = ds.length := by omega
        subst e'
        rw [List.drop_length] at qq
        refine .inl ⟨(J1 (Mo A' ow) H' tt' al _).1 rfl, ?_⟩
        have q9 : Qd (acc ++ []) := qq
        rw [List.append_nil] at q9
        exact k acc L xs H' q9 ⟨kk, ll⟩ (s1.none hL) hx (RepL.to (to_less fun a z => z.elim (fw a) fun y => y ▸ fwL) rx)⟩
end
/-! statements -/
structure Dd where
  nx : Ev → Prop
  rt : D → Prop
  bk : Ev → Prop := fun _ => False
  ct : Ev → Prop := fun _ => False
structure BE (K : PySem.W.Frag) (A : Addr → Prop) (st : Option (Addr × Addr)) (H0 : Hp) (ow : Nat → Option Addr) (σ : L2.St) (H : Hp) (env : Ev) : Prop where
  r : RE K A st ow σ H env
  kp : Keep (exs st) H0 H
  fr : ∀ i a, ow i = some a → H0 a = none
structure EOk (K : PySem.W.Frag) (A : Addr → Prop) (st : Option (Addr × Addr)) (H0 : Hp) (ow : Nat → Option Addr) (H : Hp) (Ed : Dd) (E : Ends) : Prop where
  nx : ∀ env' ow' σ' H', Ed.nx env' → BE K A st H0 ow' σ' H' env' → To H H' (Mo A ow) (Mo A ow') → E.nx σ' H'
  rt : ∀ d v H', Ed.rt d → Stp st H0 H' → Rep K H' A d v → E.rt v H'
  bk : ∀ env' ow' σ' H', Ed.bk env' → BE K A st H0 ow' σ' H' env' → To H H' (Mo A ow) (Mo A ow') → E.bk σ' H'
  ct : ∀ env' ow' σ' H', Ed.ct env' → BE K A st H0 ow' σ' H' env' → To H H' (Mo A ow) (Mo A ow') → E.ct σ' H'
abbrev DS := Dd → Ev → Prop
structure RfS (K : PySem.W.Frag) (t : TS) (ds : DS) : Prop where
  run : ∀ {A : Addr → Prop} {st : Option (Addr × Addr)} {H0 : Hp} {ow : Nat → Option Addr} {σ : L2.St} {H : Hp} {env : Ev} {Ed : Dd} {E : Ends},
  BE K A st H0 ow σ H env → ds Ed env → EOk K A st H0 ow H Ed E → t E σ H
section
variable {K : PySem.W.Frag}
section
variable {A : Addr → Prop} {st : Option (Addr × Addr)} {H0 H H' : Hp} {ow ow' : Nat → Option Addr} {σ : L2.St} {env : Ev} {Ed : Dd} {E : Ends}
theorem EOk.to (k : EOk K A st H0 ow H Ed E) (t : To H H' (Mo A ow) (Mo A ow')) : EOk K A st H0 ow' H' Ed E :=   ⟨fun env' ow' σ' H' q b t2 => k.nx env' ow' σ' H' q b (t.trans t2), k.rt, fun env' ow' σ' H' q b t2 => k.bk env' ow' σ' H' q b (t.trans t2), fun env' ow' σ' H' q b t2 => k.ct env' ow' σ' H' q b (t.trans t2)⟩
theorem BE.step (B : BE K A st H0 ow σ H env) (s : Stp st H H') : BE K A st H0 ow σ H' env := ⟨B.r.step s, B.kp.trans s.k, B.fr⟩
theorem to_del (H : Hp) (A : Addr → Prop) (ow : Nat → Option Addr) (i : Nat) : To H H (Mo A ow) (Mo A (owDel ow i)) := to_less fun b => Mo.sub fun j a h => (owDel_sub h).1
theorem BE.put (B : BE K A st H0 ow σ H env) (i : Nat) {d : D} {v : V} (r : Rep K H (Mo A ow) d v) : BE K A st H0 (owDel ow i) (σ.set i (some v)) H (eset env i (some (.d d))) :=   ⟨B.r.put i r, B.kp, fun j a h => B.fr j a (owDel_sub h).1⟩
end
def dNext : DS := fun Ed env => Ed.nx env
def dSeq (a b : DS) : DS := fun Ed env => a { Ed with nx := b Ed } env
def dRet (de : Ev → (D → Prop) → Prop) : DS := fun Ed env => de env Ed.rt
def dRetN : DS := fun Ed _ => Ed.rt .none
def dIf (c : Ev → (Bool → Prop) → Prop) (a b : DS) : DS := fun Ed env => c env fun k => if k = true then a Ed env else b Ed env
def dAsg (de : Ev → (D → Prop) → Prop) (g : D → Ev → (Ev → Prop) → Prop) : DS := fun Ed env => de env fun x => g x env Ed.nx
def dDrop (de : Ev → (D → Prop) → Prop) : DS := fun Ed env => de env fun _ => Ed.nx env
def dBreak : DS := fun Ed env => Ed.bk env
def dCont : DS := fun Ed env => Ed.ct env
theorem rs_next : RfS K tNext dNext := ⟨fun B q k => k.nx _ _ _ _ q B (To.refl _ _)⟩
theorem rs_break : RfS K tBreak dBreak := ⟨fun B q k => k.bk _ _ _ _ q B (To.refl _ _)⟩
theorem rs_cont : RfS K tCont dCont := ⟨fun B q k => k.ct _ _ _ _ q B (To.refl _ _)⟩
theorem rs_seq {t u : TS} {a b : DS} (h1 : RfS K t a) (h2 : RfS K u b) : RfS K (tSeq t u) (dSeq a b) := ⟨fun B q k =>
  h1.run B q ⟨fun env' ow' σ' H' q' b' t' => h2.run b' q' (k.to t'), k.rt, k.bk, k.ct⟩⟩
theorem rs_ret {t : TE} {de : Ev → (D → Prop) → Prop} (h : RfE K t de) : RfS K (tRet t) (dRet de) := ⟨fun B q k => h.run B.r q fun d v H' q' s r => k.rt d v H' q' ⟨B.kp.trans s.k, s.l⟩ (Rep.to (to_less fun _ z => .inl z) r)⟩
theorem rs_retN : RfS K tRetN dRetN := ⟨fun B q k => k.rt _ _ _ q ⟨B.kp, B.r.ls⟩ .non⟩
theorem rs_if {c : TT} {t u : TS} {dc : Ev → (Bool → Prop) → Prop} {a b : DS} (hc : RfT K c dc) (h1 : RfS K t a) (h2 : RfS K u b) : RfS K (tIfS c t u) (dIf dc a b) := ⟨fun B q k => hc.run B.r q fun c H1 q1 s1 => by
  have k1 := k.to (B.r.toS s1)
  cases c with
  | true =>
    rw [if_pos rfl] at q1 ⊢
    exact h1.run (B.step s1) q1 k1
  | false =>
    rw [if_neg Bool.false_ne_true] at q1 ⊢
    exact h2.run (B.step s1) q1 k1⟩
theorem rs_drop {t : TE} {de : Ev → (D → Prop) → Prop} (h : RfE K t de) : RfS K (tDrop t) (dDrop de) := ⟨fun B q k => h.run B.r q fun d v H' q' s r => k.nx _ _ _ _ q' (B.step s) (B.r.toS s)⟩
theorem rs_asg {is : List Nat} {t : TE} {g : TG} {de : Ev → (D → Prop) → Prop} {dg : D → Ev → (Ev → Prop) → Prop} (h : RfE K t de) (hg : RfG K is g dg) : RfS K (tAsg t g) (dAsg de dg) := ⟨fun B q k => h.run B.r q fun d v H' q' s r =>
  hg.run (B.r.step s) r q' fun env' ow' σ' q2 R2 sub _ => k.nx _ _ _ _ q2 ⟨R2, (B.step s).kp, fun j a e => B.fr j a (sub j a e)⟩ ((B.r.toS s).trans (to_less fun a => Mo.sub sub))⟩
/-! a slot that owns a list -/
def owPut (ow : Nat → Option Addr) (i : Nat) (a : Addr) : Nat → Option Addr := fun j => if j = i then some a else ow j
theorem owPut_sub {A : Addr → Prop} {ow : Nat → Option Addr} {i : Nat} {L : Addr} {b : Addr} (m : Mo A (owPut ow i L) b) : Mo A ow b ∨ b = L := by
  rcases m with m | ⟨j, m⟩
  · exact .inl (.inl m)
  · unfold owPut at m
    split at m
    · cases m; exact .inr rfl
    · exact .inl (.inr ⟨j, m⟩)
theorem own_to {A : Addr → Prop} {st : Option (Addr × Addr)} {ow : Nat → Option Addr} {σ : L2.St} {H H' : Hp} {env : Ev} (R : RE K A st ow σ H env) (s : Stp st H H') (i : Nat) {L : Addr} (n : H L = none) : To H H' (Mo A ow) (Mo A (owPut ow i L)) :=   ⟨fun b o e m => ⟨((R.toS s).h b o e m).1, fun z => (owPut_sub z).elim m fun y => by rw [y, n] at e; cases e⟩⟩
theorem RE.own {A : Addr → Prop} {st : Option (Addr × Addr)} {ow : Nat → Option Addr} {σ : L2.St} {H H' : Hp} {env : Ev} (R : RE K A st ow σ H env) (s : Stp st H H') (i : Nat) {L : Addr} {o : HO} (n : H L = none) (hL : H' L = some o) {en : En}
    (hen : SR K A st (owPut ow i L) H' i en (.ref L)) (he : (∃ ds, en = .own ds) ∨ ∃ ds, en = .odk ds) (hi : i < env.length) : RE K A st (owPut ow i L) (σ.set i (some (.ref L))) H' (eset env i (some en)) := by
  have R' := R.step s
  have t := own_to R s i n
  refine ⟨R'.ls, R'.dom, R'.sta, fun j a h => ?_, fun j a h => ?_, fun j k a h1 h2 => ?_, fun j a h => ?_, by unfold eset; rw [List.length_set, List.length_set]; exact R.len, fun j e he => ?_⟩
  · unfold owPut at h
    split at h
    · cases h; rw [hL]; intro z; cases z
    · exact R'.al j a h
  · unfold owPut at h
    split at h
    · cases h; exact fun z => R.dom _ z n
    · exact R'.na j a h
  · unfold owPut at h1 h2
    split at h1 <;> split at h2
    · simp_all
    · cases h1; exact absurd n (R.al k _ h2)
    · cases h2; exact absurd n (R.al j _ h1)
    · exact R.inj j k a h1 h2
  · unfold owPut at h
    unfold eset
    split at h
    · rename_i hj
      subst hj
      rw [List.getElem?_set_self hi]
      rcases he with ⟨ds, rfl⟩ | ⟨ds, rfl⟩
      · exact .inl ⟨ds, rfl⟩
      · exact .inr ⟨ds, rfl⟩
    · rename_i hj
      rw [List.getElem?_set_ne fun z => hj z.symm]
      exact R.tie j a h
  · unfold eset at he
    by_cases hj : i = j
    · subst hj
      rw [List.getElem?_set_self hi] at he
      cases he
      exact ⟨_, List.getElem?_set_self (by rw [R.len]; exact hi), hen⟩
    · rw [List.getElem?_set_ne hj] at he
      obtain ⟨u, hu, r⟩ := R.sl j e he
      refine ⟨u, by rw [List.getElem?_set_ne hj]; exact hu, ?_⟩
      have oj : owPut ow i L j = ow j := by unfold owPut; rw [if_neg fun z => hj z.symm]
      cases e with
      | d x => exact Rep.to t r
      | own ds =>
        obtain ⟨a, vs, h1, h2, h3, h4⟩ := r
        exact ⟨a, vs, oj.trans h1, h2, s.k a _ h3 fun z => R.na j a h1 (R.exA a z), RepL.to t h4⟩
      | odk ds =>
        obtain ⟨a, vs, h1, h2, h3, h4⟩ := r
        exact ⟨a, vs, oj.trans h1, h2, s.k a _ h3 fun z => R.na j a h1 (R.exA a z), RepK.to t h4⟩
      | st => exact r
/-- x = a new list -/
def dOwn (i : Nat) (df : Ev → (List D → Prop) → Prop) : DS := fun Ed env => df env fun ds => i < env.length ∧ Ed.nx (eset env i (some (.own ds)))
theorem rs_own (i : Nat) {t : TE} {df : Ev → (List D → Prop) → Prop} (h : RfF K t df) : RfS K (tAsg t (gName i)) (dOwn i df) := ⟨fun {A st H0 ow σ H env Ed E} B q k => h.run B.r q fun ds L vs H' ⟨hi, q'⟩ s n e r => by
  have t := own_to B.r s i n
  refine k.nx _ _ _ _ q' ⟨B.r.own s i n e (en := .own ds) ⟨L, vs, by unfold owPut; rw [if_pos rfl], rfl, e, RepL.to (to_less fun b z => owPut_sub z) r⟩ (.inl ⟨ds, rfl⟩) hi, B.kp.trans s.k, fun j a h => ?_⟩ t
  unfold owPut at h
  split at h
  · cases h
    cases z : H0 L with
    | none => rfl
    | some o =>
      by_cases hx : L ∈ exs st
      · exact absurd n (B.r.ls.ne L hx)
      · rw [B.kp L o z hx] at n; cases n
  · exact B.fr j a h⟩
/-- what a slot owns becomes another thing of its kind -/
theorem BE.mut {A : Addr → Prop} {st : Option (Addr × Addr)} {H0 H : Hp} {ow : Nat → Option Addr} {σ : L2.St} {env : Ev} (B : BE K A st H0 ow σ H env) (i : Nat) {L : Addr} {o o' : HO} (hi : ow i = some L) (hL : H L = some o) (hs : σ[i]? = some (some (.ref L))) {en : En}
    (hen : SR K A st ow (upd H L o') i en (.ref L)) (he : (∃ ds, en = .own ds) ∨ ∃ ds, en = .odk ds) : BE K A st H0 ow σ (upd H L o') (eset env i (some en)) ∧ To H (upd H L o') (Mo A ow) (Mo A ow) := by
  have R := B.r
  have mL : Mo A ow L := .inr ⟨i, hi⟩
  have t : To H (upd H L o') (Mo A ow) (Mo A ow) := ⟨fun b x e n => ⟨by rw [upd_ne (fun (z : b = L) => n (z ▸ mL))]; exact e, n⟩⟩
  have exL : ∀ a ∈ exs st, a ≠ L := fun a z e => R.na i L hi (e ▸ R.exA a z)
  have nn : ∀ {a : Addr}, H a ≠ none → upd H L o' a ≠ none := fun {a} h => by
    by_cases e : a = L
    · subst e; rw [upd_same]; intro z; cases z
    · rw [upd_ne e]; exact h
  refine ⟨⟨⟨fun z e => ?_, fun a z => nn (R.dom a z), R.sta, fun j a e => nn (R.al j a e), R.na, R.inj, fun j a e => ?_, by unfold eset; rw [List.length_set]; exact R.len, fun j e he' => ?_⟩, fun b x e n => ?_, B.fr⟩, t⟩
  · obtain ⟨kk, ns, l1, l2, l3⟩ := R.ls z e
    have m1 : z.1 ≠ L := exL _ (by subst e; simp [exs])
    have m2 : z.2 ≠ L := exL _ (by subst e; simp [exs])
    exact ⟨kk, ns, by rw [upd_ne m1]; exact l1, by rw [upd_ne m2]; exact l2, l3⟩
  · unfold eset
    by_cases hj : i = j
    · subst hj
      have hl : i < env.length := by rw [← R.len]; exact (List.getElem?_eq_some_iff.mp hs).1
      rw [List.getElem?_set_self hl]
      rcases he with ⟨ds, rfl⟩ | ⟨ds, rfl⟩
      · exact .inl ⟨ds, rfl⟩
      · exact .inr ⟨ds, rfl⟩
    · rw [List.getElem?_set_ne hj]
      exact R.tie j a e
  · unfold eset at he'
    by_cases hj : i = j
    · subst hj
      have hl : i < env.length := by rw [← R.len]; exact (List.getElem?_eq_some_iff.mp hs).1
      rw [List.getElem?_set_self hl] at he'
      cases he'
      exact ⟨_, hs, hen⟩
    · rw [List.getElem?_set_ne hj] at he'
      obtain ⟨u, hu, r⟩ := R.sl j e he'
      refine ⟨u, hu, ?_⟩
      cases e with
      | d x => exact Rep.to t r
      | own ds =>
        obtain ⟨a, vs, h1, h2, h3, h4⟩ := r
        exact ⟨a, vs, h1, h2, by rw [upd_ne (fun (z : a = L) => hj (R.inj i j L hi (z ▸ h1)))]; exact h3, RepL.to t h4⟩
      | odk ds =>
        obtain ⟨a, vs, h1, h2, h3, h4⟩ := r
        exact ⟨a, vs, h1, h2, by rw [upd_ne (fun (z : a = L) => hj (R.inj i j L hi (z ▸ h1)))]; exact h3, RepK.to t h4⟩
      | st => exact r
  · have : b ≠ L := fun z => by rw [z, B.fr i L hi] at e; cases e
    rw [upd_ne this]
    exact B.kp b x e n
/-- x.append(e) -/
def dApp (i : Nat) (de : Ev → (D → Prop) → Prop) : DS := fun Ed env => match eget env i with
  | some (.own ds) => de env fun x => ds.length ≤ 100000 ∧ Ed.nx (eset env i (some (.own (ds ++ [x]))))
  | _ => False
theorem rs_app (i : Nat) {te : TE} {de : Ev → (D → Prop) → Prop} (h : RfE K te de) : RfS K (tDrop (tBM K "list" rAppend (tVar i) (tCons te tNil))) (dApp i de) := ⟨fun {A st H0 ow σ H env Ed E} B q k => by
  unfold dApp at q
  split at q
  · rename_i ds e
    obtain ⟨v, hv, L, vs, h1, rfl, h3, h4⟩ := B.r.sl i _ (eget_some e)
    refine ⟨_, hv, .inl ⟨rfl, vs, SqL.of h3⟩, h.run B.r q fun d v H' ⟨hl, q'⟩ s r => ?_⟩
    have B1 := B.step s
    have h3' : H' L = some (.lst vs) := s.k L _ h3 fun z => B.r.na i L h1 (B.r.exA L z)
    refine ⟨L, vs, v, rfl, rfl, h3', Nat.lt_of_le_of_lt (by rw [← h4.len]; exact hl) (by decide), ?_⟩
    have mL : Mo A ow L := .inr ⟨i, h1⟩
    have t : To H' (upd H' L (.lst (vs ++ [v]))) (Mo A ow) (Mo A ow) := ⟨fun b x e n => ⟨by rw [upd_ne (fun (z : b = L) => n (z ▸ mL))]; exact e, n⟩⟩
    have := B1.mut i (o' := .lst (vs ++ [v])) h1 h3' hv (en := .own (ds ++ [d])) ⟨L, _, h1, rfl, upd_same, RepL.to t ((RepL.to (B.r.toS s) h4).snoc r)⟩ (.inl ⟨_, rfl⟩)
    exact k.nx _ _ _ _ q' this.1 ((B.r.toS s).trans this.2)
  · exact q.elim⟩
/-- x[i] = e -/
def dSetIx (i : Nat) (de di : Ev → (D → Prop) → Prop) : DS := fun Ed env => de env fun x => match eget env i with
  | some (.own ds) => di env fun y => (match y with | .int k => ∃ j, ixN ds.length k = some j ∧ Ed.nx (eset env i (some (.own (ds.set j x)))) | _ => False)
  | _ => False
theorem rs_setIx (i : Nat) {te ti : TE} {de di : Ev → (D → Prop) → Prop} (h : RfE K te de) (hi : RfE K ti di) : RfS K (tAsg te (gSub (tVar i) ti rSetL)) (dSetIx i de di) := ⟨fun {A st H0 ow σ H env Ed E} B q k => h.run B.r q fun d v H1 q1 s1 r1 => by
  have B1 := B.step s1
  split at q1
  · rename_i ds e
    obtain ⟨w, hw, L, vs, h1, rfl, h3, h4⟩ := B1.r.sl i _ (eget_some e)
    refine ⟨_, hw, hi.run B1.r q1 fun y u H2 q2 s2 r2 => ?_⟩
    have B2 := B1.step s2
    have h3' : H2 L = some (.lst vs) := s2.k L _ h3 fun z => B1.r.na i L h1 (B1.r.exA L z)
    split at q2
    · cases r2
      obtain ⟨j, ej, q3⟩ := q2
      refine ⟨L, vs, _, j, rfl, rfl, h3', by rw [← h4.len]; exact ej, ?_⟩
      have mL : Mo A ow L := .inr ⟨i, h1⟩
      have t : To H2 (upd H2 L (.lst (vs.set j v))) (Mo A ow) (Mo A ow) := ⟨fun b x e n => ⟨by rw [upd_ne (fun (z : b = L) => n (z ▸ mL))]; exact e, n⟩⟩
      have := B2.mut i (o' := .lst (vs.set j v)) h1 h3' hw (en := .own (ds.set j d)) ⟨L, _, h1, rfl, upd_same, RepL.to t ((RepL.to (B1.r.toS s2) h4).set j (Rep.to (B1.r.toS s2) r1))⟩ (.inl ⟨_, rfl⟩)
      exact k.nx _ _ _ _ q3 this.1 (((B.r.toS s1).trans (B1.r.toS s2)).trans this.2)
    · exact q2.elim
  · exact q1.elim⟩
/-- what a slot owns is not changed any more -/
def frz (env : Ev) (i : Nat) : Ev := match eget env i with
  | some (.own ds) => eset env i (some (.d (.list ds)))
  | some (.odk ds) => eset env i (some (.d (.dict ds)))
  | _ => env
def dFrz (i : Nat) (a : DS) : DS := fun Ed env => a Ed (frz env i)
theorem set_self {α : Type} {xs : List α} {i : Nat} {x : α} (h : xs[i]? = some x) : xs.set i x = xs := by
  refine List.ext_getElem? fun j => ?_
  by_cases e : i = j
  · subst e
    rw [List.getElem?_set_self (List.getElem?_eq_some_iff.mp h).1, h]
  · rw [List.getElem?_set_ne e]
theorem rs_frz (i : Nat) {t : TS} {a : DS} (h : RfS K t a) : RfS K t (dFrz i a) := ⟨fun {A st H0 ow σ H env Ed E} B q k => by
  have less : To H H (Mo A ow) (Mo A (owDel ow i)) := to_less fun b => Mo.sub fun j a e => (owDel_sub e).1
  have nm : ∀ L, ow i = some L → ¬ Mo A (owDel ow i) L := fun L e z => by
    rcases z with z | ⟨j, z⟩
    · exact B.r.na i L e z
    · obtain ⟨z1, z2⟩ := owDel_sub z
      exact z2 (B.r.inj j i L z1 e)
  have put : ∀ d v, Rep K H (Mo A (owDel ow i)) d v → σ[i]? = some (some v) → BE K A st H0 (owDel ow i) σ H (eset env i (some (.d d))) := fun d v r hv => by
    have R := B.r
    have sub : ∀ j a, owDel ow i j = some a → ow j = some a := fun j a e => (owDel_sub e).1
    refine ⟨⟨R.ls, R.dom, R.sta, fun j a e => R.al j a (sub j a e), fun j a e => R.na j a (sub j a e), fun j k a h1 h2 => R.inj j k a (sub j a h1) (sub k a h2), fun j a h => ?_, by unfold eset; rw [List.length_set]; exact R.len, fun j e he => ?_⟩, B.kp, fun j a h => B.fr j a (sub j a h)⟩
    · have hj := (owDel_sub h).2
      unfold eset
      rw [List.getElem?_set_ne fun z => hj z.symm]
      exact R.tie j a (sub j a h)
    unfold eset at he
    by_cases hj : i = j
    · subst hj
      have hl : i < env.length := by rw [← R.len]; exact (List.getElem?_eq_some_iff.mp hv).1
      rw [List.getElem?_set_self hl] at he
      cases he
      exact ⟨v, hv, r⟩
    · rw [List.getElem?_set_ne hj] at he
      obtain ⟨u, hu, s⟩ := R.sl j e he
      exact ⟨u, hu, s.less sub (by unfold owDel; rw [if_neg (fun z => hj z.symm)])⟩
  unfold dFrz frz at q
  split at q
  · rename_i ds e
    obtain ⟨v, hv, L, vs, h1, rfl, h3, h4⟩ := B.r.sl i _ (eget_some e)
    exact h.run (put _ _ (.lst h3 (nm L h1) (RepL.to less h4)) hv) q (k.to less)
  · rename_i ds e
    obtain ⟨v, hv, L, vs, h1, rfl, h3, h4⟩ := B.r.sl i _ (eget_some e)
    exact h.run (put _ _ (.dct h3 (nm L h1) (RepK.to less h4)) hv) q (k.to less)
  · exact h.run B q k⟩
/-! two names at once -/
def dPar (i j : Nat) (da : Ev → (List D → Prop) → Prop) : DS := fun Ed env => da env fun xs => match xs with
  | [x, y] => Ed.nx (eset (eset env i (some (.d x))) j (some (.d y)))
  | _ => False
theorem rs_par {n : Nat} (i j : Nat) {t : TA} {da : Ev → (List D → Prop) → Prop} (h : RfN K n t da) : RfS K (tPar i j t) (dPar i j da) := ⟨fun {A st H0 ow σ H env Ed E} B q k => h.run B.r q fun ds vs H1 q1 _ s1 r1 => by
  split at q1
  · cases r1 with | cons h1 r1 => cases r1 with | cons h2 r2 =>
    cases r2
    have B1 := B.step s1
    have B2 := B1.put i h1
    have t2 := to_del H1 A ow i
    have B3 := B2.put j (Rep.to t2 h2)
    exact ⟨_, _, rfl, k.nx _ _ _ _ q1 B3 (((B.r.toS s1).trans t2).trans (to_del _ _ _ _))⟩
  · exact q1.elim⟩
def dAug (i : Nat) (de : Ev → (D → Prop) → Prop) (g : Int → Int → Int) : DS := fun Ed env => match eget env i with
  | some (.d (.int x)) => de env fun y => (match y with | .int z => Ed.nx (eset env i (some (.d (.int (g x z))))) | _ => False)
  | _ => False
theorem rs_aug (i : Nat) {t : TE} {de : Ev → (D → Prop) → Prop} {g : Int → Int → Int} (h : RfE K t de) : RfS K (tAug i t (ipI g)) (dAug i de g) := ⟨fun B q k => by
  unfold dAug at q
  split at q
  · rename_i x e
    obtain ⟨v, hv, r⟩ := B.r.sl i _ (eget_some e)
    cases r
    refine ⟨_, hv, h.run B.r q fun d v H1 q1 s1 r1 => ?_⟩
    split at q1
    · cases r1
      have B1 := B.step s1
      exact ⟨_, _, rfl, rfl, k.nx _ _ _ _ q1 (B1.put i (.int _)) ((B.r.toS s1).trans (to_del _ _ _ _))⟩
    · exact q1.elim
  · exact q.elim⟩
/-! loops -/
def loopD (g : D → Ev → (Ev → Prop) → Prop) (body : DS) (Ed : Dd) : List D → Ev → Prop
  | [], env => Ed.nx env
  | d :: r, env => g d env fun env1 => body { nx := loopD g body Ed r, ct := loopD g body Ed r, bk := Ed.nx, rt := Ed.rt } env1
def dFor (di : Ev → (List D → Prop) → Prop) (g : D → Ev → (Ev → Prop) → Prop) (body : DS) : DS := fun Ed env => di env fun ds => loopD g body Ed ds env
theorem rs_for {is : List Nat} {wi : TI} {tg : TG} {tb : TS} {di : Ev → (List D → Prop) → Prop} {g : D → Ev → (Ev → Prop) → Prop} {body : DS} (hi : RfI K wi di) (hg : RfG K is tg g) (hb : RfS K tb body) : RfS K (tFor wi tg tb) (dFor di g body) := ⟨fun {A st H0 ow σ H env Ed E} B q k =>
  hi.run B.r q fun ds J H1 q1 s1 J1 => by
    have B1 := B.step s1
    have k1 := k.to (B.r.toS s1)
    refine ⟨fun i m σ' H' => m = ds.length - i ∧ i ≤ ds.length ∧ ∃ env' ow', BE K A st H0 ow' σ' H' env' ∧ To H1 H' (Mo A ow) (Mo A ow') ∧ loopD g body Ed (ds.drop i) env', ⟨_, rfl, Nat.zero_le _, env, ow, B1, To.refl _ _, q1⟩, ?_⟩
    rintro i m σ' H' ⟨rfl, hi, env', ow', B', t', q'⟩
    have al : ∀ a, Mo A ow' a → H' a ≠ none := fun a z => B'.r.alM z
    by_cases hlt : i < ds.length
    · have eD : ds[i]? = some ds[i] := List.getElem?_eq_getElem hlt
      rw [drop_get eD] at q'
      obtain ⟨go, yl⟩ := (J1 _ H' t' al i).2 _ eD
      refine .inr ⟨go, fun σ2 H2 => ∃ env2 ow2, BE K A st H0 ow2 σ2 H2 env2 ∧ To H1 H2 (Mo A ow) (Mo A ow2) ∧ loopD g body Ed (ds.drop (i + 1)) env2, fun σ2 H2 z => ⟨_, by omega, rfl, hlt, z⟩, fun x H2 y => ?_⟩
      obtain ⟨sm, rx⟩ := yl x H2 y
      have B2 := B'.step (.same B'.r.ls sm)
      refine hg.run B2.r rx q' fun env3 ow3 σ3 q3 R3 sub3 _ => ?_
      have B3 : BE K A st H0 ow3 σ3 H2 env3 := ⟨R3, B2.kp, fun j a e => B2.fr j a (sub3 j a e)⟩
      have t3 : To H' H2 (Mo A ow') (Mo A ow3) := (to_same sm).trans (to_less fun a => Mo.sub sub3)
      have k3 := k1.to (t'.trans t3)
      exact hb.run B3 q3 ⟨fun env' ow' σ' H' q b t => ⟨env', ow', b, (t'.trans t3).trans t, q⟩, k3.rt, k3.nx, fun env' ow' σ' H' q b t => ⟨env', ow', b, (t'.trans t3).trans t, q⟩⟩
    · have e' : i = ds.length := by omega
      subst e'
      rw [List.drop_length] at q'
      exact .inl ⟨(J1 _ H' t' al _).1 rfl, k1.nx _ _ _ _ q' B' t'⟩⟩
def dWhile (c : Ev → (Bool → Prop) → Prop) (body : DS) : DS := fun Ed env => ∃ W : Nat → Ev → Prop, (∃ m, W m env) ∧ ∀ m env, W m env → c env fun b =>
  if b = true then body { nx := fun e => ∃ m', m' < m ∧ W m' e, ct := fun e => ∃ m', m' < m ∧ W m' e, bk := Ed.nx, rt := Ed.rt } env else Ed.nx env
theorem rs_while {tc : TT} {tb : TS} {c : Ev → (Bool → Prop) → Prop} {body : DS} (hc : RfT K tc c) (hb : RfS K tb body) : RfS K (tWhile tc tb) (dWhile c body) := ⟨fun {A st H0 ow σ H env Ed E} B ⟨W, ⟨m0, w0⟩, turn⟩ k => by
  refine ⟨fun m σ' H' => ∃ env' ow', BE K A st H0 ow' σ' H' env' ∧ To H H' (Mo A ow) (Mo A ow') ∧ W m env', ⟨m0, env, ow, B, To.refl _ _, w0⟩, ?_⟩
  rintro m σ' H' ⟨env', ow', B', t', w'⟩
  refine hc.run B'.r (turn m env' w') fun b H2 q2 s2 => ?_
  have B2 := B'.step s2
  have t2 := t'.trans (B'.r.toS s2)
  have k2 := k.to t2
  cases b with
  | false =>
    rw [if_neg Bool.false_ne_true] at q2 ⊢
    exact k2.nx _ _ _ _ q2 B2 (To.refl _ _)
  | true =>
    rw [if_pos rfl] at q2 ⊢
    exact ⟨fun σ3 H3 => ∃ m', m' < m ∧ ∃ env' ow', BE K A st H0 ow' σ3 H3 env' ∧ To H H3 (Mo A ow) (Mo A ow') ∧ W m' env', fun σ3 H3 z => z,
      hb.run B2 q2 ⟨fun env' ow' σ' H' ⟨m', hm, w⟩ b t => ⟨m', hm, env', ow', b, t2.trans t, w⟩, k2.rt, k2.nx, fun env' ow' σ' H' ⟨m', hm, w⟩ b t => ⟨m', hm, env', ow', b, t2.trans t, w⟩⟩⟩⟩
/-! bodies -/
def ev0 (ds : List D) (n : Nat) : Ev := ds.map (fun d => some (.d d)) ++ List.replicate n none
theorem ev0_get {K : PySem.W.Frag} {H : Hp} {A : Addr → Prop} : ∀ {ds : List D} {vs : List V} {n i : Nat} {e : En}, RepL K H A ds vs → (ev0 ds n)[i]? = some (some e) → ∃ d v, e = .d d ∧ vs[i]? = some v ∧ Rep K H A d v := fun {ds vs n i e} r h => by
  unfold ev0 at h
  by_cases hi : i < ds.length
  · rw [List.getElem?_append_left (by rw [List.length_map]; exact hi), List.getElem?_map, List.getElem?_eq_getElem hi] at h
    cases h
    obtain ⟨v, hv, rv⟩ := r.get (List.getElem?_eq_getElem hi)
    exact ⟨_, v, rfl, hv, rv⟩
  · rw [List.getElem?_append_right (by rw [List.length_map]; omega)] at h
    have := List.mem_of_getElem? h
    rw [List.mem_replicate] at this
    cases this.2
theorem start_get {N : List Str} {vs : List V} {i : Nat} {v : V} (h : vs[i]? = some v) : (L2.start N vs)[i]? = some (some v) := by
  unfold L2.start
  have hi := (List.getElem?_eq_some_iff.mp h).1
  rw [List.getElem?_append_left (by rw [List.length_map]; exact hi), List.getElem?_map, h]
  rfl
theorem fn_pure {t : TS} {b : DS} {f : List D → (D → Prop) → Prop} {N : List Str} {vs : List V} {H : Hp} {Q : VK} {E : XK} (hb : RfS K t b) (h : spD K f vs H Q E) (hn : vs.length ≤ N.length)
    (hf : ∀ ds Qd, f ds Qd → b { nx := fun _ => Qd .none, rt := Qd } (ev0 ds (N.length - ds.length))) : t { nx := fun _ H' => Q .non H', rt := Q } (L2.start N vs) H := by
  obtain ⟨A, ds, Qd, dom, r, hq, k⟩ := h
  have hl := r.len
  refine hb.run (A := A) (st := none) (H0 := H) (ow := fun _ => none) ⟨⟨fun q e => (by cases e), dom, fun q e => (by cases e), fun i a e => (by cases e), fun i a e => (by cases e), fun i j a e => (by cases e), fun i a e => (by cases e), ?_, fun i e he => ?_⟩, Keep.refl _ _, fun i a e => (by cases e)⟩ (hf ds Qd hq) ?_
  · unfold L2.start ev0
    simp only [List.length_append, List.length_map, List.length_replicate]
    omega
  · obtain ⟨d, v, rfl, hv, rv⟩ := ev0_get r he
    exact ⟨v, start_get hv, Rep.to (to_less fun a z => z.elim id fun ⟨i, e⟩ => by cases e) rv⟩
  · exact ⟨fun env' ow' σ' H' q b t => k _ _ _ q (fun b' o e => b.kp b' o e (by simp [exs])) .non, fun d v H' q s r => k _ _ _ q (fun b' o e => s.k b' o e (by simp [exs])) r, fun _ _ _ _ q => q.elim, fun _ _ _ _ q => q.elim⟩
theorem fn_state {t : TS} {b : DS} {f : List D → (D → Prop) → Prop} {N : List Str} {vs : List V} {H : Hp} {Q : VK} {E : XK} (hb : RfS K t b) (h : spS K f vs H Q E) (hn : vs.length ≤ N.length)
    (hf : ∀ ds Qd, f ds Qd → b { nx := fun _ => Qd .none, rt := Qd } (some .st :: ev0 ds (N.length - (ds.length + 1)))) : t { nx := fun _ H' => Q .non H', rt := Q } (L2.start N vs) H := by
  obtain ⟨A, z, ds, ws, Qd, rfl, ls, a1, a2, dom, r, hq, k⟩ := h
  have hl := r.len
  refine hb.run (A := A) (st := some z) (H0 := H) (ow := fun _ => none) ⟨⟨fun q e => (by cases e; exact ls), dom, fun q e => (by cases e; exact ⟨a1, a2⟩), fun i a e => (by cases e), fun i a e => (by cases e), fun i j a e => (by cases e), fun i a e => (by cases e), ?_, fun i e he => ?_⟩, Keep.refl _ _, fun i a e => (by cases e)⟩ (hf ds Qd hq) ?_
  · unfold L2.start ev0
    simp only [List.length_append, List.length_map, List.length_replicate, List.length_cons] at hn ⊢
    omega
  · cases i with
    | zero =>
      rw [List.getElem?_cons_zero] at he
      cases he
      exact ⟨_, start_get (i := 0) rfl, z, rfl, rfl⟩
    | succ i =>
      rw [List.getElem?_cons_succ] at he
      obtain ⟨d, v, rfl, hv, rv⟩ := ev0_get r he
      exact ⟨v, start_get (i := i + 1) (by rw [List.getElem?_cons_succ]; exact hv), Rep.to (to_less fun a z => z.elim id fun ⟨i, e⟩ => by cases e) rv⟩
  · exact ⟨fun env' ow' σ' H' q b t => k _ _ _ q ⟨b.kp, b.r.ls⟩ .non, fun d v H' q s r => k _ _ _ q s r, fun _ _ _ _ q => q.elim, fun _ _ _ _ q => q.elim⟩
theorem spD_len {f : List D → (D → Prop) → Prop} {n : Nat} (hf : ∀ ds Qd, f ds Qd → ds.length = n) {vs : List V} {H : Hp} {Q : VK} {E : XK} (h : spD K f vs H Q E) : vs.length = n := by
  obtain ⟨A, ds, Qd, dom, r, hq, k⟩ := h
  rw [← r.len]
  exact hf ds Qd hq
theorem spS_len {f : List D → (D → Prop) → Prop} {n : Nat} (hf : ∀ ds Qd, f ds Qd → ds.length = n) {vs : List V} {H : Hp} {Q : VK} {E : XK} (h : spS K f vs H Q E) : vs.length = n + 1 := by
  obtain ⟨A, z, ds, ws, Qd, rfl, ls, a1, a2, dom, r, hq, k⟩ := h
  rw [List.length_cons, ← r.len, hf ds Qd hq]
end
section
variable {K : PySem.W.Frag}
def dUn (op : D → (D → Prop) → Prop) (da : Ev → (D → Prop) → Prop) : Ev → (D → Prop) → Prop := fun env Q => da env fun x => op x Q
structure RfV1 (K : PySem.W.Frag) (r : V → Hp → VK → Prop) (op : D → (D → Prop) → Prop) : Prop where
  run : ∀ {A : Addr → Prop} {st : Option (Addr × Addr)} {ow : Nat → Option Addr} {σ : L2.St} {H : Hp} {env : Ev} {a : D} {x : V} {Qd : D → Prop} {Q : VK},
  RE K A st ow σ H env → RepB K H A (Mo A ow) a x → op a Qd → (∀ d v H', Qd d → Stp st H H' → Rep K H' (Mo A ow) d v → Q v H') → r x H Q
theorem ru {r : V → Hp → VK → Prop} {op : D → (D → Prop) → Prop} {ta : TE} {da : Ev → (D → Prop) → Prop} (ho : RfV1 K r op) (ha : RfB K ta da) : RfE K (tUn r ta) (dUn op da) := ⟨fun R q k =>
  ha.run R q fun d v H1 q1 s1 r1 => ho.run (R.step s1) r1 q1 fun d v H2 q2 s2 r2 => k d v H2 q2 (s1.trans s2) r2⟩
def oNeg : D → (D → Prop) → Prop := fun x Q => match x with | .int i => Q (.int (-i)) | _ => False
theorem rv_neg : RfV1 K (rU fun i => .int (-i)) oNeg := ⟨fun R h q k => by
  unfold oNeg at q
  split at q
  · cases h.int
    exact ⟨_, rfl, k _ _ _ q (stp_refl R) (.int _)⟩
  · exact q.elim⟩
theorem rv_ninS : RfV2 K (fun x y H Q => ∃ (c : Nat) (z : Str), x = .str ⟨#[c]⟩ ∧ y = .str z ∧ Q (.bl (!decide (c ∈ z.cps.toList))) H) (oInS true) := ⟨fun R h1 h2 q k => by
  unfold oInS at q
  split at q
  · cases h1.str; cases h2.str
    obtain ⟨c, rfl, q⟩ := q
    exact ⟨_, _, rfl, rfl, k _ _ _ q (stp_refl R) (.bl _)⟩
  · exact q.elim⟩
def CDivW' (_ j : Int) : Prop := 0 < j ∧ j.natAbs < 2 ^ 64
/-! promises by their arguments -/
def F0 (P : (D → Prop) → Prop) : List D → (D → Prop) → Prop := fun ds Q => match ds with | [] => P Q | _ => False
def F1 (P : D → (D → Prop) → Prop) : List D → (D → Prop) → Prop := fun ds Q => match ds with | [a] => P a Q | _ => False
def F2 (P : D → D → (D → Prop) → Prop) : List D → (D → Prop) → Prop := fun ds Q => match ds with | [a, b] => P a b Q | _ => False
def F3 (P : D → D → D → (D → Prop) → Prop) : List D → (D → Prop) → Prop := fun ds Q => match ds with | [a, b, c] => P a b c Q | _ => False
def F4 (P : D → D → D → D → (D → Prop) → Prop) : List D → (D → Prop) → Prop := fun ds Q => match ds with | [a, b, c, d] => P a b c d Q | _ => False
def F5 (P : D → D → D → D → D → (D → Prop) → Prop) : List D → (D → Prop) → Prop := fun ds Q => match ds with | [a, b, c, d, e] => P a b c d e Q | _ => False
def F6 (P : D → D → D → D → D → D → (D → Prop) → Prop) : List D → (D → Prop) → Prop := fun ds Q => match ds with | [a, b, c, d, e, f] => P a b c d e f Q | _ => False
theorem F0_len {P} (ds : List D) (Q : D → Prop) (h : F0 P ds Q) : ds.length = 0 := by unfold F0 at h; split at h; rfl; exact h.elim
theorem F1_len {P} (ds : List D) (Q : D → Prop) (h : F1 P ds Q) : ds.length = 1 := by unfold F1 at h; split at h; rfl; exact h.elim
theorem F2_len {P} (ds : List D) (Q : D → Prop) (h : F2 P ds Q) : ds.length = 2 := by unfold F2 at h; split at h; rfl; exact h.elim
theorem F3_len {P} (ds : List D) (Q : D → Prop) (h : F3 P ds Q) : ds.length = 3 := by unfold F3 at h; split at h; rfl; exact h.elim
theorem F4_len {P} (ds : List D) (Q : D → Prop) (h : F4 P ds Q) : ds.length = 4 := by unfold F4 at h; split at h; rfl; exact h.elim
theorem F5_len {P} (ds : List D) (Q : D → Prop) (h : F5 P ds Q) : ds.length = 5 := by unfold F5 at h; split at h; rfl; exact h.elim
theorem F6_len {P} (ds : List D) (Q : D → Prop) (h : F6 P ds Q) : ds.length = 6 := by unfold F6 at h; split at h; rfl; exact h.elim
theorem F0_in {P} {G : List D → (D → Prop) → Prop} (h : ∀ Qd, P Qd → G [] Qd) : ∀ ds Qd, F0 P ds Qd → G ds Qd := fun ds Qd q => by unfold F0 at q; split at q; exact h _ q; exact q.elim
theorem F1_in {P} {G : List D → (D → Prop) → Prop} (h : ∀ a Qd, P a Qd → G [a] Qd) : ∀ ds Qd, F1 P ds Qd → G ds Qd := fun ds Qd q => by unfold F1 at q; split at q; exact h _ _ q; exact q.elim
theorem F2_in {P} {G : List D → (D → Prop) → Prop} (h : ∀ a b Qd, P a b Qd → G [a, b] Qd) : ∀ ds Qd, F2 P ds Qd → G ds Qd := fun ds Qd q => by unfold F2 at q; split at q; exact h _ _ _ q; exact q.elim
theorem F3_in {P} {G : List D → (D → Prop) → Prop} (h : ∀ a b c Qd, P a b c Qd → G [a, b, c] Qd) : ∀ ds Qd, F3 P ds Qd → G ds Qd := fun ds Qd q => by unfold F3 at q; split at q; exact h _ _ _ _ q; exact q.elim
theorem F4_in {P} {G : List D → (D → Prop) → Prop} (h : ∀ a b c d Qd, P a b c d Qd → G [a, b, c, d] Qd) : ∀ ds Qd, F4 P ds Qd → G ds Qd := fun ds Qd q => by unfold F4 at q; split at q; exact h _ _ _ _ _ q; exact q.elim
theorem F5_in {P} {G : List D → (D → Prop) → Prop} (h : ∀ a b c d e Qd, P a b c d e Qd → G [a, b, c, d, e] Qd) : ∀ ds Qd, F5 P ds Qd → G ds Qd := fun ds Qd q => by unfold F5 at q; split at q; exact h _ _ _ _ _ _ q; exact q.elim
theorem F6_in {P} {G : List D → (D → Prop) → Prop} (h : ∀ a b c d e f Qd, P a b c d e f Qd → G [a, b, c, d, e, f] Qd) : ∀ ds Qd, F6 P ds Qd → G ds Qd := fun ds Qd q => by unfold F6 at q; split at q; exact h _ _ _ _ _ _ _ q; exact q.elim
/-! the law's own run -/
def spState (K : PySem.W.Frag) : Sp := fun vs H Q _ => ∃ (a : Addr) (ns : List Int), vs = [.ref a] ∧ SqL K H a (ns.map V.int) ∧ ns.length ≤ 63 ∧
  ∀ (p c : Addr) (H' : Hp), LS H' p c → Same H H' → H p = none → H c = none → Q (.ref p) H'
def spLaw (K : PySem.W.Frag) : Sp := fun vs H Q _ => ∃ (a : Addr) (ns : List Int), vs = [.ref a] ∧ SqL K H a (ns.map V.int) ∧ ns.length ≤ 63 ∧ ∀ H', Q (.bl true) H'
theorem spLaw_len {vs : List V} {H : Hp} {Q : VK} {E : XK} (h : spLaw K vs H Q E) : vs.length = 1 := by
  obtain ⟨a, ns, rfl, _⟩ := h
  rfl
theorem law_run {i : Nat} {u : TS} {b : DS} {N : List Str} {vs : List V} {H : Hp} {Q : VK} {E E' : XK} (hb : RfS K u b) (h : spLaw K vs H Q E) (hi : 0 < i) (hN : i < N.length)
    (hf : b { nx := fun _ => False, rt := fun d => d = .bool true } ((List.replicate N.length none).set i (some .st))) :
    tSeq (tAsg (tCall (spState K) [] E' (tCons (tVar 0) tNil)) (gName i)) u { nx := fun _ H' => Q .non H', rt := Q } (L2.start N vs) H := by
  obtain ⟨a, ns, rfl, hS, hlen, q⟩ := h
  refine ⟨_, start_get (i := 0) rfl, a, ns, rfl, hS, hlen, fun p c H1 ls sm np nc => ?_⟩
  refine hb.run (A := fun x => x = p ∨ x = c) (st := some (p, c)) (H0 := H1) (ow := fun _ => none) ⟨⟨fun q e => (by cases e; exact ls), fun a ha => ?_, fun q e => (by cases e; exact ⟨.inl rfl, .inr rfl⟩), fun i a e => (by cases e), fun i a e => (by cases e), fun i j a e => (by cases e), fun i a e => (by cases e), ?_, fun j e he => ?_⟩, Keep.refl _ _, fun i a e => (by cases e)⟩ hf ?_
  · obtain ⟨k, ns, h1, h2, _⟩ := ls
    rcases ha with rfl | rfl
    · rw [h1]; intro z; cases z
    · rw [h2]; intro z; cases z
  · unfold L2.start
    simp only [List.length_set, List.length_append, List.length_map, List.length_replicate, List.length_cons, List.length_nil]
    omega
  · by_cases hj : i = j
    · subst hj
      rw [List.getElem?_set_self (by rw [List.length_replicate]; exact hN)] at he
      cases he
      refine ⟨_, List.getElem?_set_self ?_, (p, c), rfl, rfl⟩
      unfold L2.start
      simp only [List.length_append, List.length_map, List.length_replicate, List.length_cons, List.length_nil]
      omega
    · rw [List.getElem?_set_ne hj] at he
      have := List.mem_of_getElem? he
      rw [List.mem_replicate] at this
      cases this.2
  · exact ⟨fun env' ow' σ' H' q => q.elim, fun d v H' e s r => by subst e; cases r; exact q H', fun _ _ _ _ q => q.elim, fun _ _ _ _ q => q.elim⟩
/-! draws -/
def sTake : D → (D → Prop) → Prop := fun m Q => match m with | .int m => 0 < m ∧ m < 2 ^ 64 ∧ ∀ r, 0 ≤ r → r < m → Q (.int r) | _ => False
def sTake0 : D → (D → Prop) → Prop := fun m Q => match m with | .int m => m < 2 ^ 64 ∧ ∀ r, 0 ≤ r → (r < m ∨ r < 1) → Q (.int r) | _ => False
def spTake : Sp := fun vs H Q _ => ∃ (p c : Addr) (m : Int), vs = [.ref p, .int m] ∧ LS H p c ∧ 0 < m ∧ m < 2 ^ 64 ∧
  ∀ (r : Int) (H' : Hp), 0 ≤ r → r < m → LS H' p c → Keep [p, c] H H' → Q (.int r) H'
def spTake0 : Sp := fun vs H Q _ => ∃ (p c : Addr) (m : Int), vs = [.ref p, .int m] ∧ LS H p c ∧ m < 2 ^ 64 ∧
  ∀ (r : Int) (H' : Hp), 0 ≤ r → (r < m ∨ r < 1) → LS H' p c → Keep [p, c] H H' → Q (.int r) H'
theorem take_of (vs : List V) (H : Hp) (Q : VK) (E : XK) (h : spS K (F1 sTake) vs H Q E) : spTake vs H Q E := by
  obtain ⟨A, z, ds, ws, Qd, rfl, ls, a1, a2, dom, r, hq, k⟩ := h
  unfold F1 at hq
  split at hq
  · unfold sTake at hq
    split at hq
    · cases r with | cons r1 r2 =>
      cases r2
      cases r1
      exact ⟨z.1, z.2, _, rfl, ls, hq.1, hq.2.1, fun r H' h0 h1 l kk => k _ _ _ (hq.2.2 r h0 h1) ⟨kk, fun q e => by cases e; exact l⟩ (.int _)⟩
    · exact hq.elim
  · exact hq.elim
theorem take0_of (vs : List V) (H : Hp) (Q : VK) (E : XK) (h : spS K (F1 sTake0) vs H Q E) : spTake0 vs H Q E := by
  obtain ⟨A, z, ds, ws, Qd, rfl, ls, a1, a2, dom, r, hq, k⟩ := h
  unfold F1 at hq
  split at hq
  · unfold sTake0 at hq
    split at hq
    · cases r with | cons r1 r2 =>
      cases r2
      cases r1
      exact ⟨z.1, z.2, _, rfl, ls, hq.1, fun r H' h0 h1 l kk => k _ _ _ (hq.2 r h0 h1) ⟨kk, fun q e => by cases e; exact l⟩ (.int _)⟩
    · exact hq.elim
  · exact hq.elim
theorem emod_rng (x : Int) {m : Int} (h : 0 < m) : 0 ≤ x % m ∧ x % m < m := ⟨Int.emod_nonneg _ (by omega), Int.emod_lt_of_pos _ h⟩
theorem at_mod {α : Type} {xs : List α} (h : xs ≠ []) (k : Int) : ∃ (j : Nat) (v : α), k % (xs.length : Int) = (j : Int) ∧ j < xs.length ∧ xs[j]? = some v := by
  have hl : 0 < xs.length := by
    cases xs with
    | nil => exact absurd rfl h
    | cons _ _ => exact Nat.zero_lt_succ _
  have e := emod_rng k (m := (xs.length : Int)) (by omega)
  refine ⟨(k % (xs.length : Int)).toNat, xs[(k % (xs.length : Int)).toNat]'(by omega), by omega, by omega, List.getElem?_eq_getElem _⟩
theorem LS.ne {H : Hp} {p c : Addr} (h : LS H p c) : p ≠ c := by
  obtain ⟨k, ns, h1, h2, h3⟩ := h
  intro e
  subst e
  rw [h1] at h2
  cases ns with
  | nil => exact h3 rfl
  | cons x r =>
    cases r with
    | nil => cases h2
    | cons y r =>
      cases r with
      | nil => cases h2
      | cons _ _ => cases h2
theorem cut63 (xs : List V) (h : xs.length ≤ 63) : cutV xs none (some 63) = xs := by
  unfold cutV
  rw [HT.sIx_none, show HT.sIx xs.length xs.length (some 63) = min 63 xs.length from HT.sIx_nat xs.length xs.length 63]
  rw [List.drop_zero, Nat.min_eq_right h, Nat.sub_zero, List.take_length]
/-! rows that are drawn from -/
def sPick : D → (D → Prop) → Prop := fun m Q => match seqOf m with | some ds => ds ≠ [] ∧ ds.length ≤ 100000 ∧ ∀ d ∈ ds, Q d | none => False
def sNumber : D → D → (D → Prop) → Prop := fun a b Q => match a, b with | .int lo, .int hi => lo ≤ hi ∧ (-(2 ^ 63) ≤ lo ∧ hi < 2 ^ 63) ∧ ∀ r, lo ≤ r → r ≤ hi → Q (.int r) | _, _ => False
end
/-! defs that show data: no repr runs around them -/
structure FnG (P : Program) (w : World) (K : PySem.W.Frag) (mg : Str → Option Value) (base : Heap) (k : Nat) (f : Addr) (fd : FuncData) (ps : List Str) (sp : Sp) : Prop where
  len : ∀ us H Q E, sp us H Q E → us.length = ps.length
  go : ∀ (A : Around) (outer : List Env) (s : Shared) (H : Hp) (args : Args) (us : List Value) (vs : List V) (Q : VK) (E : XK), Room k A → A.guards = some [] → Env0 P w K mg base A outer s H → BindsTo s fd args (ps.zip us) → Vals vs us → sp vs H Q E →
    codeAny (model P w) A (.call (.ref f) args) (CR CX0 outer P w H s Q E) s
theorem FnG.of {P : Program} {w : World} {K : PySem.W.Frag} {mg : Str → Option Value} {base : Heap} {k : Nat} {f : Addr} {fd : FuncData} {ps : List Str} {sp : Sp} (F : FnOk P w K mg base CX0 k f fd ps sp) : FnG P w K mg base k f fd ps sp :=   ⟨F.len, fun A outer s H args us vs Q E hr _ => F.run A outer s H args us vs Q E hr⟩
section
variable {X : Cx} {k : Nat} {f : Addr} {fd : FuncData} {ps : List Str} {sp : Sp} {x : Str} {p pos : Pos} {e : Expr} {es : List Expr} {t : TA}
theorem go_fnG {pins : List (Addr × Obj)} {σ : L2.St} {H : Hp} {s : Shared} {Q : VK} {us : List Value} {vs : List V} (F : FnG X.prog X.w X.K X.mg X.base k f fd ps sp) (hr : Room k X.A) (gd : X.A.guards = some []) (hb : Binds X.K fd ps [])
    (J : Inv X pins σ H s) (r : Vals vs us) (h : sp vs H Q E0) : wpAny (model X.prog X.w) X.A (call (.ref f) us) (EP X pins σ Q) X.xe s := by
  have hl : (us ++ []).length = ps.length := by rw [List.append_nil, ← r.length]; exact F.len _ _ _ _ h
  have bb := hb s us J.kIn hl
  rw [List.append_nil] at bb
  refine wpAny_call (codeAny_mono (F.go X.A X.stack s H ⟨us, []⟩ us vs Q E0 hr gd J.env0 bb r h) fun rr s' hq => ?_)
  match rr, hq with
  | .error e, hq => exact False.elim hq
  | .ok (.ret u), hq => exact J.after hq
  | .ok .next, hq => cases hq
  | .ok .brk, hq => cases hq
  | .ok .cont, hq => cases hq
theorem pe_callG (F : FnG X.prog X.w X.K X.mg X.base k f fd ps sp) (hr : Room k X.A) (gd : X.A.guards = some []) (hg : Gl X x) (hm : X.mg x = some (.ref f)) (hk : PySem.W.keepIn X.K (.ref f) = true) (hb : Binds X.K fd ps [])
    (ha : PA X (e :: es) t) (hdb : (x == ("__debug__" : Str)) = false := by decide) (he : starEach (e :: es) X.env = (false, eval e X.env) :: starEach es X.env := by rfl) (hpl : (backTo pos (starEach es X.env)).any (·.1) = false := by rfl) :
    PE X (.Call (.Name x p) (e :: es) [] pos) (tCall sp [] E0 t) := ⟨fun pins s σ H Q J h => by
  refine wpAny_Call_Name_kw (ld_glob J hg hm ?_ hdb)
  refine PySem.W.callWith_K (h₀ := X.base) J.ok.mod.kin hk (thn (ha.run pos pins s σ H _ J h) fun us s2 ⟨vs, H2, J2, r2, q2⟩ => ⟨J2.kIn, ?_⟩) he hpl
  have q3 : sp (vs ++ []) H2 Q E0 := q2
  rw [List.append_nil] at q3
  exact go_fnG F hr gd hb J2 r2 q3⟩
end
section
variable {P : Program} {w : World} {K : PySem.W.Frag} {mg : Str → Option Value} {base : Heap}
theorem okG {x qual : Str} {st : Stmt} {f : Addr} {fd : FuncData} {N ps : List Str} {k : Nat} {sp : Sp} (F : Fun K x qual st f fd) (S : FnScope N ps (defScope st)) (len : ∀ us H Q E, sp us H Q E → us.length = ps.length)
    (hbody : ∀ (cdv : Value) (A : Around) (outer : List Env) (s : Shared) (H : Hp) (vs : List V) (Q : VK) (E : XK), Room k (A.deeper (envOfC qual (defScope st) s.heap.objs.size f cdv)) → A.guards = some [] → sp vs H Q E →
      ∃ t, PSs (cxOf CX0 P w K mg base N qual (defScope st) f cdv A outer s H E).nox (defBody st) t ∧ t { nx := fun _ H' => Q .non H', rt := Q } (L2.start N vs) H) : FnG P w K mg base (k + 1) f fd ps sp := by
  obtain ⟨oc, od, kV, doc, pm, an, cdv, ct, osl, rfl, lk, hcd⟩ := F.ex
  refine ⟨len, fun A outer s H args us vs Q E hr gd ee hb r hsp => ?_⟩
  have hl := len _ _ _ _ hsp
  have kin : K.In s.heap := ee.mod.kin.keeps fun b o e => (ee.bs b o e).1
  have nol : s.heap.NoLimit := ee.mod.nolimit.keeps fun b o e => (ee.bs b o e).1
  have kinds : ∀ y ∈ ps.zip us, (defScope st).names.lookup y.1 = some .local ∨ ((defScope st).names.lookup y.1 = some .cell ∧ ((cellsFrom (s.heap.objs.size + 1) (defScope st).names []).lookup y.1).isSome = true) := fun ⟨n, v⟩ hy => by
    rcases S.par n (List.of_mem_zip hy).1 with z | z
    · exact .inl z
    · exact .inr ⟨z, PySem.W.cellsFrom_some _ _ _ (.inl z)⟩
  refine codeAny_call_function hr.depth (kin _ _ lk) rfl S.co S.gen rfl (PySem.W.codeRec_of kin hcd) (hb _ _ _ _ ?_)
  refine wpAny_newFunctionEnv_cells S.kind kinds fun env he s2 y => ?_
  subst he
  refine ⟨nol.keeps y.toInCall.keep, codeAny_func ?_⟩
  obtain ⟨t, ht, hq⟩ := hbody cdv A outer s H vs Q E (hr.deeper _) gd hsp
  have J : Inv (cxOf CX0 P w K mg base N qual (defScope st) f cdv A outer s H E) [] (L2.start N vs) H s2 := inv_start S hr.hd ee hl r y
  refine wpAny_mono (ht.nox.run [] s2 (L2.start N vs) H _ J hq) (fun fl s' hs => ?_) fun e s' hs => hs
  match fl, hs with
  | .ret u, ⟨v, σ', H', J', rv, q⟩ => exact ⟨v, H', J'.os, J'.bare, J'.base, J'.hok, rv, q⟩
  | .next, ⟨σ', H', J', q⟩ => exact ⟨.non, H', J'.os, J'.bare, J'.base, J'.hok, rfl, q⟩
  | .brk, ⟨_, _, _, q⟩ => cases q
  | .cont, ⟨_, _, _, q⟩ => cases q
end
/-- the law's call, where no repr runs around it -/
theorem callG {P : Program} {w : World} {K : PySem.W.Frag} {mg mb : Str → Option Value} {k : Nat} {fa a : Addr} {fd : FuncData} {x : Str} {sp : Sp} {sA : Shared} {us : List Value} {zs : List Int}
    (kin : K.In sA.heap) (hns : sA.heap.Ns mainGlobals mg) (hb : sA.heap.Ns builtinsNs mb) (hbb : ∀ x : Str, x ≠ "__name__" → mb x = bootBuiltins x) (nol : sA.heap.NoLimit) (hg : sA.gens = #[])
    (ha : sA.heap.get? a = some { cls := .type "list", data := .seq us.toArray }) (hi : IntsAre us zs) (hl : zs.length ≤ sizeLine) (hr : Room k callerA)
    (F : ∀ base : Heap, K.In base → base.Ns mainGlobals mg → FnG P w K mg base k fa fd [x] sp) (bnd : ∀ (s : Shared) (u : Value), BindsTo s fd ⟨[u], []⟩ [(x, u)])
    (hsp : ∀ H : Hp, SqL K H a (zs.map V.int) → sp [.ref a] H (fun v _ => v = .bl true) E0) :
    codeAny (model P w) callerA (.call (.ref fa) ⟨[.ref a], []⟩) (fun r s' => r = .ok (.ret (.bool true)) ∧ OldK sA.heap s'.heap ∧ s'.os = sA.os ∧ AllBare s'.gens) sA := by
  have rv := vals_ints hi
  have key : ∀ Hh : Hp, Only Hh → SqL K Hh a (zs.map V.int) → HOk P w Hh sA.heap → (∀ b, Hh b ≠ none → b = a) → (Hh a ≠ none → K.lookup a = none) →
      codeAny (model P w) callerA (.call (.ref fa) ⟨[.ref a], []⟩) (fun r s' => r = .ok (.ret (.bool true)) ∧ OldK sA.heap s'.heap ∧ s'.os = sA.os ∧ AllBare s'.gens) sA := by
    intro Hh hO hS hok hA hK
    have under : ∀ {b : Addr} {o : Obj}, sA.heap.get? b = some o → Hh b = none → (hidT sA.heap Hh).get? b = some o := fun e n => hidT_get e n
    have dictN : ∀ {b : Addr} {o : Obj} {es : Array DictEntry} {ep : Nat}, sA.heap.get? b = some o → o.data = .dict es ep → Hh b = none := fun {b o es ep} e d => Decidable.byContradiction fun z => by
      have e' : b = a := hA b z
      rw [e', ha] at e
      cases e
      cases (show Data.seq us.toArray _ = Data.dict es ep from d)
    have nsU : ∀ {b : Addr} {m : Str → Option Value}, sA.heap.Ns b m → (hidT sA.heap Hh).Ns b m := fun {b m} ⟨o, es, ep, e, d, r⟩ => ⟨o, es, ep, under e (dictN e d), d, r⟩
    have kinU : K.In (hidT sA.heap Hh) := fun b o e => under (kin b o e) (Decidable.byContradiction fun z => by
      have e' : b = a := hA b z
      rw [e', hK (e' ▸ z)] at e
      cases e)
    have md : Mod K mg (hidT sA.heap Hh) := ⟨kinU, nsU hns, ⟨mb, nsU hb, hbb⟩, let ⟨mc, h1, h2⟩ := nol; ⟨mc, nsU h1, h2⟩⟩
    have ee : Env0 P w K mg (hidT sA.heap Hh) callerA [] sA Hh := ⟨rfl, md, fun b o e => of_hidT e, Nat.le_of_eq (hidT_size _ _), trivial, fun b hb => absurd hb (by simp [frs]), hok, .of_eq hg⟩
    refine codeAny_mono ((F _ kinU (nsU hns)).go callerA [] sA Hh ⟨[.ref a], []⟩ [.ref a] [.ref a] _ _ hr rfl ee (bnd sA (.ref a)) (.cons rfl .nil) (hsp Hh hS)) fun r s' h => ?_
    match r, h with
    | .error e, h => cases h
    | .ok .next, h => cases h
    | .ok .brk, h => cases h
    | .ok .cont, h => cases h
    | .ok (.ret u), ⟨v, H', os, bare, un, hok', r', q⟩ =>
      subst q
      obtain rfl : u = Value.bool true := r'
      refine ⟨rfl, OldK.of_keep fun b o e => ?_, os, bare⟩
      cases q : Hh b with
      | none => exact un.keep b o e q (by simp [frs]) (by simp)
      | some u =>
        rcases hO b with z | ⟨ob, xs, z⟩
        · rw [q] at z; cases z
        · have z2 := un.frzs b ob _ z
          obtain ⟨e1, _⟩ := hok b _ z
          obtain ⟨e2, _⟩ := hok' b _ z2
          rw [e] at e1; cases e1
          exact e2
  cases hk : K.lookup a with
  | some o =>
    have e := kin a o hk
    rw [ha] at e
    cases e
    exact key (fun _ => none) (fun _ => .inl rfl) (.inr ⟨_, us.toArray, _, hk, rfl, rfl, rfl, by rw [List.size_toArray, hi.length]; exact hl, by simpa using rv⟩) (fun b u z => by cases (show (none : Option HO) = some u from z)) (fun b z => absurd rfl z) fun z => absurd rfl z
  | none =>
    let Hs : Hp := fun b => if b = a then some (.frz { cls := .type "list", data := .seq us.toArray } (.lst (zs.map V.int))) else none
    have at_a : Hs a = some (.frz { cls := .type "list", data := .seq us.toArray } (.lst (zs.map V.int))) := if_pos rfl
    have off : ∀ {b : Addr}, b ≠ a → Hs b = none := fun h => if_neg h
    refine key Hs (fun b => ?_) (.inl (.inr ⟨_, at_a⟩)) (fun b u z => ?_) (fun b z => Decidable.byContradiction fun h => z (off h)) fun _ => hk
    · by_cases h : b = a
      · exact .inr ⟨_, _, by rw [h]; exact at_a⟩
      · exact .inl (off h)
    · by_cases h : b = a
      · subst h
        rw [at_a] at z
        cases z
        exact ⟨ha, by rw [List.length_map]; exact hl, us, _, rv, ha⟩
      · rw [off h] at z
        cases z
theorem walkG {l : PySem.W.OpenLaw} {k : Nat} {q : Program} {loose : List Str} {XP : (Str → Option Value) → Heap → Prop} {YP : World → Heap → Prop} {d : DefRec} {K : Params → PySem.W.Frag} {x : Str}
    (hn : l.most = some 63) (hdf : d.params.defaults = []) (hr : Room k callerA)
    (hY : ∀ (w : World) (h : Heap), YP w h → (K w.params).In h)
    (F : ∀ (w : World) (mg : Str → Option Value) (fa : Addr) (h : Heap), (K w.params).In h → h.Ns mainGlobals mg → mg d.name = some (.ref fa) →
      ∃ fd : FuncData, (∀ (s : Shared) (u : Value), BindsTo s fd ⟨[u], []⟩ [(x, u)]) ∧
        ∀ base : Heap, (K w.params).In base → base.Ns mainGlobals mg → FnG l.prog w (K w.params) mg base k fa fd [x] (spLaw (K w.params))) :
    PySem.W.WalkO q loose XP YP l.row.toRowW d [] (fun f vs => PySem.call f vs) := by
  refine Att.attach_call hn hdf fun w s0 sA mg mb fa o pm cd doc a us zs G Y ho hd hcd hmg hobj hints hlen hg => ?_
  have kin := hY w _ Y
  obtain ⟨fd, hb, hF⟩ := F w mg fa _ kin G.T.g hmg
  exact callG kin G.T.g G.T.b G.T.builtins G.T.nolimit hg hobj hints (Nat.le_trans hlen (by decide)) hr hF hb fun H hS => ⟨a, zs, rfl, hS, hlen, fun _ => rfl⟩

/-! repr -/
def rRepr (K : PySem.W.Frag) : List V → Hp → VK → Prop := fun xs H Q => ∃ x d, xs = [x] ∧ Dp K H x d ∧ d.showable = true ∧ d.hasDict = false ∧ d.depth ≤ 60 ∧ d.shown.length ≤ sizeLine ∧ Q (.str d.shown) H
theorem cr_repr {X : Cx} (gd : X.A.guards = some []) (hu : X.A.units + 64 < cLine) : CallR X (.builtin "repr") (rRepr X.K) := fun pins s σ H xs us Q J r h => by
  obtain ⟨x, d, rfl, hd, hs, hn, hdep, hsz, q⟩ := h
  obtain ⟨u, rfl, ru⟩ := vals1 r
  have hd' := hd
  cases hd with
  | non => cases (show u = Value.none from ru); exact P.repr_of_none ⟨.str PyData.none.shown, H, J.tok _, ⟨_, rfl⟩, q⟩
  | bl b => cases (show u = Value.bool b from ru); exact P.repr_of_bool ⟨.str (PyData.bool b).shown, H, J.tok _, ⟨_, by cases b <;> rfl⟩, q⟩
  | int i =>
    obtain ⟨t, rfl⟩ := ru
    exact P.repr_of_int (by simpa [PyData.showable] using hs) ⟨.str (PyData.int i).shown, H, J.tok _, ⟨_, rfl⟩, q⟩
  | str z =>
    obtain ⟨t, rfl⟩ := ru
    exact P.repr_of_str ⟨.str (PyData.str z).shown, H, J.tok _, ⟨_, rfl⟩, q⟩ hsz
  | @lst a xs ds hq ha =>
    obtain ⟨as, rd⟩ := Dp.reads J _ _ u hd' ru
    cases (show u = Value.ref a from ru)
    exact repr_of_reads' rd hs (fun z => by rw [hn] at z; cases z) gd (by omega) (fun b o e => e) (fun h' u tk k => ⟨.str (PyData.list ds).shown, H, J.kept k, ⟨_, rfl⟩, q⟩) hsz
  | @tup a xs ds hq ha =>
    obtain ⟨as, rd⟩ := Dp.reads J _ _ u hd' ru
    cases (show u = Value.ref a from ru)
    exact repr_of_reads' rd hs (fun z => by rw [hn] at z; cases z) gd (by omega) (fun b o e => e) (fun h' u tk k => ⟨.str (PyData.tuple ds).shown, H, J.kept k, ⟨_, rfl⟩, q⟩) hsz
/-! the size of data -/
structure Sz (d : D) (k w : Nat) : Prop where
  lay : d.canLay0 = true
  sml : d.intsShort 13 = true
  shw : d.showable = true
  dep : d.depth ≤ k
  wt : d.weight ≤ w
theorem Sz.mono {d : D} {k w k' w' : Nat} (h : Sz d k w) (hk : k ≤ k') (hw : w ≤ w') : Sz d k' w' := ⟨h.lay, h.sml, h.shw, Nat.le_trans h.dep hk, Nat.le_trans h.wt hw⟩
theorem Sz.none : Sz .none 0 0 := ⟨rfl, rfl, rfl, Nat.le_refl _, Nat.le_refl _⟩
theorem Sz.bool (b : Bool) : Sz (.bool b) 0 0 := ⟨rfl, rfl, rfl, Nat.le_refl _, Nat.le_refl _⟩
theorem log2_small {n : Nat} (h : n < 10 ^ 12) : n.log2 < 40 := by
  by_cases hz : n = 0
  · subst hz; decide
  · exact (Nat.log2_lt hz).mpr (Nat.lt_of_lt_of_le h (by decide))
theorem Sz.int {i : Int} (h : i.natAbs < 10 ^ 12) : Sz (.int i) 0 40 := by
  have l := log2_small h
  refine ⟨rfl, by simp only [PyData.intsShort, decide_eq_true_eq]; exact PyData.shown_int_le h, by simp only [PyData.showable, decide_eq_true_eq]; omega, Nat.le_refl _, ?_⟩
  simp only [PyData.weight]
  split <;> omega
theorem Sz.str {z : Str} {n : Nat} (h : PyData.strOk z = true) (hn : z.cps.size ≤ n) : Sz (.str z) 0 n := ⟨by simpa only [PyData.canLay0] using h, rfl, rfl, Nat.le_refl _, by simpa only [PyData.weight] using hn⟩
theorem Sz.all {k w : Nat} : ∀ {ds : List D}, (∀ d ∈ ds, Sz d k w) → PyData.canLayAll0 ds = true ∧ PyData.intsShortAll 13 ds = true ∧ PyData.showableAll ds = true ∧ PyData.depthAll ds ≤ k ∧ PyData.weightAll ds ≤ ds.length * (w + 1)
  | [], _ => ⟨rfl, rfl, rfl, Nat.zero_le _, Nat.zero_le _⟩
  | d :: r, h => by
    obtain ⟨a1, a2, a3, a4, a5⟩ := h d List.mem_cons_self
    obtain ⟨b1, b2, b3, b4, b5⟩ := Sz.all (ds := r) fun e he => h e (List.mem_cons_of_mem _ he)
    refine ⟨by simp only [PyData.canLayAll0, a1, b1, Bool.and_self], by simp only [PyData.intsShortAll, a2, b2, Bool.and_self], by simp only [PyData.showableAll, a3, b3, Bool.and_self], ?_, ?_⟩
    · simp only [PyData.depthAll]; omega
    · simp only [PyData.weightAll, List.length_cons, Nat.add_mul]; omega
theorem Sz.tup {k w n : Nat} {ds : List D} (h : ∀ d ∈ ds, Sz d k w) (hn : ds.length ≤ n) : Sz (.tuple ds) (k + 1) (n * (w + 1)) := by
  obtain ⟨b1, b2, b3, b4, b5⟩ := Sz.all h
  exact ⟨by simpa only [PyData.canLay0] using b1, by simpa only [PyData.intsShort] using b2, by simpa only [PyData.showable] using b3, by simp only [PyData.depth]; omega, by simp only [PyData.weight]; exact Nat.le_trans b5 (Nat.mul_le_mul_right _ hn)⟩
theorem Sz.list {k w n : Nat} {ds : List D} (h : ∀ d ∈ ds, Sz d k w) (hn : ds.length ≤ n) : Sz (.list ds) (k + 1) (n * (w + 1)) := by
  obtain ⟨b1, b2, b3, b4, b5⟩ := Sz.all h
  exact ⟨by simpa only [PyData.canLay0] using b1, by simpa only [PyData.intsShort] using b2, by simpa only [PyData.showable] using b3, by simp only [PyData.depth]; omega, by simp only [PyData.weight]; exact Nat.le_trans b5 (Nat.mul_le_mul_right _ hn)⟩
theorem Sz.ok {d : D} {k w : Nat} (h : Sz d k w) (hk : k ≤ 60 := by decide) : okD d = true := by
  unfold okD SeqAt.shaped
  rw [h.lay, decide_eq_true (show d.depth ≤ 64 from Nat.le_trans h.dep (by omega))]
  rfl
def repOK (d : D) : Prop := ∃ k w, Sz d k w ∧ k ≤ 60 ∧ w ≤ 1048576
theorem Sz.rep {d : D} {k w : Nat} (h : Sz d k w) (hk : k ≤ 60 := by decide) (hw : w ≤ 1048576 := by decide) : repOK d := ⟨k, w, h, hk, hw⟩
theorem repOK.short {d : D} (h : repOK d) : d.shown.length ≤ sizeLine := by
  obtain ⟨k, w, h, hk, hw⟩ := h
  refine PyData.shown_fits_of_layable0 (B := 13) (by decide) (by decide) ?_ h.sml
  show (PyData.canLay0 d && decide (PyData.depth d ≤ 64) && decide (PyData.weight d ≤ 2 ^ 20)) = true
  rw [h.lay, decide_eq_true (show PyData.depth d ≤ 64 from Nat.le_trans h.dep (by omega)), decide_eq_true (show PyData.weight d ≤ 2 ^ 20 from Nat.le_trans h.wt (by omega))]
  rfl
/-- what is shown of data -/
def oRepr : List D → (D → Prop) → Prop := fun xs Q => match xs with | [d] => repOK d ∧ Q (.str d.shown) | _ => False
theorem ro_repr {K : PySem.W.Frag} : RfVL K (rRepr K) oRepr := ⟨fun R h q k => by
  unfold oRepr at q
  split at q
  · rename_i d
    obtain ⟨v, rfl, z⟩ := h.one
    obtain ⟨r, q⟩ := q
    have sh := r.short
    obtain ⟨dp, w, hz, hk, hw⟩ := r
    exact ⟨v, d, rfl, z.dp hz.lay, hz.shw, PyData.hasDict_of_canLay d hz.lay, Nat.le_trans hz.dep hk, sh, k _ _ _ q (stp_refl R) (.str _)⟩
  · exact q.elim⟩
theorem eqv_same {d : D} (h : okD d = true) : PyData.eqv d d = true := SeqAt.eqv_refl d (okD_lay h)
/-! how comprehensions and loops go -/
/-- one turn of a comprehension gives T -/
def Turns (g : D → Ev → (Ev → Prop) → Prop) (c : Ev → (Bool → Prop) → Prop) (e : Ev → (D → Prop) → Prop) (env : Ev) (d : D) (T : Option D → Prop) : Prop :=
  ∀ R : Option D → Prop, (∀ o, T o → R o) → g d env fun env1 => c env1 fun b => if b = true then e env1 fun x => R (some x) else R none
theorem lc_any {g : D → Ev → (Ev → Prop) → Prop} {c : Ev → (Bool → Prop) → Prop} {e : Ev → (D → Prop) → Prop} {env : Ev} (T : D → Option D → Prop) : ∀ {ds : List D} {Q : List D → Prop}, (∀ d ∈ ds, Turns g c e env d (T d)) →
    (∀ os : List (Option D), Paired T ds os → Q (os.filterMap id)) → lcD g c e ds env Q
  | [], Q, _, q => q [] .nil
  | d :: r, Q, h, q => h d List.mem_cons_self (fun o => match o with | some x => lcD g c e r env fun xs => Q (x :: xs) | none => lcD g c e r env Q) fun o t => by
    have ih : ∀ {Q' : List D → Prop}, (∀ os : List (Option D), Paired T r os → Q' (os.filterMap id)) → lcD g c e r env Q' := fun {Q'} q' => lc_any T (fun d' h' => h d' (List.mem_cons_of_mem _ h')) q'
    cases o with
    | some x => exact ih fun os hp => q (some x :: os) (.cons t hp)
    | none => exact ih fun os hp => q (none :: os) (.cons t hp)
theorem lc_fun {α : Type} {g : D → Ev → (Ev → Prop) → Prop} {c : Ev → (Bool → Prop) → Prop} {e : Ev → (D → Prop) → Prop} {env : Ev} (enc : α → D) (f : α → Option D) : ∀ {as : List α} {Q : List D → Prop},
    (∀ a ∈ as, ∀ R : Option D → Prop, R (f a) → g (enc a) env fun env1 => c env1 fun b => if b = true then e env1 fun x => R (some x) else R none) → Q (as.filterMap f) → lcD g c e (as.map enc) env Q
  | [], Q, _, q => q
  | a :: r, Q, h, q => h a List.mem_cons_self (fun o => match o with | some x => lcD g c e (r.map enc) env fun xs => Q (x :: xs) | none => lcD g c e (r.map enc) env Q) (by
    have ih : ∀ {Q' : List D → Prop}, Q' (r.filterMap f) → lcD g c e (r.map enc) env Q' := fun {Q'} q' => lc_fun enc f (fun d' h' => h d' (List.mem_cons_of_mem _ h')) q'
    cases hf : f a with
    | some x =>
      rw [List.filterMap_cons, hf] at q
      exact ih q
    | none =>
      rw [List.filterMap_cons, hf] at q
      exact ih q)
/-- a loop by what holds ahead of each turn -/
theorem loop_by {g : D → Ev → (Ev → Prop) → Prop} {body : DS} {Ed : Dd} (I : List D → Ev → Prop) (hd : ∀ env, I [] env → Ed.nx env)
    (hs : ∀ d r env (N : Ev → Prop), I (d :: r) env → (∀ env', I r env' → N env') → g d env fun env1 => body { nx := N, ct := N, bk := Ed.nx, rt := Ed.rt } env1) : ∀ ds env, I ds env → loopD g body Ed ds env
  | [], env, h => hd env h
  | d :: r, env, h => hs d r env _ h fun env' h' => loop_by I hd hs r env' h'
theorem zip_map {α β : Type} (f : α → D) (h : β → D) : ∀ (as : List α) (bs : List β), zipD (as.map f) (bs.map h) = (as.zip bs).map fun p => PyData.tuple [f p.1, h p.2]
  | [], _ => by simp [zipD]
  | _ :: _, [] => by simp [zipD]
  | a :: r, b :: s => by
    rw [List.map_cons, List.map_cons, List.zip_cons_cons, List.map_cons, zipD, zip_map f h r s]
theorem bools_map {α : Type} (f : α → Bool) : ∀ as : List α, boolsOf (as.map fun a => PyData.bool (f a)) = some (as.map f)
  | [] => rfl
  | a :: r => by
    rw [List.map_cons, boolsOf, bools_map f r]
    rfl
theorem ints_map {α : Type} (f : α → Int) : ∀ as : List α, intsOf (as.map fun a => PyData.int (f a)) = some (as.map f)
  | [] => rfl
  | a :: r => by
    rw [List.map_cons, intsOf, ints_map f r]
    rfl
theorem fm_some {α β : Type} (f : α → β) : ∀ as : List α, as.filterMap (fun a => some (f a)) = as.map f
  | [] => rfl
  | a :: r => by rw [List.filterMap_cons, List.map_cons, fm_some f r]
/-! enumerate of a tuple -/
def IteT (K : PySem.W.Frag) (a : Addr) : It :=
  ⟨fun i H => ∃ (zs : List V) (x : V), SqT K H a zs ∧ zs[i]? = some x, fun i H v H' => ∃ T x, v = .ref T ∧ H T = none ∧ H' = upd H T (.tup [.int (i : Nat), x]) ∧ ∀ zs, SqT K H a zs → zs[i]? = some x, fun i H => ∃ zs : List V, SqT K H a zs ∧ i = zs.length⟩
theorem tupne {h : Heap} {a it : Addr} {i : Nat} {us : Array Value} (p : h.IsTuple a us) (q : h.IsTupleIter it a i) : a ≠ it := by
  rintro rfl
  obtain ⟨o, e1, c1, _⟩ := p
  obtain ⟨o', e2, c2, _⟩ := q
  rw [e1] at e2
  cases e2
  rw [c1] at c2
  exact absurd c2 (by decide +kernel)
theorem enumne {h : Heap} {a e it : Addr} {k : Int} {old : Value} {us : Array Value} (p : h.IsTuple a us) (q : IsEnum h e it k old) : e ≠ a := by
  rintro rfl
  obtain ⟨o, e1, c1, _⟩ := p
  rw [show h.get? e = _ from q] at e1
  cases e1
  exact absurd (show (Value.type "enumerate") = Value.type "tuple" from c1) (by decide +kernel)
theorem turn_enumT {P : Program} {w : World} {K : PySem.W.Frag} {elts : List Expr} {kk : Nat} {tpos : Pos} (a e it : Addr) :
    Turn P w K (.Tuple elts kk tpos) (IteT K a) [e, it] e (fun i h => (∃ old, IsEnum h e it ((i : Nat) : Int) old) ∧ h.IsTupleIter it a i ∧ e ≠ it) where
  mem := List.mem_cons_self
  obj := fun i h st b hb => by
    obtain ⟨⟨old, he⟩, ⟨o, ho, _, hd⟩, _⟩ := st
    simp only [List.mem_cons, List.not_mem_nil, or_false] at hb
    rcases hb with rfl | rfl
    · exact ⟨_, he, fun v z => nomatch z⟩
    · exact ⟨o, ho, fun v z => by rw [hd] at z; cases z⟩
  keep := fun i h h' ⟨⟨old, he⟩, hi, hne⟩ k => ⟨⟨old, k e (by simp) _ he⟩, hi.at fun o z => k it (by simp) o z, hne⟩
  item := by
    intro X hP hw hK hc i pins s σ H E J hf ⟨⟨old, he⟩, hit, hne⟩ ⟨zs, x, hq, hx⟩
    subst hP hw hK
    obtain ⟨its, rv, p, hz⟩ := J.tuple hq
    have p' : s.heap.IsTuple a its.toArray := p
    obtain ⟨u, hu, ru⟩ := rv.get hx
    have hil : i < its.toArray.size := by rw [List.size_toArray]; exact (List.getElem?_eq_some_iff.mp hu).1
    have lt_e : e < s.heap.objs.size := Heap.lt_size he
    have lt_it : it < s.heap.objs.size := by obtain ⟨_, z, _⟩ := hit; exact Heap.lt_size z
    refine wpAny_pyNext_enum_itemD (PySem.Draws.tuple (prog := X.prog) (w := X.w) (A := X.A.in1) (J.ok.hd hc) it a (tupne p' hit) its.toArray) he ⟨hit, p'⟩ hil hne (by simp only [List.mem_cons, List.not_mem_nil, or_false]; exact fun z => z.elim hne (enumne p' he)) fun x' h1 tk px ho st1 hT hsz hk => ?_
    rw [List.getElem?_toArray, hu] at px
    cases px
    refine ⟨_, rfl, wpAny_letOwnedTupleGo_enum (s := { s with heap := h1, toks := tk + 1 }) ho fun h2 he2 sb => ?_⟩
    have hT2 : h2.get? s.heap.objs.size = some { cls := .type "tuple", data := .seq #[.int i tk, u] } := (sb.2 _ (Nat.ne_of_gt lt_e)).trans hT
    have new : ObjOk X.prog X.w (upd H s.heap.objs.size (.tup [.int (i : Nat), x])) h2 s.heap.objs.size (.tup [.int (i : Nat), x]) := ⟨by show 2 ≤ sizeLine; decide, [.int i tk, u], .cons ⟨_, rfl⟩ (.cons ru .nil), ⟨_, hT2, rfl, _, rfl⟩⟩
    have J2 : Inv X pins σ (upd H s.heap.objs.size (.tup [.int (i : Nat), x])) { s with heap := h2, toks := tk + 1 } :=
      J.turnedNew (ch := [e, it]) (fun b ob hb z => (sb.2 b (fun y => hb (by simp [y]))).trans (hk b ob (fun y => hb (by simp [y])) (fun y => hb (by simp [y])) z)) hf (Nat.le_refl _) new
    refine ⟨.ref s.heap.objs.size, _, J2, rfl, ⟨_, x, rfl, J.hok.fresh (Nat.le_refl _), rfl, fun ys hy => by rw [J.tuple_inj hy hq]; exact hx⟩, ⟨⟨u, ?_⟩, st1.1.at fun o z => (sb.2 it (Ne.symm hne)).trans z, hne⟩, fun b hb => ?_⟩
    · rw [show ((i + 1 : Nat) : Int) = (i : Int) + 1 by omega]
      exact he2
    · have lb : b < s.heap.objs.size := by
        simp only [List.mem_cons, List.not_mem_nil, or_false] at hb
        rcases hb with rfl | rfl
        · exact lt_e
        · exact lt_it
      rw [upd_ne (Nat.ne_of_lt lb)]
      exact (hf b hb).1
  done := by
    intro X hP hw hK hc i pins s σ H E J hf ⟨⟨old, he⟩, hit, hne⟩ ⟨zs, hq, hx⟩
    subst hP hw hK
    obtain ⟨its, rv, p, hz⟩ := J.tuple hq
    have p' : s.heap.IsTuple a its.toArray := p
    obtain ⟨f0, f1, f2, f3, f4, f5⟩ := hf it (by simp)
    have hl := rv.length
    obtain rfl : i = its.toArray.size := by rw [List.size_toArray]; omega
    exact wpAny_pyNext_enum_endD (PySem.Draws.tuple (prog := X.prog) (w := X.w) (A := X.A.in1) (J.ok.hd hc) it a (tupne p' hit) its.toArray) he ⟨hit, p'⟩ fun h1 eb => ⟨rfl, J.turned (t' := s.toks) (fun b o hb z => eb b o hb z) f0 f1 f3 f4 f5⟩
  self := fun A i s Q E st h => let ⟨⟨_, he⟩, _⟩ := st; wpAny_pyIter_enum he h
set_option maxHeartbeats 4000000 in
theorem meets_enumT (a : Addr) (us : Array Value) (o : Obj) (hc : o.cls = .type "tuple") (n : Nat) (hd : o.data = .seq us n) :
    Meets (Builtin.«enumerate.__new__» ⟨[.type "enumerate", .ref a], []⟩) (fun _ R s => s.heap.get? a = some o ∧
      R (.ok (.ret (.ref (s.heap.push { cls := .type "tuple_iterator", data := .fields #[.ref a, .int 0 0] }).objs.size)))
        { s with heap := (s.heap.push { cls := .type "tuple_iterator", data := .fields #[.ref a, .int 0 0] }).push { cls := .type "enumerate", data := .fields #[.none, .bool false, .ref s.heap.objs.size, rawInt 0, .none, .none] } }) :=   .of_wp fun prog w A R s ⟨hl, h⟩ => by
    obtain ⟨hp, g, d, tk, os⟩ := s
    obtain ⟨c, dct, dt, sl⟩ := o
    replace hc : c = .type "tuple" := hc
    replace hd : dt = .seq us n := hd
    subst hc hd
    have hsub := sub_enumerate
    have tp : Heap.IsTuple (Shared.heap ⟨hp, g, d, tk, os⟩) a us := ⟨_, hl, rfl, n, rfl⟩
    wp_walk using AutoSeq1.wpAny_loadPart' hl
    refine wpAny_stack_any fun st => wpAny_pure ?_
    split
    · rename_i c2 _ _ _ _ _
      cases (c2 == Value.type "enumerate") <;> (wp_walk using AutoSeq1.wpAny_loadPart' hl, wpAny_pyIter_tuple tp; exact ⟨_, rfl, h⟩)
    · wp_walk using AutoSeq1.wpAny_loadPart' hl, wpAny_pyIter_tuple tp
      exact ⟨_, rfl, h⟩
theorem call_enumT {prog : Program} {w : World} {A : Around} {E : Value → Shared → Prop} {s : Shared} {a : Addr} {us : Array Value} {Q : Value → Shared → Prop} (hT : s.heap.IsTuple a us)
    (h : ∀ h1, IsEnum h1 (s.heap.objs.size + 1) s.heap.objs.size 0 .none → h1.IsTupleIter s.heap.objs.size a 0 → h1.objs.size = s.heap.objs.size + 2 → (∀ b o, s.heap.get? b = some o → h1.get? b = some o) → Q (.ref (s.heap.objs.size + 1)) { s with heap := h1 }) :
    wpAny (model prog w) A (call (.type "enumerate") [.ref a]) Q E s := by
  obtain ⟨o, hl, hc, n, hd⟩ := hT
  refine callType_new F.called_enumerate (by decide) (F.typeCall_enumerate_1 _) (F.newCall_enumerate_1 _) (fun obj => F.args_object_init_2 obj _) F.entry_enumerate_new (meets_enumT a us o hc n hd) ⟨hl, ?_⟩
  have sz : (s.heap.push { cls := .type "tuple_iterator", data := .fields #[.ref a, .int 0 0] }).objs.size = s.heap.objs.size + 1 := Heap.size_push ..
  show _ ∧ _
  rw [sz]
  have new : IsEnum ((s.heap.push { cls := .type "tuple_iterator", data := .fields #[.ref a, .int 0 0] }).push { cls := .type "enumerate", data := .fields #[.none, .bool false, .ref s.heap.objs.size, rawInt 0, .none, .none] }) (s.heap.objs.size + 1) s.heap.objs.size 0 .none := by
    have z := Heap.get?_push_size (s.heap.push { cls := .type "tuple_iterator", data := .fields #[.ref a, .int 0 0] }) (o := { cls := .type "enumerate", data := .fields #[.none, .bool false, .ref s.heap.objs.size, rawInt 0, .none, .none] }) rfl
    rw [sz] at z
    exact z
  exact ⟨⟨_, new, rfl⟩, h _ new ⟨_, Heap.get?_push_of_some _ (Heap.get?_push_size _ rfl), rfl, rfl⟩ (by rw [Heap.size_push, sz]) fun b o z => Heap.get?_push_of_some _ (Heap.get?_push_of_some _ z)⟩
def iEnumT (K : PySem.W.Frag) (ta : TA) : TI := fun σ H R => ta σ H fun vs H1 => ∃ a zs, vs = [.ref a] ∧ SqT K H1 a zs ∧ R (IteT K a) H1
theorem pi_enumT {X : Cx} {e : Expr} {ta : TA} {p pos tpos : Pos} {elts : List Expr} {kk : Nat} (hg : Gl X "enumerate") (hm : X.mg "enumerate" = none) (ha : PA X [e] ta) (hs : starEach [e] X.env = [(false, eval e X.env)] := by rfl) :
    PI X (.Tuple elts kk tpos) (.Call (.Name "enumerate" p) [e] [] pos) (iEnumT X.K ta) := ⟨fun pins s σ H R J h => by
  refine Call_ (ld_blt J hg hm boot_enumerate (PyProof.Rows.callWith_type1 (thn (ha.run pos pins s σ H _ J h) fun us s2 ⟨vs, H2, J2, r2, a, zs, ex, hq, q⟩ => ?_) hs rfl))
  subst ex
  cases r2 with
  | cons r rr =>
    cases rr
    cases r
    obtain ⟨its, rv, p', hz⟩ := J2.tuple hq
    refine call_enumT p' fun h1 he hit hsz hk => wpAny_pyIter_enum he ?_
    have J3 : Inv X pins σ H2 { s2 with heap := h1 } := J2.kept (t' := s2.toks) hk
    refine ⟨s2.heap.objs.size + 1, [s2.heap.objs.size + 1, s2.heap.objs.size], _, _, H2, rfl, J3, turn_enumT a (s2.heap.objs.size + 1) s2.heap.objs.size, ⟨⟨.none, he⟩, hit, Nat.succ_ne_self _⟩, fun b hb => ?_, q⟩
    have hle : s2.heap.objs.size ≤ b := by
      simp only [List.mem_cons, List.not_mem_nil, or_false] at hb
      rcases hb with rfl | rfl
      · exact Nat.le_succ _
      · exact Nat.le_refl _
    exact J2.fpOk hle (J2.hok.fresh hle)⟩
section
variable {K : PySem.W.Frag}
theorem iteT_ok {a : Addr} {xs : List V} {ds : List D} {M : Addr → Prop} {H : Hp} (h : TupAt K H M a xs) (r : RepL K H M ds xs) : ItOk K (IteT K a) (enumD 0 ds) M H := fun M' H' t al i => by
  have g1 := (h.to t).sq
  refine ⟨fun l => ⟨xs, g1, by rw [enumD_len, r.len] at l; exact l⟩, fun d e => ?_⟩
  obtain ⟨x, e1, rfl⟩ := enumD_get e
  obtain ⟨v, ev, rv⟩ := r.get e1
  refine ⟨⟨xs, v, g1, ev⟩, fun x' H2 ⟨T, x1, z1, z2, z3, z4⟩ => ?_⟩
  subst z1 z3
  have w1 := z4 xs g1
  rw [ev] at w1
  cases w1
  rw [Nat.zero_add]
  exact ⟨same_upd z2, pair_rep z2 al (.int _) (Rep.to t rv)⟩
def dEnumT (da : Ev → (List D → Prop) → Prop) : Ev → (List D → Prop) → Prop := fun env Q => da env fun xs => match xs with | [.tuple a] => Q (enumD 0 a) | _ => False
theorem ri_enumT {n : Nat} {t : TA} {da : Ev → (List D → Prop) → Prop} (h : RfN K n t da) : RfI K (iEnumT K t) (dEnumT da) := ⟨fun R q k => h.run R q fun ds vs H1 q1 _ s1 r1 => by
  split at q1
  · cases r1 with | cons h1 r1 =>
    cases r1
    cases h1 with | tup h1 r1 =>
    exact ⟨_, _, rfl, h1.sq, k _ _ _ q1 s1 (iteT_ok h1 r1)⟩
  · exact q1.elim⟩
/-! two names at once, one of them owning a new list -/
def dParO1 (i j : Nat) (df : Ev → (List D → Prop) → Prop) (de : Ev → (D → Prop) → Prop) : DS := fun Ed env => i < env.length ∧ i ≠ j ∧ df env fun ds => de env fun x => Ed.nx (eset (eset env i (some (.own ds))) j (some (.d x)))
/-- a new list is shut while more is made -/
theorem RE.shut {A : Addr → Prop} {st : Option (Addr × Addr)} {ow : Nat → Option Addr} {σ : L2.St} {H H1 : Hp} {env : Ev} (R : RE K A st ow σ H env) (s1 : Stp st H H1) {L : Addr} {vs : List V} (n : H L = none) (e : H1 L = some (.lst vs)) : RE K (fun b => A b ∨ b = L) st ow σ H1 env := by
  have R1 := R.step s1
  refine ⟨R1.ls, fun a z => z.elim (R1.dom a) fun y => (by rw [y, e]; intro z; cases z), fun q z => ⟨.inl (R1.sta q z).1, .inl (R1.sta q z).2⟩, R1.al, fun j a z y => y.elim (R1.na j a z) fun w => R.al j a z (w ▸ n), R1.inj, R1.tie, R1.len, fun j' e' he' => ?_⟩
  obtain ⟨u, hu, rr⟩ := R.sl j' e' he'
  have t : To H H1 (Mo A ow) (Mo (fun b => A b ∨ b = L) ow) := ⟨fun b o x m => ⟨((R.toS s1).h b o x m).1, fun z => by
    rcases z with (z | z) | z
    · exact m (.inl z)
    · rw [z, n] at x; cases x
    · exact m (.inr z)⟩⟩
  refine ⟨u, hu, ?_⟩
  cases e' with
  | d x => exact Rep.to t rr
  | own ds =>
    obtain ⟨a, vs, h1, h2, h3, h4⟩ := rr
    exact ⟨a, vs, h1, h2, s1.k a _ h3 fun z => R.na j' a h1 (R.exA a z), RepL.to t h4⟩
  | odk ds =>
    obtain ⟨a, vs, h1, h2, h3, h4⟩ := rr
    exact ⟨a, vs, h1, h2, s1.k a _ h3 fun z => R.na j' a h1 (R.exA a z), RepK.to t h4⟩
  | st => exact rr
theorem owPut_fr {A : Addr → Prop} {st : Option (Addr × Addr)} {H0 H : Hp} {ow : Nat → Option Addr} {σ : L2.St} {env : Ev} (B : BE K A st H0 ow σ H env) {i : Nat} {L : Addr} (n : H L = none) : ∀ j a, owPut ow i L j = some a → H0 a = none := fun j a h => by
  unfold owPut at h
  split at h
  · cases h
    cases z : H0 L with
    | none => rfl
    | some o => rw [B.kp L o z fun y => B.r.ls.ne L y n] at n; cases n
  · exact B.fr j a h
theorem rs_parO1 (i j : Nat) {ta tb : TE} {df : Ev → (List D → Prop) → Prop} {de : Ev → (D → Prop) → Prop} (h : RfF K ta df) (hb : RfE K tb de) : RfS K (tPar i j (tCons ta (tCons tb tNil))) (dParO1 i j df de) := ⟨fun {A st H0 ow σ H env Ed E} B ⟨hi, hij, q⟩ k =>
  h.run B.r q fun ds L vs H1 q1 s1 n e r => by
    have nL : L ∉ exs st := fun z => B.r.ls.ne L z n
    have SH := B.r.shut s1 n e
    refine hb.run SH q1 fun x v H2 q2 s2 r2 => ?_
    have e2 : H2 L = some (.lst vs) := s2.k L _ e nL
    have s12 := s1.trans s2
    have t1 := own_to B.r s12 i n
    have sub : ∀ b, Mo A (owPut ow i L) b → Mo (fun b => A b ∨ b = L) ow b := fun b z => (owPut_sub z).elim (fun y => y.elim (fun y => .inl (.inl y)) .inr) fun y => .inl (.inr y)
    have r3 : RepL K H2 (Mo A (owPut ow i L)) ds vs := RepL.to ((to_less (M' := Mo (fun b => A b ∨ b = L) ow) fun b z => by
      rcases z with (z | z) | z
      · exact .inl (.inl z)
      · exact .inr z
      · exact .inl (.inr z)).trans ((SH.toS s2).trans (to_less sub))) r
    have B1 : BE K A st H0 (owPut ow i L) (σ.set i (some (.ref L))) H2 (eset env i (some (.own ds))) :=
      ⟨B.r.own s12 i n e2 (en := .own ds) ⟨L, vs, by unfold owPut; rw [if_pos rfl], rfl, e2, r3⟩ (.inl ⟨ds, rfl⟩) hi, B.kp.trans s12.k, owPut_fr B n⟩
    exact ⟨_, _, rfl, k.nx _ _ _ _ q2 (B1.put j (Rep.to (to_less sub) r2)) (t1.trans (to_del _ _ _ _))⟩⟩
def dParO2 (i j : Nat) (de : Ev → (D → Prop) → Prop) (df : Ev → (List D → Prop) → Prop) : DS := fun Ed env => j < env.length ∧ de env fun x => df env fun ds => Ed.nx (eset (eset env i (some (.d x))) j (some (.own ds)))
theorem rs_parO2 (i j : Nat) {ta tb : TE} {df : Ev → (List D → Prop) → Prop} {de : Ev → (D → Prop) → Prop} (h : RfE K ta de) (hb : RfF K tb df) : RfS K (tPar i j (tCons ta (tCons tb tNil))) (dParO2 i j de df) := ⟨fun {A st H0 ow σ H env Ed E} B ⟨hj, q⟩ k =>
  h.run B.r q fun x v H1 q1 s1 r1 => hb.run (B.r.step s1) q1 fun ds L vs H2 q2 s2 n e r => by
    have s12 := s1.trans s2
    have n0 := s1.none n
    have r1' : Rep K H2 (Mo A ow) x v := Rep.to ((B.r.step s1).toS s2) r1
    -- the slot i first
    have B1 := (B.step s1).put i r1
    have t0 : To H H1 (Mo A ow) (Mo A (owDel ow i)) := (B.r.toS s1).trans (to_del _ _ _ _)
    have t1 := own_to B1.r s2 j n
    have subD : ∀ b, Mo A (owDel ow i) b → Mo A ow b := fun b => Mo.sub fun j a e => (owDel_sub e).1
    refine ⟨_, _, rfl, k.nx _ _ _ _ q2 ⟨B1.r.own s2 j n e (en := .own ds) ⟨L, vs, by unfold owPut; rw [if_pos rfl], rfl, e, RepL.to (to_less fun b z => (owPut_sub z).imp (subD b) id) r⟩ (.inl ⟨ds, rfl⟩) (by unfold eset; rw [List.length_set]; exact hj), B1.kp.trans s2.k, owPut_fr B1 n⟩ (t0.trans t1)⟩⟩
end
theorem enum_map {α : Type} (f : α → D) : ∀ (as : List α) (k : Nat), enumD k (as.map f) = (as.zipIdx k).map fun p => PyData.tuple [.int (p.2 : Nat), f p.1]
  | [], _ => rfl
  | a :: r, k => by
    rw [List.map_cons, List.zipIdx_cons, List.map_cons, enumD, enum_map f r (k + 1)]
section
variable {K : PySem.W.Frag}
/-- a written dict of the top, asked by a text -/
def dKd (tab : List (Str × D)) (db : Ev → (D → Prop) → Prop) : Ev → (D → Prop) → Prop := fun env Q => db env fun y => match y with
  | .str z => (match tab.lookup z with | some d => Q d | none => False)
  | _ => False
theorem look_mem {α : Type} : ∀ {tab : List (Str × α)} {z : Str} {d : α}, tab.lookup z = some d → (z, d) ∈ tab
  | [], _, _, h => by cases h
  | (k, e) :: r, z, d, h => by
    rw [List.lookup_cons] at h
    by_cases c : z = k
    · subst c
      simp at h
      subst h
      exact List.mem_cons_self
    · have : (z == k) = false := by simpa using c
      rw [this] at h
      exact List.mem_cons_of_mem _ (look_mem h)
theorem re_kd {w : World} {a : Addr} {tb : TE} {db : Ev → (D → Prop) → Prop} (tab : List (Str × D)) (ht : ∀ p ∈ tab, ∃ v, KDct K w a p.1 v ∧ Sc p.2 v) (hb : RfB K tb db) : RfE K (tOp (rIxD K w) (tC (.ref a)) tb) (dKd tab db) := ⟨fun R q k =>
  hb.run R q fun y u H1 q1 s1 r1 => by
    split at q1
    · rename_i z
      cases r1.str
      split at q1
      · rename_i d e
        obtain ⟨v, h1, h2⟩ := ht _ (look_mem e)
        exact ⟨a, z, v, rfl, rfl, h1, k d v H1 q1 s1 h2.rep⟩
      · exact q1.elim
    · exact q1.elim⟩
end
theorem cut_lo {α : Type} (xs : List α) {i : Int} (h : 0 ≤ i) : cutD xs none (some i) = xs.take i.toNat := by
  obtain ⟨n, rfl⟩ := Int.eq_ofNat_of_zero_le h
  unfold cutD
  rw [HT.sIx_none, HT.sIx_nat, List.drop_zero, Nat.sub_zero]
  by_cases h2 : n ≤ xs.length
  · rw [Nat.min_eq_left h2]; rfl
  · rw [Nat.min_eq_right (by omega), List.take_length]
    exact (List.take_of_length_le (by omega)).symm
theorem cut_hi {α : Type} (xs : List α) {i : Int} (h : 0 ≤ i) : cutD xs (some i) none = xs.drop i.toNat := by
  obtain ⟨n, rfl⟩ := Int.eq_ofNat_of_zero_le h
  unfold cutD
  rw [HT.sIx_none, HT.sIx_nat]
  by_cases h2 : n ≤ xs.length
  · rw [Nat.min_eq_left h2]
    exact List.take_of_length_le (by rw [List.length_drop]; exact Nat.le_refl _)
  · rw [Nat.min_eq_right (by omega), List.drop_length, Nat.sub_self, List.take_zero]
    exact (List.drop_of_length_le (by omega)).symm
theorem set_cut {α : Type} {xs : List α} {n : Nat} {x : α} (h : n < xs.length) : xs.take n ++ [x] ++ xs.drop (n + 1) = xs.set n x := by
  rw [List.set_eq_take_append_cons_drop, if_pos h, List.append_assoc]
  rfl
theorem decT {p : Prop} [Decidable p] (h : p) : decide p = true := decide_eq_true h
/-- a draw -/
theorem rng_eq (n : Nat) : rng 0 n = (List.range n).map fun i => PyData.int (i : Nat) := by
  unfold rng
  simp
theorem rng_1 : rng 0 (Int.toNat 1) = [.int 0] := rfl
theorem rng_2 : rng 0 (Int.toNat 2) = [.int 0, .int 1] := rfl
theorem rng_3 : rng 0 (Int.toNat 3) = [.int 0, .int 1, .int 2] := rfl
theorem rng_4 : rng 0 (Int.toNat 4) = [.int 0, .int 1, .int 2, .int 3] := rfl
theorem rng_6 : rng 0 (Int.toNat 6) = [.int 0, .int 1, .int 2, .int 3, .int 4, .int 5] := rfl
theorem rng_len (n : Nat) : (rng 0 n).length = n := by unfold rng; rw [List.length_map, List.length_range]
/-- one of a written row -/
theorem dix_all {ds : List D} {r : Int} {Q : D → Prop} (h0 : 0 ≤ r) (h1 : r < ds.length) (h : ∀ d ∈ ds, Q d) : match dix ds r with | some d => Q d | none => False := by
  have hl : r.toNat < ds.length := by omega
  rw [dix_nn h0 (List.getElem?_eq_getElem hl)]
  exact h _ (List.getElem_mem hl)
theorem dix_two {a b : D} {r : Int} {Q : D → Prop} (h0 : 0 ≤ r) (h1 : r < 2) (ha : Q a) (hb : Q b) : match dix [a, b] r with | some d => Q d | none => False :=   dix_all h0 h1 fun d h => by simp at h; rcases h with rfl | rfl <;> assumption
theorem dix_three {a b c : D} {r : Int} {Q : D → Prop} (h0 : 0 ≤ r) (h1 : r < 3) (ha : Q a) (hb : Q b) (hc : Q c) : match dix [a, b, c] r with | some d => Q d | none => False :=   dix_all h0 h1 fun d h => by simp at h; rcases h with rfl | rfl | rfl <;> assumption
/-- one of a written row of numbers -/
theorem dix_ints {ns : List Int} {r : Int} {Q : D → Prop} (h0 : 0 ≤ r) (h1 : r < ns.length) (h : ∀ n ∈ ns, Q (.int n)) : match dix (ns.map PyData.int) r with | some d => Q d | none => False :=   dix_all h0 (by rw [List.length_map]; exact h1) fun d hd => by
    obtain ⟨n, hn, rfl⟩ := List.mem_map.mp hd
    exact h n hn
/-- a row that is drawn item by item -/
theorem lc_draws {g : D → Ev → (Ev → Prop) → Prop} {c : Ev → (Bool → Prop) → Prop} {e : Ev → (D → Prop) → Prop} {env : Ev} (T : D → Prop) {ds : List D} {Q : List D → Prop}
    (h : ∀ d ∈ ds, ∀ R : Option D → Prop, (∀ x, T x → R (some x)) → g d env fun env1 => c env1 fun b => if b = true then e env1 fun x => R (some x) else R none)
    (q : ∀ xs : List D, xs.length = ds.length → (∀ x ∈ xs, T x) → Q xs) : lcD g c e ds env Q := by
  refine lc_any (fun _ o => ∃ x, T x ∧ o = some x) (fun d hd R hR => h d hd R fun x tx => hR _ ⟨x, tx, rfl⟩) fun os hp => ?_
  have key : ∀ {ds : List D} {os : List (Option D)}, Paired (fun (_ : D) o => ∃ x, T x ∧ o = some x) ds os → (os.filterMap id).length = ds.length ∧ ∀ x ∈ os.filterMap id, T x := by
    intro ds os hp
    induction hp with
    | nil => exact ⟨rfl, fun _ h => nomatch h⟩
    | cons t _ ih =>
      obtain ⟨x, tx, rfl⟩ := t
      rw [List.filterMap_cons]
      exact ⟨congrArg (· + 1) ih.1, fun y hy => (List.mem_cons.mp hy).elim (fun z => z ▸ tx) (ih.2 y)⟩
  exact q _ (key hp).1 (key hp).2
/-! sizes of written rows -/
theorem szn {k w : Nat} : ∀ d ∈ ([] : List D), Sz d k w := fun _ h => nomatch h
theorem szc {d : D} {ds : List D} {k w : Nat} (h : Sz d k w) (hs : ∀ d ∈ ds, Sz d k w) : ∀ e ∈ d :: ds, Sz e k w := fun e he => (List.mem_cons.mp he).elim (fun z => z ▸ h) (hs e)
theorem sI {i : Int} {k w : Nat} (h1 : -1000000000000 < i) (h2 : i < 1000000000000) (hw : 40 ≤ w := by decide) : Sz (.int i) k w := (Sz.int (by omega)).mono (Nat.zero_le _) hw
theorem sBl {b : Bool} {k w : Nat} : Sz (.bool b) k w := (Sz.bool b).mono (Nat.zero_le _) (Nat.zero_le _)
theorem sNo {k w : Nat} : Sz .none k w := Sz.none.mono (Nat.zero_le _) (Nat.zero_le _)
theorem sS {z : Str} {k w : Nat} (h : (PyData.strOk z && decide (z.cps.size ≤ 40)) = true) (hw : 40 ≤ w := by decide) : Sz (.str z) k w := by
  rw [Bool.and_eq_true] at h
  exact (Sz.str h.1 (of_decide_eq_true h.2)).mono (Nat.zero_le _) hw
theorem sT {ds : List D} {k w n k' w' : Nat} (h : ∀ d ∈ ds, Sz d k w) (hn : ds.length ≤ n) (hk : k + 1 ≤ k' := by decide) (hw : n * (w + 1) ≤ w' := by decide) : Sz (.tuple ds) k' w' := (Sz.tup h hn).mono hk hw
theorem sL {ds : List D} {k w n k' w' : Nat} (h : ∀ d ∈ ds, Sz d k w) (hn : ds.length ≤ n) (hk : k + 1 ≤ k' := by decide) (hw : n * (w + 1) ≤ w' := by decide) : Sz (.list ds) k' w' := (Sz.list h hn).mono hk hw
/-! isinstance of each kind -/
theorem it_bool_none  : isTy "bool" .none = false := by simp [isTy]
theorem it_bool_bool {x : Bool} : isTy "bool" (.bool x) = true := by simp [isTy]
theorem it_bool_int {x : Int} : isTy "bool" (.int x) = false := by simp [isTy]
theorem it_bool_str {x : Str} : isTy "bool" (.str x) = false := by simp [isTy]
theorem it_bool_list {x : List D} : isTy "bool" (.list x) = false := by simp [isTy]
theorem it_bool_tuple {x : List D} : isTy "bool" (.tuple x) = false := by simp [isTy]
theorem it_bool_dict {x : List (D × D)} : isTy "bool" (.dict x) = false := by simp [isTy]
theorem it_int_none  : isTy "int" .none = false := by simp [isTy]
theorem it_int_bool {x : Bool} : isTy "int" (.bool x) = true := by simp [isTy]
theorem it_int_int {x : Int} : isTy "int" (.int x) = true := by simp [isTy]
theorem it_int_str {x : Str} : isTy "int" (.str x) = false := by simp [isTy]
theorem it_int_list {x : List D} : isTy "int" (.list x) = false := by simp [isTy]
theorem it_int_tuple {x : List D} : isTy "int" (.tuple x) = false := by simp [isTy]
theorem it_int_dict {x : List (D × D)} : isTy "int" (.dict x) = false := by simp [isTy]
theorem it_str_none  : isTy "str" .none = false := by simp [isTy]
theorem it_str_bool {x : Bool} : isTy "str" (.bool x) = false := by simp [isTy]
theorem it_str_int {x : Int} : isTy "str" (.int x) = false := by simp [isTy]
theorem it_str_str {x : Str} : isTy "str" (.str x) = true := by simp [isTy]
theorem it_str_list {x : List D} : isTy "str" (.list x) = false := by simp [isTy]
theorem it_str_tuple {x : List D} : isTy "str" (.tuple x) = false := by simp [isTy]
theorem it_str_dict {x : List (D × D)} : isTy "str" (.dict x) = false := by simp [isTy]
theorem it_list_none  : isTy "list" .none = false := by simp [isTy]
theorem it_list_bool {x : Bool} : isTy "list" (.bool x) = false := by simp [isTy]
theorem it_list_int {x : Int} : isTy "list" (.int x) = false := by simp [isTy]
theorem it_list_str {x : Str} : isTy "list" (.str x) = false := by simp [isTy]
theorem it_list_list {x : List D} : isTy "list" (.list x) = true := by simp [isTy]
theorem it_list_tuple {x : List D} : isTy "list" (.tuple x) = false := by simp [isTy]
theorem it_list_dict {x : List (D × D)} : isTy "list" (.dict x) = false := by simp [isTy]
theorem it_tuple_none  : isTy "tuple" .none = false := by simp [isTy]
theorem it_tuple_bool {x : Bool} : isTy "tuple" (.bool x) = false := by simp [isTy]
theorem it_tuple_int {x : Int} : isTy "tuple" (.int x) = false := by simp [isTy]
theorem it_tuple_str {x : Str} : isTy "tuple" (.str x) = false := by simp [isTy]
theorem it_tuple_list {x : List D} : isTy "tuple" (.list x) = false := by simp [isTy]
theorem it_tuple_tuple {x : List D} : isTy "tuple" (.tuple x) = true := by simp [isTy]
theorem it_tuple_dict {x : List (D × D)} : isTy "tuple" (.dict x) = false := by simp [isTy]
theorem it_dict_none  : isTy "dict" .none = false := by simp [isTy]
theorem it_dict_bool {x : Bool} : isTy "dict" (.bool x) = false := by simp [isTy]
theorem it_dict_int {x : Int} : isTy "dict" (.int x) = false := by simp [isTy]
theorem it_dict_str {x : Str} : isTy "dict" (.str x) = false := by simp [isTy]
theorem it_dict_list {x : List D} : isTy "dict" (.list x) = false := by simp [isTy]
theorem it_dict_tuple {x : List D} : isTy "dict" (.tuple x) = false := by simp [isTy]
theorem it_dict_dict {x : List (D × D)} : isTy "dict" (.dict x) = true := by simp [isTy]
theorem eqv_nf {a b : D} (hb : okD b = true) (e : a = b) : ¬ PyData.eqv a b = false := by
  subst e
  rw [eqv_same hb]
  exact Bool.noConfusion
theorem ite_nf {a b : D} {X Y : Prop} (hb : okD b = true) (e : a = b) (h : Y) : if PyData.eqv a b = false then X else Y := by
  rw [if_neg (eqv_nf hb e)]
  exact h
theorem bool_eqv {a b : D} (hb : okD b = true) (e : a = b) : PyData.bool (PyData.eqv a b) = PyData.bool true := by
  subst e
  rw [eqv_same hb]
def topS (i : Nat) : Stmt := PySem.Challenge.pw_onepolicy_k78_points_of_packets.main.body.getD i (.Pass ⟨0, 0, 0, 0⟩)
abbrev s_way_of : Stmt := topS 2
abbrev Ns_way_of : List Str := ["packet", "body"]
theorem x_way_of : FnScope Ns_way_of ["packet"] (defScope s_way_of) := ⟨rfl, rfl, rfl, by decide +kernel, rfl, by decide +kernel, by decide +kernel⟩
abbrev s_way_of_stub : Stmt := topS 3
abbrev Ns_way_of_stub : List Str := ["stub"]
theorem x_way_of_stub : FnScope Ns_way_of_stub ["stub"] (defScope s_way_of_stub) := ⟨rfl, rfl, rfl, by decide +kernel, rfl, by decide +kernel, by decide +kernel⟩
abbrev s_way_between : Stmt := topS 4
abbrev Ns_way_between : List Str := ["source", "target", "part"]
theorem x_way_between : FnScope Ns_way_between ["source", "target", "part"] (defScope s_way_between) := ⟨rfl, rfl, rfl, by decide +kernel, rfl, by decide +kernel, by decide +kernel⟩
abbrev s_turned : Stmt := topS 5
abbrev Ns_turned : List Str := ["way", "kind", "source", "source_port", "target", "target_port"]
theorem x_turned : FnScope Ns_turned ["way"] (defScope s_turned) := ⟨rfl, rfl, rfl, by decide +kernel, rfl, by decide +kernel, by decide +kernel⟩
abbrev s_point_of : Stmt := topS 7
abbrev Ns_point_of : List Str := ["side", "packet", "way"]
theorem x_point_of : FnScope Ns_point_of ["side", "packet"] (defScope s_point_of) := ⟨rfl, rfl, rfl, by decide +kernel, rfl, by decide +kernel, by decide +kernel⟩
abbrev s_row_has : Stmt := topS 8
abbrev Ns_row_has : List Str := ["row", "number", "low", "high"]
theorem x_row_has : FnScope Ns_row_has ["row", "number"] (defScope s_row_has) := ⟨rfl, rfl, rfl, by decide +kernel, rfl, by decide +kernel, by decide +kernel⟩
abbrev s_decider : Stmt := topS 9
abbrev Ns_decider : List Str := ["table", "point", "rules", "index", "rule", "row", "number"]
theorem x_decider : FnScope Ns_decider ["table", "point"] (defScope s_decider) := ⟨rfl, rfl, rfl, by decide +kernel, rfl, by decide +kernel, by decide +kernel⟩
abbrev s_verdict : Stmt := topS 10
abbrev Ns_verdict : List Str := ["table", "point", "rules", "last", "index"]
theorem x_verdict : FnScope Ns_verdict ["table", "point"] (defScope s_verdict) := ⟨rfl, rfl, rfl, by decide +kernel, rfl, by decide +kernel, by decide +kernel⟩
abbrev s_law_state : Stmt := topS 12
abbrev Ns_law_state : List Str := ["script", "cells", "cell"]
theorem x_law_state : FnScope Ns_law_state ["script"] (defScope s_law_state) := ⟨rfl, rfl, rfl, by decide +kernel, rfl, by decide +kernel, by decide +kernel⟩
abbrev s_law_take : Stmt := topS 13
abbrev Ns_law_take : List Str := ["state", "most", "cells", "at", "cell", "mixed"]
theorem x_law_take : FnScope Ns_law_take ["state", "most"] (defScope s_law_take) := ⟨rfl, rfl, rfl, by decide +kernel, rfl, by decide +kernel, by decide +kernel⟩
abbrev s_law_packet : Stmt := topS 14
abbrev Ns_law_packet : List Str := ["state", "ends", "ports", "head", "data", "kind", "body", "k"]
theorem x_law_packet : FnScope Ns_law_packet ["state"] (defScope s_law_packet) := ⟨rfl, rfl, rfl, by decide +kernel, rfl, by decide +kernel, by decide +kernel⟩
abbrev s_law_rule : Stmt := topS 15
abbrev Ns_law_rule : List Str := ["point", "field", "number", "numbers", "each"]
theorem x_law_rule : FnScope Ns_law_rule ["point", "field", "number"] (defScope s_law_rule) := ⟨rfl, rfl, rfl, by decide +kernel, rfl, by decide +kernel, by decide +kernel⟩
abbrev s_law : Stmt := topS 16
abbrev Ns_law : List Str := ["script", "state", "packet", "rest", "side", "kept", "point", "field", "most", "other", "number", "table", "due", "wrong"]
theorem x_law : FnScope Ns_law ["script"] (defScope s_law) := ⟨rfl, rfl, rfl, by decide +kernel, rfl, by decide +kernel, by decide +kernel⟩
/-- what the top has written -/
structure Df (K : PySem.W.Frag) (mg : Str → Option Value) (x : Str) (st : Stmt) (ps : List Str) (a : Addr) (fd : FuncData) : Prop where
  F : Fun K x x st a fd
  b : Binds K fd ps []
  g : mg x = some (.ref a)
structure Tx (K : PySem.W.Frag) (mg : Str → Option Value) (w : World) where
  ad_way_of : Addr
  fd_way_of : FuncData
  d_way_of : Df K mg "way_of" s_way_of ["packet"] ad_way_of fd_way_of
  ad_way_of_stub : Addr
  fd_way_of_stub : FuncData
  d_way_of_stub : Df K mg "way_of_stub" s_way_of_stub ["stub"] ad_way_of_stub fd_way_of_stub
  ad_way_between : Addr
  fd_way_between : FuncData
  d_way_between : Df K mg "_way_between" s_way_between ["source", "target", "part"] ad_way_between fd_way_between
  ad_turned : Addr
  fd_turned : FuncData
  d_turned : Df K mg "turned" s_turned ["way"] ad_turned fd_turned
  ad_point_of : Addr
  fd_point_of : FuncData
  d_point_of : Df K mg "point_of" s_point_of ["side", "packet"] ad_point_of fd_point_of
  ad_row_has : Addr
  fd_row_has : FuncData
  d_row_has : Df K mg "row_has" s_row_has ["row", "number"] ad_row_has fd_row_has
  ad_decider : Addr
  fd_decider : FuncData
  d_decider : Df K mg "decider" s_decider ["table", "point"] ad_decider fd_decider
  ad_verdict : Addr
  fd_verdict : FuncData
  d_verdict : Df K mg "verdict" s_verdict ["table", "point"] ad_verdict fd_verdict
  ad_law_state : Addr
  fd_law_state : FuncData
  d_law_state : Df K mg "_law_state" s_law_state ["script"] ad_law_state fd_law_state
  ad_law_take : Addr
  fd_law_take : FuncData
  d_law_take : Df K mg "_law_take" s_law_take ["state", "most"] ad_law_take fd_law_take
  ad_law_packet : Addr
  fd_law_packet : FuncData
  d_law_packet : Df K mg "_law_packet" s_law_packet ["state"] ad_law_packet fd_law_packet
  ad_law_rule : Addr
  fd_law_rule : FuncData
  d_law_rule : Df K mg "_law_rule" s_law_rule ["point", "field", "number"] ad_law_rule fd_law_rule
  ad_law : Addr
  fd_law : FuncData
  d_law : Df K mg "law" s_law ["script"] ad_law fd_law
  b_enumerate : mg "enumerate" = none
  b_len : mg "len" = none
  b_all : mg "all" = none
  b_zip : mg "zip" = none
  b_abs : mg "abs" = none
  b_int : mg "int" = none
  b_tuple : mg "tuple" = none
  b_range : mg "range" = none
  b_repr : mg "repr" = none
  b_isinstance : mg "isinstance" = none
  b_bool : mg "bool" = none
  a_PROTOCOLS : Addr
  g_PROTOCOLS : mg "PROTOCOLS" = some (.ref a_PROTOCOLS)
  d_PROTOCOLS_0 : KDct K w a_PROTOCOLS (Str.ofString "udp") (.int 17)
  d_PROTOCOLS_1 : KDct K w a_PROTOCOLS (Str.ofString "tcp") (.int 6)
  d_PROTOCOLS_2 : KDct K w a_PROTOCOLS (Str.ofString "echo") (.int 1)
  d_PROTOCOLS_3 : KDct K w a_PROTOCOLS (Str.ofString "failure") (.int 1)
section
variable {P : Program} {w : World} {K : PySem.W.Frag} {mg : Str → Option Value} {base : Heap}
theorem ixL0 {K : PySem.W.Frag} {H : Hp} {a : Addr} {xs : List V} {i : Int} {v : V} {Q : VK} (h : H a = some (.lst xs)) (hi : atI xs i = some v) (q : Q v H) : rIx K (.ref a) (.int i) H Q :=
  .inl ⟨a, xs, i, v, rfl, rfl, SqL.of h, hi, q⟩
theorem fits64 {m : Int} (h0 : 0 < m) (h : m < 2 ^ 64) : CDivW 0 m := wide_div (b := 64) h0 (by omega) (by decide) (by decide)
theorem ok0_law_take (T : Tx K mg w) : FnOk P w K mg base CX0 1 T.ad_law_take T.fd_law_take ["state", "most"] spTake := by
  refine T.d_law_take.F.ok x_law_take (fun vs H Q E h => ?_) (fun cdv A outer s H vs Q E hr h => ?_)
  · obtain ⟨p, c, m, rfl, _⟩ := h
    rfl
  · obtain ⟨p, c, m, rfl, hL, hm0, hm, q0⟩ := h
    have nd := x_law_take.nd
    have npc := hL.ne
    have q : ∀ (r : Int) (H' : Hp), 0 ≤ r → (r < m ∨ r < 1) → LS H' p c → Keep [p, c] H H' → Q (.int r) H' := fun r H' h0 h1 => q0 r H' h0 (by omega)
    obtain ⟨k, ns, h1, h2, h3⟩ := id hL
    refine ⟨_, (pss_cons (ps_set (i := 2) nd rfl (Or.inl rfl) (pe_ix ix_seq (pv 0) pe_int (fun _ _ => rfl)))
        (pss_cons (ps_set (i := 3) nd rfl (Or.inl rfl) (pe_op op_mod (pe_callTy call_int1 (by rfl) T.b_int (by decide +kernel) (pa_cons (pe_ix ix_seq (pv 0) pe_int (fun _ _ => rfl)) pa_nil)) (pe_callB call_len_seq (by rfl) T.b_len (by decide +kernel) (pa_cons (pv 2) pa_nil))))
        (pss_cons (ps_set (i := 4) nd rfl (Or.inl rfl) (pe_ix ix_seq (pv 2) (pv 3) (fun _ _ => rfl)))
        (pss_cons (ps_if (pt_cmpR op_ge (pv 4) pe_int (nomark _)) (pss_cons (ps_asg (pe_op op_fdivW (pv 4) (pv 1)) (pg_sub (pv 2) (pv 3) set_list))
        (pss_one (ps_ret (pe_op op_mod (pe_callTy call_int1 (by rfl) T.b_int (by decide +kernel) (pa_cons (pv 4) pa_nil)) (pv 1))))) pss_nil)
        (pss_cons (ps_asg (pe_op op_add (pe_ix ix_seq (pv 0) pe_int (fun _ _ => rfl)) pe_int) (pg_sub (pv 0) pe_int set_list))
        (pss_cons (ps_set (i := 5) nd rfl (Or.inl rfl) (pe_op op_mod (pe_callTy call_int1 (by rfl) T.b_int (by decide +kernel) (pa_cons (pe_op op_add (pe_op op_mul (pv 4) pe_int) (pe_op op_mul (pe_ix ix_seq (pv 0) pe_int (fun _ _ => rfl)) pe_int)) pa_nil)) pe_int))
        (pss_cons (ps_set (i := 5) nd rfl (Or.inl rfl) (pe_op op_mod (pe_callTy call_int1 (by rfl) T.b_int (by decide +kernel) (pa_cons (pe_op op_add (pe_op op_mul (pv 5) pe_int) (pe_op op_mul (pe_ix ix_seq (pv 0) pe_int (fun _ _ => rfl)) pe_int)) pa_nil)) pe_int))
        (pss_one (ps_ret (pe_op op_mod (pe_callTy call_int1 (by rfl) T.b_int (by decide +kernel) (pa_cons (pe_op op_fdiv (pv 5) pe_int) pa_nil)) (pv 1))))))))))), ?_⟩
    have cd : ∀ x : Int, CDivW x m := fun x => fits64 hm0 hm
    have hl0 : (ns.map V.int) ≠ [] := by
      cases ns with
      | nil => exact absurd rfl h3
      | cons _ _ => intro z; cases z
    obtain ⟨j, v, ej, hj, hv⟩ := at_mod hl0 k
    have hjn : j < ns.length := by rw [List.length_map] at hj; exact hj
    obtain ⟨x, hx, rfl⟩ : ∃ x, ns[j]? = some x ∧ v = V.int x := by
      rw [List.getElem?_map] at hv
      cases e : ns[j]? with
      | none => rw [e] at hv; cases hv
      | some x => rw [e] at hv; exact ⟨x, rfl, (Option.some.inj hv).symm⟩
    have hpos : (0 : Int) < ((ns.map V.int).length : Int) := by omega
    refine ⟨_, rfl, ixL0 h1 (atI_nat (j := 1) rfl) ?_⟩
    refine ⟨_, rfl, ixL0 h1 (atI_nat (j := 0) rfl) (.inl ⟨_, rfl, ?_⟩)⟩
    refine ⟨_, rfl, _, _, rfl, .inl (SqL.of h2), _, _, rfl, rfl, hpos, ?_⟩
    refine ⟨_, rfl, _, rfl, ixL0 h2 (at_of ej hv) ?_⟩
    refine ⟨_, rfl, _, _, rfl, rfl, _, rfl, ite2 (fun eb => ?_) (fun eb => ?_)⟩
    · refine ⟨_, rfl, _, rfl, _, _, rfl, rfl, cd _, _, rfl, _, rfl, _, _, _, j, rfl, rfl, h2, ?_, ?_⟩
      · rw [ej]
        unfold ixN
        rw [if_pos (by omega), if_pos (by omega)]
        exact congrArg some (by omega)
      · refine ⟨_, rfl, .inl ⟨_, rfl, _, rfl, _, _, rfl, rfl, hm0, ?_⟩⟩
        have r := emod_rng x (m := m) hm0
        refine q _ _ r.1 (.inl r.2) ⟨k, ns.set j (x / m), by rw [upd_ne npc]; exact h1, by rw [upd_same, List.map_set], ?_⟩ fun b o e hb => by
          rw [upd_ne (fun z => hb (by rw [z]; simp))]
          exact e
        intro z
        have zz := congrArg List.length z
        rw [List.length_set] at zz
        have : ns.length = 0 := zz
        omega
    · refine ⟨_, rfl, ixL0 h1 (atI_nat (j := 0) rfl) ⟨_, _, rfl, rfl, _, rfl, _, _, _, 0, rfl, rfl, h1, rfl, ?_⟩⟩
      have g1 : (upd H p (.lst ([V.int k, V.ref c].set 0 (.int (k + 1))))) p = some (.lst [V.int (k + 1), V.ref c]) := upd_same
      have hL' : LS (upd H p (.lst ([V.int k, V.ref c].set 0 (.int (k + 1))))) p c := ⟨k + 1, ns, g1, by rw [upd_ne npc.symm]; exact h2, h3⟩
      have hk : Keep [p, c] H (upd H p (.lst ([V.int k, V.ref c].set 0 (.int (k + 1))))) := fun b o e hb => by
        rw [upd_ne (fun z => hb (by rw [z]; simp))]
        exact e
      generalize upd H p (.lst ([V.int k, V.ref c].set 0 (.int (k + 1)))) = H1 at g1 hL' hk ⊢
      refine ⟨_, rfl, _, _, rfl, rfl, .inr ⟨by decide, by decide⟩, _, rfl, ixL0 g1 (atI_nat (j := 0) rfl) ⟨_, _, rfl, rfl, .inr ⟨by decide, by decide⟩, _, _, rfl, rfl, .inl ⟨_, rfl, _, _, rfl, rfl, (by show (0 : Int) < 2147483647; decide), ?_⟩⟩⟩
      refine ⟨_, rfl, _, _, rfl, rfl, .inr ⟨by decide, by decide⟩, _, rfl, ixL0 g1 (atI_nat (j := 0) rfl) ⟨_, _, rfl, rfl, .inr ⟨by decide, by decide⟩, _, _, rfl, rfl, .inl ⟨_, rfl, _, _, rfl, rfl, (by show (0 : Int) < 1000000007; decide), ?_⟩⟩⟩
      refine ⟨_, rfl, _, _, rfl, rfl, ⟨by decide, by decide⟩, .inl ⟨_, rfl, _, rfl, _, _, rfl, rfl, hm0, ?_⟩⟩
      have r := emod_rng ((((x * 48271 + (k + 1) * 69621) % 2147483647 * 16807 + (k + 1) * 7919) % 1000000007) / 7) (m := m) hm0
      exact q _ _ r.1 (.inl r.2) hL' hk
theorem ok_law_take (T : Tx K mg w) : FnOk P w K mg base CX0 1 T.ad_law_take T.fd_law_take ["state", "most"] (spS K (F1 sTake)) := (ok0_law_take T).imp take_of
theorem ok_law_state (T : Tx K mg w) : FnOk P w K mg base CX0 1 T.ad_law_state T.fd_law_state ["script"] (spState K) := by
  refine T.d_law_state.F.ok x_law_state (fun vs H Q E h => ?_) (fun cdv A outer s H vs Q E hr h => ?_)
  · obtain ⟨a, ns, rfl, _⟩ := h
    rfl
  · obtain ⟨a, ns, rfl, hS, hlen, q⟩ := h
    have nd := x_law_state.nd
    refine ⟨_, (pss_cons (ps_setLc (i := 1) (own := [("cell", 2)]) (g := (gName 2)) rfl nd rfl rfl (sw_true rfl rfl rfl (by decide +kernel)) (pi_list (pe_slice sl_list (pv 0) po_none (po_some pe_int))) (blkOk_by (own := [("cell", 2)]) (N := Ns_law_state) (sc := defScope s_law_state) (by decide +kernel)) (fun _ _ _ _ _ => (pg_name (i := 2) nd rfl (Or.inl rfl))) (fun _ _ _ _ _ => pts_nil) (fun _ _ _ _ _ => (pe_callB call_abs (by rfl) T.b_abs (by decide +kernel) (pa_cons (pv 2) pa_nil))))
        (pss_cons (ps_if (pt_cmpR op_eq (pe_callB call_len_seq (by rfl) T.b_len (by decide +kernel) (pa_cons (pv 1) pa_nil)) pe_int (nomark _)) (pss_one (ps_set (i := 1) nd rfl (Or.inl rfl) (pe_lst (pa_cons pe_int pa_nil)))) pss_nil)
        (pss_one (ps_ret (pe_lst (pa_cons pe_int (pa_cons (pv 1) pa_nil))))))), ?_⟩
    have hml : (ns.map V.int).length ≤ 63 := by rw [List.length_map]; exact hlen
    refine ⟨_, rfl, 63, rfl, a, _, rfl, hS, fun p np => ?_⟩
    rw [cut63 _ hml]
    have g0 : (upd H p (.lst (ns.map V.int))) p = some (.lst (ns.map V.int)) := upd_same
    have s0 : Same H (upd H p (.lst (ns.map V.int))) := same_upd np
    generalize upd H p (.lst (ns.map V.int)) = H0 at g0 s0 ⊢
    refine ⟨p, rfl, ⟨_, SqL.of g0⟩, fun L hD => lc_list (K := K) (a := p) (xs := ns.map V.int) (fun i H1 => Same H0 H1 ∧ H1 L = some (.lst (((ns.take i).map fun x => if x < 0 then -x else x).map V.int))) ⟨same_upd hD, upd_same⟩ (fun i H1 _ z => SqL.of (z.1 _ _ g0)) ?_ ?_⟩
    · rintro i x H1 hi ⟨s1, g1⟩
      obtain ⟨z, hz, rfl⟩ : ∃ z, ns[i]? = some z ∧ x = V.int z := by
        rw [List.getElem?_map] at hi
        cases e : ns[i]? with
        | none => rw [e] at hi; cases hi
        | some z => rw [e] at hi; exact ⟨z, rfl, (Option.some.inj hi).symm⟩
      have hil := (List.getElem?_eq_some_iff.mp hz).1
      refine ⟨rfl, ?_⟩
      refine ⟨_, rfl, z, rfl, _, g1, ?_, fun b o e => ?_, ?_⟩
      · rw [List.length_map, List.length_map, List.length_take]
        exact small1000 (by omega)
      · rw [upd_ne (ne_of_none e hD)]
        exact s1 _ _ e
      · rw [upd_same, List.take_add_one, hz]
        simp
    · rintro H1 ⟨s1, g1⟩
      rw [List.length_map, List.take_length] at g1
      have np2 : H L = none := s0.free hD
      refine ⟨_, rfl, L, _, rfl, .inl (SqL.of g1), rfl, _, rfl, ite2 (fun e => ?_) (fun e => ?_)⟩
      · refine ⟨by show 1 ≤ sizeLine; decide, fun c hc => ?_⟩
        refine ⟨_, rfl, by show 2 ≤ sizeLine; decide, fun r hr' => ?_⟩
        have s2 : Same H1 (upd H1 c (.lst [.int 0])) := same_upd hc
        have s3 : Same (upd H1 c (.lst [.int 0])) (upd (upd H1 c (.lst [.int 0])) r (.lst [.int 0, .ref c])) := same_upd hr'
        refine q r c _ ⟨0, [0], upd_same, s3 _ _ upd_same, by intro z; cases z⟩ (s0.trans (s1.trans (s2.trans s3))) ?_ ?_
        · exact s0.free (s1.free (s2.free hr'))
        · exact s0.free (s1.free hc)
      · refine ⟨_, rfl, by show 2 ≤ sizeLine; decide, fun r hr' => ?_⟩
        have s3 : Same H1 (upd H1 r (.lst [.int 0, .ref L])) := same_upd hr'
        refine q r L _ ⟨0, _, upd_same, s3 _ _ g1, ?_⟩ (s0.trans (s1.trans s3)) (s0.free (s1.free hr')) np2
        intro z
        refine e (decide_eq_true (congrArg V.int ?_))
        rw [List.length_map, z]
        rfl
end

inductive Bd
  | pt (kind : Str) (f t : Int) (rest : List D)
  | ask (i : Int) (rest : List D)
  | ans (i : Int) (rest : List D)
def eBd : Bd → D
  | .pt k f t r => .tuple (.str k :: .int f :: .int t :: r)
  | .ask i r => .tuple (.str "echo" :: .str "ask" :: .int i :: r)
  | .ans i r => .tuple (.str "echo" :: .str "answer" :: .int i :: r)
def Bd.kind : Bd → Str | .pt k _ _ _ => k | _ => "echo"
def Bd.a : Bd → Int | .pt _ f _ _ => f | .ask i _ => i | .ans _ _ => 0
def Bd.b : Bd → Int | .pt _ _ t _ => t | .ask _ _ => 0 | .ans i _ => i
def Bd.ok : Bd → Prop | .pt k _ _ _ => k = "udp" ∨ k = "tcp" | _ => True
def Bd.num : Bd → Int | .pt k _ _ _ => if k = "udp" then 17 else 6 | _ => 1
def wayD (s t : Int) (b : Bd) : D := .tuple [.str b.kind, .int s, .int b.a, .int t, .int b.b]
abbrev Row := List (Int × Int)
abbrev Rule := List Row × D × D
abbrev Tb := List Rule × D × D
def eR (r : Int × Int) : D := .tuple [.int r.1, .int r.2]
def eRow (r : Row) : D := .tuple (r.map eR)
def eM (m : List Row) : D := .tuple (m.map eRow)
def eRu (u : Rule) : D := .tuple [eM u.1, u.2.1, u.2.2]
def eT (t : Tb) : D := .tuple [.tuple (t.1.map eRu), .tuple [t.2.1, t.2.2]]
def eP (p : List Int) : D := .tuple (p.map PyData.int)
def rowHas (r : Row) (n : Int) : Bool := r.any fun s => decide (s.1 ≤ n) && decide (n ≤ s.2)
def hasM (m : List Row) (p : List Int) : Bool := (m.zip p).all fun x => rowHas x.1 x.2
def decN (p : List Int) : List Rule → Nat
  | [] => 0
  | u :: r => if hasM u.1 p = true then 0 else decN p r + 1
section
variable {P : Program} {w : World} {K : PySem.W.Frag} {mg : Str → Option Value} {base : Heap}
theorem ne_e1 : ¬ (Str.ofString "udp" = Str.ofString "echo") := by decide +kernel
theorem ne_e2 : ¬ (Str.ofString "tcp" = Str.ofString "echo") := by decide +kernel
theorem ne_e3 : ¬ (Str.ofString "answer" = Str.ofString "ask") := by decide +kernel
theorem ok_way_between (T : Tx K mg w) : FnOk P w K mg base CX0 1 T.ad_way_between T.fd_way_between ["source", "target", "part"] (spD K (F3 fun a b c Q => ∃ s t bd, a = .int s ∧ b = .int t ∧ c = eBd bd ∧ bd.ok ∧ Q (wayD s t bd))) := by
  refine T.d_way_between.F.ok x_way_between (fun vs H Q E h => spD_len F3_len h) (fun cdv A outer s H vs Q E hr h => ?_)
  have nd := x_way_between.nd
  refine ⟨_, (pss_cons (ps_if (pt_cmpR op_ne (pe_ix ix_seq (pv 2) pe_int (fun _ _ => rfl)) pe_str (nomark _)) (pss_one (ps_ret (pe_tup (pa_cons (pe_ix ix_seq (pv 2) pe_int (fun _ _ => rfl)) (pa_cons (pv 0) (pa_cons (pe_ix ix_seq (pv 2) pe_int (fun _ _ => rfl)) (pa_cons (pv 1) (pa_cons (pe_ix ix_seq (pv 2) pe_int (fun _ _ => rfl)) pa_nil)))))))) pss_nil)
        (pss_cons (ps_if (pt_cmpR op_eq (pe_ix ix_seq (pv 2) pe_int (fun _ _ => rfl)) pe_str (nomark _)) (pss_one (ps_ret (pe_tup (pa_cons pe_str (pa_cons (pv 0) (pa_cons (pe_ix ix_seq (pv 2) pe_int (fun _ _ => rfl)) (pa_cons (pv 1) (pa_cons pe_int pa_nil)))))))) pss_nil)
        (pss_one (ps_ret (pe_tup (pa_cons pe_str (pa_cons (pv 0) (pa_cons pe_int (pa_cons (pv 1) (pa_cons (pe_ix ix_seq (pv 2) pe_int (fun _ _ => rfl)) pa_nil)))))))))), fn_pure ((rs_seq (rs_if (rt_test (ro rv_ne (RfE.b (ro rv_ix (RfE.b (rn 2)) (RfE.b (rc_int _)))) (RfE.b (rc_str _)))) (rs_ret (re_tup (raC (ro rv_ix (RfE.b (rn 2)) (RfE.b (rc_int _))) (raC (rn 0) (raC (ro rv_ix (RfE.b (rn 2)) (RfE.b (rc_int _))) (raC (rn 1) (raC (ro rv_ix (RfE.b (rn 2)) (RfE.b (rc_int _))) raN))))))) rs_next)
        (rs_seq (rs_if (rt_test (ro rv_eq (RfE.b (ro rv_ix (RfE.b (rn 2)) (RfE.b (rc_int _)))) (RfE.b (rc_str _)))) (rs_ret (re_tup (raC (rc_str _) (raC (rn 0) (raC (ro rv_ix (RfE.b (rn 2)) (RfE.b (rc_int _))) (raC (rn 1) (raC (rc_int _) raN))))))) rs_next)
        (rs_ret (re_tup (raC (rc_str _) (raC (rn 0) (raC (rc_int _) (raC (rn 1) (raC (ro rv_ix (RfE.b (rn 2)) (RfE.b (rc_int _))) raN)))))))))) h (by rw [spD_len F3_len h]; decide) (F3_in fun a0 a1 a2 Qd q => ?_)⟩
  obtain ⟨s, t, bd, rfl, rfl, rfl, ok, q⟩ := q
  cases bd with
  | pt k f t' r =>
    have hk : ¬ k = Str.ofString "echo" := by
      rcases ok with rfl | rfl
      · exact ne_e1
      · exact ne_e2
    simp only [eBd, true_and, ↓sTake, ↓sTake0, ↓sPick, ↓sNumber, rng_1, rng_2, rng_3, rng_4, rng_6, ↓dKd, dix_0, dix_1, dix_2, dix_3, dix_4, dix_5, dix_6, dix_7, dix_8, dix_9, Bool.not_false, Bool.not_true, Bool.and_true, Bool.true_and, Bool.and_false, Bool.false_and, decide_eq_true_eq, Bool.not_eq_true', decide_eq_false_iff_not, Bool.false_eq_true, if_true, if_false, ↓F0, ↓F1, ↓F2, ↓F3, ↓F4, ↓F5, ↓F6, ↓dParO1, ↓dParO2, ↓dEnumT, ↓oRepr, ↓dUn, ↓oNeg, ↓dSeq, ↓dRet, ↓dRetN, ↓dIf, ↓dAsg, ↓dDrop, ↓dBreak, ↓dCont, ↓dNext, ↓dOwn, ↓dApp, ↓dSetIx, ↓dFrz, frz, ↓dPar, ↓dAug, ↓dFor, ↓dN, ↓dNB, ↓dC, ↓dOp, ↓oI, ↓oI0, ↓oB, ↓oEq, ↓oEqS, eqS, ↓oIsN, isNo, ↓oIx, ↓oIxS, seqOf, ↓oCat, ↓oCatT, ↓oCatS, ↓oIn, ↓oInS, ↓dTb, ↓dAnd, ↓dOr, ↓dNot, ↓dYes, ↓dAndV, ↓dOrV, ↓dNotV, ↓dIfV, ↓dChain, ↓dNil, ↓dCons, ↓dL, ↓dTup, ↓dCB, ↓oAbs, ↓oI2, ↓oLen, ↓oLenS, ↓oInt, ↓oSum, ↓oBs, ↓oTupOf, ↓dSeqOf, ↓dIsi, it_bool_none, it_bool_bool, it_bool_int, it_bool_str, it_bool_list, it_bool_tuple, it_bool_dict, it_int_none, it_int_bool, it_int_int, it_int_str, it_int_list, it_int_tuple, it_int_dict, it_str_none, it_str_bool, it_str_int, it_str_str, it_str_list, it_str_tuple, it_str_dict, it_list_none, it_list_bool, it_list_int, it_list_str, it_list_list, it_list_tuple, it_list_dict, it_tuple_none, it_tuple_bool, it_tuple_int, it_tuple_str, it_tuple_list, it_tuple_tuple, it_tuple_dict, it_dict_none, it_dict_bool, it_dict_int, it_dict_str, it_dict_list, it_dict_tuple, it_dict_dict, ↓dNoP, ↓dPart, ↓dSlT, ↓dSlL, ↓dSlS, ↓dCall, ↓dCallS, ↓dItL, ↓dItT, ↓dItS, ↓dR1, ↓dR2, ↓dZip, ↓dEnum, ↓gN, ↓gNi, ↓gCo, ↓gT, ↓dLc, wipeE, eget, eset, List.set, ev0, List.map_cons, List.map_nil, List.cons_append, List.nil_append, List.replicate_succ, List.replicate_zero, noOwn, isOwn, List.all_cons, List.all_nil, List.length_cons, List.length_nil, if_pos hk]
    exact q
  | ask i r =>
    simp only [eBd, true_and, ↓sTake, ↓sTake0, ↓sPick, ↓sNumber, rng_1, rng_2, rng_3, rng_4, rng_6, ↓dKd, dix_0, dix_1, dix_2, dix_3, dix_4, dix_5, dix_6, dix_7, dix_8, dix_9, Bool.not_false, Bool.not_true, Bool.and_true, Bool.true_and, Bool.and_false, Bool.false_and, decide_eq_true_eq, Bool.not_eq_true', decide_eq_false_iff_not, Bool.false_eq_true, if_true, if_false, ↓F0, ↓F1, ↓F2, ↓F3, ↓F4, ↓F5, ↓F6, ↓dParO1, ↓dParO2, ↓dEnumT, ↓oRepr, ↓dUn, ↓oNeg, ↓dSeq, ↓dRet, ↓dRetN, ↓dIf, ↓dAsg, ↓dDrop, ↓dBreak, ↓dCont, ↓dNext, ↓dOwn, ↓dApp, ↓dSetIx, ↓dFrz, frz, ↓dPar, ↓dAug, ↓dFor, ↓dN, ↓dNB, ↓dC, ↓dOp, ↓oI, ↓oI0, ↓oB, ↓oEq, ↓oEqS, eqS, ↓oIsN, isNo, ↓oIx, ↓oIxS, seqOf, ↓oCat, ↓oCatT, ↓oCatS, ↓oIn, ↓oInS, ↓dTb, ↓dAnd, ↓dOr, ↓dNot, ↓dYes, ↓dAndV, ↓dOrV, ↓dNotV, ↓dIfV, ↓dChain, ↓dNil, ↓dCons, ↓dL, ↓dTup, ↓dCB, ↓oAbs, ↓oI2, ↓oLen, ↓oLenS, ↓oInt, ↓oSum, ↓oBs, ↓oTupOf, ↓dSeqOf, ↓dIsi, it_bool_none, it_bool_bool, it_bool_int, it_bool_str, it_bool_list, it_bool_tuple, it_bool_dict, it_int_none, it_int_bool, it_int_int, it_int_str, it_int_list, it_int_tuple, it_int_dict, it_str_none, it_str_bool, it_str_int, it_str_str, it_str_list, it_str_tuple, it_str_dict, it_list_none, it_list_bool, it_list_int, it_list_str, it_list_list, it_list_tuple, it_list_dict, it_tuple_none, it_tuple_bool, it_tuple_int, it_tuple_str, it_tuple_list, it_tuple_tuple, it_tuple_dict, it_dict_none, it_dict_bool, it_dict_int, it_dict_str, it_dict_list, it_dict_tuple, it_dict_dict, ↓dNoP, ↓dPart, ↓dSlT, ↓dSlL, ↓dSlS, ↓dCall, ↓dCallS, ↓dItL, ↓dItT, ↓dItS, ↓dR1, ↓dR2, ↓dZip, ↓dEnum, ↓gN, ↓gNi, ↓gCo, ↓gT, ↓dLc, wipeE, eget, eset, List.set, ev0, List.map_cons, List.map_nil, List.cons_append, List.nil_append, List.replicate_succ, List.replicate_zero, noOwn, isOwn, List.all_cons, List.all_nil, List.length_cons, List.length_nil, not_true, eq_self_iff_true]
    exact q
  | ans i r =>
    simp only [eBd, true_and, ↓sTake, ↓sTake0, ↓sPick, ↓sNumber, rng_1, rng_2, rng_3, rng_4, rng_6, ↓dKd, dix_0, dix_1, dix_2, dix_3, dix_4, dix_5, dix_6, dix_7, dix_8, dix_9, Bool.not_false, Bool.not_true, Bool.and_true, Bool.true_and, Bool.and_false, Bool.false_and, decide_eq_true_eq, Bool.not_eq_true', decide_eq_false_iff_not, Bool.false_eq_true, if_true, if_false, ↓F0, ↓F1, ↓F2, ↓F3, ↓F4, ↓F5, ↓F6, ↓dParO1, ↓dParO2, ↓dEnumT, ↓oRepr, ↓dUn, ↓oNeg, ↓dSeq, ↓dRet, ↓dRetN, ↓dIf, ↓dAsg, ↓dDrop, ↓dBreak, ↓dCont, ↓dNext, ↓dOwn, ↓dApp, ↓dSetIx, ↓dFrz, frz, ↓dPar, ↓dAug, ↓dFor, ↓dN, ↓dNB, ↓dC, ↓dOp, ↓oI, ↓oI0, ↓oB, ↓oEq, ↓oEqS, eqS, ↓oIsN, isNo, ↓oIx, ↓oIxS, seqOf, ↓oCat, ↓oCatT, ↓oCatS, ↓oIn, ↓oInS, ↓dTb, ↓dAnd, ↓dOr, ↓dNot, ↓dYes, ↓dAndV, ↓dOrV, ↓dNotV, ↓dIfV, ↓dChain, ↓dNil, ↓dCons, ↓dL, ↓dTup, ↓dCB, ↓oAbs, ↓oI2, ↓oLen, ↓oLenS, ↓oInt, ↓oSum, ↓oBs, ↓oTupOf, ↓dSeqOf, ↓dIsi, it_bool_none, it_bool_bool, it_bool_int, it_bool_str, it_bool_list, it_bool_tuple, it_bool_dict, it_int_none, it_int_bool, it_int_int, it_int_str, it_int_list, it_int_tuple, it_int_dict, it_str_none, it_str_bool, it_str_int, it_str_str, it_str_list, it_str_tuple, it_str_dict, it_list_none, it_list_bool, it_list_int, it_list_str, it_list_list, it_list_tuple, it_list_dict, it_tuple_none, it_tuple_bool, it_tuple_int, it_tuple_str, it_tuple_list, it_tuple_tuple, it_tuple_dict, it_dict_none, it_dict_bool, it_dict_int, it_dict_str, it_dict_list, it_dict_tuple, it_dict_dict, ↓dNoP, ↓dPart, ↓dSlT, ↓dSlL, ↓dSlS, ↓dCall, ↓dCallS, ↓dItL, ↓dItT, ↓dItS, ↓dR1, ↓dR2, ↓dZip, ↓dEnum, ↓gN, ↓gNi, ↓gCo, ↓gT, ↓dLc, wipeE, eget, eset, List.set, ev0, List.map_cons, List.map_nil, List.cons_append, List.nil_append, List.replicate_succ, List.replicate_zero, noOwn, isOwn, List.all_cons, List.all_nil, List.length_cons, List.length_nil, not_true, eq_self_iff_true, if_neg ne_e3]
    exact q
theorem ok_way_of_stub (T : Tx K mg w) : FnOk P w K mg base CX0 2 T.ad_way_of_stub T.fd_way_of_stub ["stub"] (spD K (F1 fun a Q => False)) := by
  refine T.d_way_of_stub.F.ok x_way_of_stub (fun vs H Q E h => spD_len F1_len h) (fun cdv A outer s H vs Q E hr h => ?_)
  have nd := x_way_of_stub.nd
  refine ⟨_, (pss_one (ps_ret (pe_call (ok_way_between T) hr (by rfl) T.d_way_between.g T.d_way_between.F.kp T.d_way_between.b .nil pass0 (pa_cons (pe_ix ix_seq (pv 0) pe_int (fun _ _ => rfl)) (pa_cons (pe_ix ix_seq (pv 0) pe_int (fun _ _ => rfl)) (pa_cons (pe_ix ix_seq (pv 0) pe_int (fun _ _ => rfl)) pa_nil)))))), fn_pure ((rs_ret (re_call (raC (ro rv_ix (RfE.b (rn 0)) (RfE.b (rc_int _))) (raC (ro rv_ix (RfE.b (rn 0)) (RfE.b (rc_int _))) (raC (ro rv_ix (RfE.b (rn 0)) (RfE.b (rc_int _))) raN)))))) h (by rw [spD_len F1_len h]; decide) (F1_in fun a0 Qd q => ?_)⟩
  exact q.elim
theorem ok_turned (T : Tx K mg w) : FnOk P w K mg base CX0 1 T.ad_turned T.fd_turned ["way"] (spD K (F1 fun a Q => False)) := by
  refine T.d_turned.F.ok x_turned (fun vs H Q E h => spD_len F1_len h) (fun cdv A outer s H vs Q E hr h => ?_)
  have nd := x_turned.nd
  refine ⟨_, (pss_cons (ps_asg (pv 0) (pg_tup (n := 5) rfl (pgs_cons (pg_name (i := 1) nd rfl (Or.inl rfl)) (pgs_cons (pg_name (i := 2) nd rfl (Or.inl rfl)) (pgs_cons (pg_name (i := 3) nd rfl (Or.inl rfl)) (pgs_cons (pg_name (i := 4) nd rfl (Or.inl rfl)) (pgs_cons (pg_name (i := 5) nd rfl (Or.inl rfl)) pgs_nil)))))))
        (pss_one (ps_ret (pe_tup (pa_cons (pv 1) (pa_cons (pv 4) (pa_cons (pv 5) (pa_cons (pv 2) (pa_cons (pv 3) pa_nil))))))))), fn_pure ((rs_seq (rs_asg (rn 0) (rg_tup (rg_cons (rg_name 1) (rg_cons (rg_name 2) (rg_cons (rg_name 3) (rg_cons (rg_name 4) (rg_cons (rg_name 5) rg_nil)))))))
        (rs_ret (re_tup (raC (rn 1) (raC (rn 4) (raC (rn 5) (raC (rn 2) (raC (rn 3) raN))))))))) h (by rw [spD_len F1_len h]; decide) (F1_in fun a0 Qd q => ?_)⟩
  exact q.elim
theorem nf_e1 : ¬ (Str.ofString "udp" = Str.ofString "failure") := by decide +kernel
theorem nf_e2 : ¬ (Str.ofString "tcp" = Str.ofString "failure") := by decide +kernel
theorem nf_e3 : ¬ (Str.ofString "echo" = Str.ofString "failure") := by decide +kernel
theorem ok_way_of (T : Tx K mg w) : FnOk P w K mg base CX0 3 T.ad_way_of T.fd_way_of ["packet"] (spD K (F1 fun a Q => ∃ s t bd x0 x3 x4 x5 x6, a = .tuple [x0, .int s, .int t, x3, x4, x5, x6, eBd bd] ∧ bd.ok ∧ Q (wayD s t bd))) := by
  refine T.d_way_of.F.ok x_way_of (fun vs H Q E h => spD_len F1_len h) (fun cdv A outer s H vs Q E hr h => ?_)
  have nd := x_way_of.nd
  refine ⟨_, (pss_cons (ps_set (i := 1) nd rfl (Or.inl rfl) (pe_ix ix_seq (pv 0) pe_int (fun _ _ => rfl)))
        (pss_cons (ps_if (pt_cmpR op_eq (pe_ix ix_seq (pv 1) pe_int (fun _ _ => rfl)) pe_str (nomark _)) (pss_one (ps_ret (pe_call (ok_turned T) (hr.mono (by decide)) (by rfl) T.d_turned.g T.d_turned.F.kp T.d_turned.b .nil pass0 (pa_cons (pe_call (ok_way_of_stub T) hr (by rfl) T.d_way_of_stub.g T.d_way_of_stub.F.kp T.d_way_of_stub.b .nil pass0 (pa_cons (pe_ix ix_seq (pv 1) pe_int (fun _ _ => rfl)) pa_nil)) pa_nil)))) pss_nil)
        (pss_one (ps_ret (pe_call (ok_way_between T) (hr.mono (by decide)) (by rfl) T.d_way_between.g T.d_way_between.F.kp T.d_way_between.b .nil pass0 (pa_cons (pe_ix ix_seq (pv 0) pe_int (fun _ _ => rfl)) (pa_cons (pe_ix ix_seq (pv 0) pe_int (fun _ _ => rfl)) (pa_cons (pv 1) pa_nil)))))))), fn_pure ((rs_seq (rs_asg (ro rv_ix (RfE.b (rn 0)) (RfE.b (rc_int _))) (rg_name 1))
        (rs_seq (rs_if (rt_test (ro rv_eq (RfE.b (ro rv_ix (RfE.b (rn 1)) (RfE.b (rc_int _)))) (RfE.b (rc_str _)))) (rs_ret (re_call (raC (re_call (raC (ro rv_ix (RfE.b (rn 1)) (RfE.b (rc_int _))) raN)) raN))) rs_next)
        (rs_ret (re_call (raC (ro rv_ix (RfE.b (rn 0)) (RfE.b (rc_int _))) (raC (ro rv_ix (RfE.b (rn 0)) (RfE.b (rc_int _))) (raC (rn 1) raN)))))))) h (by rw [spD_len F1_len h]; decide) (F1_in fun a0 Qd q => ?_)⟩
  obtain ⟨s, t, bd, x0, x3, x4, x5, x6, rfl, ok, q⟩ := q
  simp only [true_and, ↓sTake, ↓sTake0, ↓sPick, ↓sNumber, rng_1, rng_2, rng_3, rng_4, rng_6, ↓dKd, dix_0, dix_1, dix_2, dix_3, dix_4, dix_5, dix_6, dix_7, dix_8, dix_9, Bool.not_false, Bool.not_true, Bool.and_true, Bool.true_and, Bool.and_false, Bool.false_and, decide_eq_true_eq, Bool.not_eq_true', decide_eq_false_iff_not, Bool.false_eq_true, if_true, if_false, ↓F0, ↓F1, ↓F2, ↓F3, ↓F4, ↓F5, ↓F6, ↓dParO1, ↓dParO2, ↓dEnumT, ↓oRepr, ↓dUn, ↓oNeg, ↓dSeq, ↓dRet, ↓dRetN, ↓dIf, ↓dAsg, ↓dDrop, ↓dBreak, ↓dCont, ↓dNext, ↓dOwn, ↓dApp, ↓dSetIx, ↓dFrz, frz, ↓dPar, ↓dAug, ↓dFor, ↓dN, ↓dNB, ↓dC, ↓dOp, ↓oI, ↓oI0, ↓oB, ↓oEq, ↓oEqS, eqS, ↓oIsN, isNo, ↓oIx, ↓oIxS, seqOf, ↓oCat, ↓oCatT, ↓oCatS, ↓oIn, ↓oInS, ↓dTb, ↓dAnd, ↓dOr, ↓dNot, ↓dYes, ↓dAndV, ↓dOrV, ↓dNotV, ↓dIfV, ↓dChain, ↓dNil, ↓dCons, ↓dL, ↓dTup, ↓dCB, ↓oAbs, ↓oI2, ↓oLen, ↓oLenS, ↓oInt, ↓oSum, ↓oBs, ↓oTupOf, ↓dSeqOf, ↓dIsi, it_bool_none, it_bool_bool, it_bool_int, it_bool_str, it_bool_list, it_bool_tuple, it_bool_dict, it_int_none, it_int_bool, it_int_int, it_int_str, it_int_list, it_int_tuple, it_int_dict, it_str_none, it_str_bool, it_str_int, it_str_str, it_str_list, it_str_tuple, it_str_dict, it_list_none, it_list_bool, it_list_int, it_list_str, it_list_list, it_list_tuple, it_list_dict, it_tuple_none, it_tuple_bool, it_tuple_int, it_tuple_str, it_tuple_list, it_tuple_tuple, it_tuple_dict, it_dict_none, it_dict_bool, it_dict_int, it_dict_str, it_dict_list, it_dict_tuple, it_dict_dict, ↓dNoP, ↓dPart, ↓dSlT, ↓dSlL, ↓dSlS, ↓dCall, ↓dCallS, ↓dItL, ↓dItT, ↓dItS, ↓dR1, ↓dR2, ↓dZip, ↓dEnum, ↓gN, ↓gNi, ↓gCo, ↓gT, ↓dLc, wipeE, eget, eset, List.set, ev0, List.map_cons, List.map_nil, List.cons_append, List.nil_append, List.replicate_succ, List.replicate_zero, noOwn, isOwn, List.all_cons, List.all_nil, List.length_cons, List.length_nil]
  cases bd with
  | pt k f t' r =>
    have hk : ¬ k = Str.ofString "failure" := by
      rcases ok with rfl | rfl
      · exact nf_e1
      · exact nf_e2
    simp only [eBd, true_and, ↓sTake, ↓sTake0, ↓sPick, ↓sNumber, rng_1, rng_2, rng_3, rng_4, rng_6, ↓dKd, dix_0, dix_1, dix_2, dix_3, dix_4, dix_5, dix_6, dix_7, dix_8, dix_9, Bool.not_false, Bool.not_true, Bool.and_true, Bool.true_and, Bool.and_false, Bool.false_and, decide_eq_true_eq, Bool.not_eq_true', decide_eq_false_iff_not, Bool.false_eq_true, if_true, if_false, ↓F0, ↓F1, ↓F2, ↓F3, ↓F4, ↓F5, ↓F6, ↓dParO1, ↓dParO2, ↓dEnumT, ↓oRepr, ↓dUn, ↓oNeg, ↓dSeq, ↓dRet, ↓dRetN, ↓dIf, ↓dAsg, ↓dDrop, ↓dBreak, ↓dCont, ↓dNext, ↓dOwn, ↓dApp, ↓dSetIx, ↓dFrz, frz, ↓dPar, ↓dAug, ↓dFor, ↓dN, ↓dNB, ↓dC, ↓dOp, ↓oI, ↓oI0, ↓oB, ↓oEq, ↓oEqS, eqS, ↓oIsN, isNo, ↓oIx, ↓oIxS, seqOf, ↓oCat, ↓oCatT, ↓oCatS, ↓oIn, ↓oInS, ↓dTb, ↓dAnd, ↓dOr, ↓dNot, ↓dYes, ↓dAndV, ↓dOrV, ↓dNotV, ↓dIfV, ↓dChain, ↓dNil, ↓dCons, ↓dL, ↓dTup, ↓dCB, ↓oAbs, ↓oI2, ↓oLen, ↓oLenS, ↓oInt, ↓oSum, ↓oBs, ↓oTupOf, ↓dSeqOf, ↓dIsi, it_bool_none, it_bool_bool, it_bool_int, it_bool_str, it_bool_list, it_bool_tuple, it_bool_dict, it_int_none, it_int_bool, it_int_int, it_int_str, it_int_list, it_int_tuple, it_int_dict, it_str_none, it_str_bool, it_str_int, it_str_str, it_str_list, it_str_tuple, it_str_dict, it_list_none, it_list_bool, it_list_int, it_list_str, it_list_list, it_list_tuple, it_list_dict, it_tuple_none, it_tuple_bool, it_tuple_int, it_tuple_str, it_tuple_list, it_tuple_tuple, it_tuple_dict, it_dict_none, it_dict_bool, it_dict_int, it_dict_str, it_dict_list, it_dict_tuple, it_dict_dict, ↓dNoP, ↓dPart, ↓dSlT, ↓dSlL, ↓dSlS, ↓dCall, ↓dCallS, ↓dItL, ↓dItT, ↓dItS, ↓dR1, ↓dR2, ↓dZip, ↓dEnum, ↓gN, ↓gNi, ↓gCo, ↓gT, ↓dLc, wipeE, eget, eset, List.set, ev0, List.map_cons, List.map_nil, List.cons_append, List.nil_append, List.replicate_succ, List.replicate_zero, noOwn, isOwn, List.all_cons, List.all_nil, List.length_cons, List.length_nil, if_neg hk]
    exact ⟨_, _, .pt k f t' r, rfl, rfl, rfl, ok, q⟩
  | ask i r =>
    simp only [eBd, true_and, ↓sTake, ↓sTake0, ↓sPick, ↓sNumber, rng_1, rng_2, rng_3, rng_4, rng_6, ↓dKd, dix_0, dix_1, dix_2, dix_3, dix_4, dix_5, dix_6, dix_7, dix_8, dix_9, Bool.not_false, Bool.not_true, Bool.and_true, Bool.true_and, Bool.and_false, Bool.false_and, decide_eq_true_eq, Bool.not_eq_true', decide_eq_false_iff_not, Bool.false_eq_true, if_true, if_false, ↓F0, ↓F1, ↓F2, ↓F3, ↓F4, ↓F5, ↓F6, ↓dParO1, ↓dParO2, ↓dEnumT, ↓oRepr, ↓dUn, ↓oNeg, ↓dSeq, ↓dRet, ↓dRetN, ↓dIf, ↓dAsg, ↓dDrop, ↓dBreak, ↓dCont, ↓dNext, ↓dOwn, ↓dApp, ↓dSetIx, ↓dFrz, frz, ↓dPar, ↓dAug, ↓dFor, ↓dN, ↓dNB, ↓dC, ↓dOp, ↓oI, ↓oI0, ↓oB, ↓oEq, ↓oEqS, eqS, ↓oIsN, isNo, ↓oIx, ↓oIxS, seqOf, ↓oCat, ↓oCatT, ↓oCatS, ↓oIn, ↓oInS, ↓dTb, ↓dAnd, ↓dOr, ↓dNot, ↓dYes, ↓dAndV, ↓dOrV, ↓dNotV, ↓dIfV, ↓dChain, ↓dNil, ↓dCons, ↓dL, ↓dTup, ↓dCB, ↓oAbs, ↓oI2, ↓oLen, ↓oLenS, ↓oInt, ↓oSum, ↓oBs, ↓oTupOf, ↓dSeqOf, ↓dIsi, it_bool_none, it_bool_bool, it_bool_int, it_bool_str, it_bool_list, it_bool_tuple, it_bool_dict, it_int_none, it_int_bool, it_int_int, it_int_str, it_int_list, it_int_tuple, it_int_dict, it_str_none, it_str_bool, it_str_int, it_str_str, it_str_list, it_str_tuple, it_str_dict, it_list_none, it_list_bool, it_list_int, it_list_str, it_list_list, it_list_tuple, it_list_dict, it_tuple_none, it_tuple_bool, it_tuple_int, it_tuple_str, it_tuple_list, it_tuple_tuple, it_tuple_dict, it_dict_none, it_dict_bool, it_dict_int, it_dict_str, it_dict_list, it_dict_tuple, it_dict_dict, ↓dNoP, ↓dPart, ↓dSlT, ↓dSlL, ↓dSlS, ↓dCall, ↓dCallS, ↓dItL, ↓dItT, ↓dItS, ↓dR1, ↓dR2, ↓dZip, ↓dEnum, ↓gN, ↓gNi, ↓gCo, ↓gT, ↓dLc, wipeE, eget, eset, List.set, ev0, List.map_cons, List.map_nil, List.cons_append, List.nil_append, List.replicate_succ, List.replicate_zero, noOwn, isOwn, List.all_cons, List.all_nil, List.length_cons, List.length_nil, if_neg nf_e3]
    exact ⟨_, _, .ask i r, rfl, rfl, rfl, ok, q⟩
  | ans i r =>
    simp only [eBd, true_and, ↓sTake, ↓sTake0, ↓sPick, ↓sNumber, rng_1, rng_2, rng_3, rng_4, rng_6, ↓dKd, dix_0, dix_1, dix_2, dix_3, dix_4, dix_5, dix_6, dix_7, dix_8, dix_9, Bool.not_false, Bool.not_true, Bool.and_true, Bool.true_and, Bool.and_false, Bool.false_and, decide_eq_true_eq, Bool.not_eq_true', decide_eq_false_iff_not, Bool.false_eq_true, if_true, if_false, ↓F0, ↓F1, ↓F2, ↓F3, ↓F4, ↓F5, ↓F6, ↓dParO1, ↓dParO2, ↓dEnumT, ↓oRepr, ↓dUn, ↓oNeg, ↓dSeq, ↓dRet, ↓dRetN, ↓dIf, ↓dAsg, ↓dDrop, ↓dBreak, ↓dCont, ↓dNext, ↓dOwn, ↓dApp, ↓dSetIx, ↓dFrz, frz, ↓dPar, ↓dAug, ↓dFor, ↓dN, ↓dNB, ↓dC, ↓dOp, ↓oI, ↓oI0, ↓oB, ↓oEq, ↓oEqS, eqS, ↓oIsN, isNo, ↓oIx, ↓oIxS, seqOf, ↓oCat, ↓oCatT, ↓oCatS, ↓oIn, ↓oInS, ↓dTb, ↓dAnd, ↓dOr, ↓dNot, ↓dYes, ↓dAndV, ↓dOrV, ↓dNotV, ↓dIfV, ↓dChain, ↓dNil, ↓dCons, ↓dL, ↓dTup, ↓dCB, ↓oAbs, ↓oI2, ↓oLen, ↓oLenS, ↓oInt, ↓oSum, ↓oBs, ↓oTupOf, ↓dSeqOf, ↓dIsi, it_bool_none, it_bool_bool, it_bool_int, it_bool_str, it_bool_list, it_bool_tuple, it_bool_dict, it_int_none, it_int_bool, it_int_int, it_int_str, it_int_list, it_int_tuple, it_int_dict, it_str_none, it_str_bool, it_str_int, it_str_str, it_str_list, it_str_tuple, it_str_dict, it_list_none, it_list_bool, it_list_int, it_list_str, it_list_list, it_list_tuple, it_list_dict, it_tuple_none, it_tuple_bool, it_tuple_int, it_tuple_str, it_tuple_list, it_tuple_tuple, it_tuple_dict, it_dict_none, it_dict_bool, it_dict_int, it_dict_str, it_dict_list, it_dict_tuple, it_dict_dict, ↓dNoP, ↓dPart, ↓dSlT, ↓dSlL, ↓dSlS, ↓dCall, ↓dCallS, ↓dItL, ↓dItT, ↓dItS, ↓dR1, ↓dR2, ↓dZip, ↓dEnum, ↓gN, ↓gNi, ↓gCo, ↓gT, ↓dLc, wipeE, eget, eset, List.set, ev0, List.map_cons, List.map_nil, List.cons_append, List.nil_append, List.replicate_succ, List.replicate_zero, noOwn, isOwn, List.all_cons, List.all_nil, List.length_cons, List.length_nil, if_neg nf_e3]
    exact ⟨_, _, .ans i r, rfl, rfl, rfl, ok, q⟩
abbrev tabP : List (Str × D) := [("udp", .int 17), ("tcp", .int 6), ("echo", .int 1), ("failure", .int 1)]
theorem lk1 : List.lookup (Str.ofString "udp") tabP = some (.int 17) := rfl
theorem lk2 : List.lookup (Str.ofString "tcp") tabP = some (.int 6) := rfl
theorem lk3 : List.lookup (Str.ofString "echo") tabP = some (.int 1) := rfl
def ptL (sd : Str) (s t : Int) (bd : Bd) : List Int := [if sd = "in" then 1 else 0, bd.num, s, bd.a, t, bd.b]
theorem num1 {f t : Int} {r : List D} : (Bd.pt (Str.ofString "udp") f t r).num = 17 := by unfold Bd.num; exact if_pos rfl
theorem num2 {f t : Int} {r : List D} : (Bd.pt (Str.ofString "tcp") f t r).num = 6 := by unfold Bd.num; exact if_neg (show ¬ (Str.ofString "tcp" = Str.ofString "udp") by decide +kernel)
theorem ok_point_of (T : Tx K mg w) : FnOk P w K mg base CX0 4 T.ad_point_of T.fd_point_of ["side", "packet"] (spD K (F2 fun a b Q => ∃ sd s t bd x0 x3 x4 x5 x6, a = .str sd ∧ b = .tuple [x0, .int s, .int t, x3, x4, x5, x6, eBd bd] ∧ bd.ok ∧ Q (eP (ptL sd s t bd)))) := by
  refine T.d_point_of.F.ok x_point_of (fun vs H Q E h => spD_len F2_len h) (fun cdv A outer s H vs Q E hr h => ?_)
  have nd := x_point_of.nd
  refine ⟨_, (pss_cons (ps_set (i := 2) nd rfl (Or.inl rfl) (pe_call (ok_way_of T) hr (by rfl) T.d_way_of.g T.d_way_of.F.kp T.d_way_of.b .nil pass0 (pa_cons (pv 1) pa_nil)))
        (pss_one (ps_ret (pe_op op_catA (pe_tup (pa_cons (pe_ifExp (pt_cmpR op_eq (pv 0) pe_str (nomark _)) pe_int pe_int) (pa_cons (pe_ix ix_kdict (pe_glob (v := .ref T.a_PROTOCOLS) rfl T.g_PROTOCOLS rfl) (pe_ix ix_seq (pv 2) pe_int (fun _ _ => rfl)) (fun _ _ => rfl)) pa_nil))) (pe_slice sl_tupA (pv 2) (po_some pe_int) po_none))))), fn_pure ((rs_seq (rs_asg (re_call (raC (rn 1) raN)) (rg_name 2))
        (rs_ret (ro rv_catT (RfE.b (re_tup (raC (re_if (rt_test (ro rv_eq (RfE.b (rn 0)) (RfE.b (rc_str _)))) (rc_int _) (rc_int _)) (raC (re_kd [("udp", .int 17), ("tcp", .int 6), ("echo", .int 1), ("failure", .int 1)] (by simp only [List.forall_mem_cons]; exact ⟨⟨_, T.d_PROTOCOLS_0, .int _⟩, ⟨_, T.d_PROTOCOLS_1, .int _⟩, ⟨_, T.d_PROTOCOLS_2, .int _⟩, ⟨_, T.d_PROTOCOLS_3, .int _⟩, fun _ h => nomatch h⟩) (RfE.b (ro rv_ix (RfE.b (rn 2)) (RfE.b (rc_int _))))) raN)))) (RfE.b (re_slT (RfE.b (rn 2)) (rp_some (rc_int _)) rp_no)))))) h (by rw [spD_len F2_len h]; decide) (F2_in fun a0 a1 Qd q => ?_)⟩
  obtain ⟨sd, s, t, bd, x0, x3, x4, x5, x6, rfl, rfl, ok, q⟩ := q
  simp only [true_and, ↓sTake, ↓sTake0, ↓sPick, ↓sNumber, rng_1, rng_2, rng_3, rng_4, rng_6, ↓dKd, dix_0, dix_1, dix_2, dix_3, dix_4, dix_5, dix_6, dix_7, dix_8, dix_9, Bool.not_false, Bool.not_true, Bool.and_true, Bool.true_and, Bool.and_false, Bool.false_and, decide_eq_true_eq, Bool.not_eq_true', decide_eq_false_iff_not, Bool.false_eq_true, if_true, if_false, ↓F0, ↓F1, ↓F2, ↓F3, ↓F4, ↓F5, ↓F6, ↓dParO1, ↓dParO2, ↓dEnumT, ↓oRepr, ↓dUn, ↓oNeg, ↓dSeq, ↓dRet, ↓dRetN, ↓dIf, ↓dAsg, ↓dDrop, ↓dBreak, ↓dCont, ↓dNext, ↓dOwn, ↓dApp, ↓dSetIx, ↓dFrz, frz, ↓dPar, ↓dAug, ↓dFor, ↓dN, ↓dNB, ↓dC, ↓dOp, ↓oI, ↓oI0, ↓oB, ↓oEq, ↓oEqS, eqS, ↓oIsN, isNo, ↓oIx, ↓oIxS, seqOf, ↓oCat, ↓oCatT, ↓oCatS, ↓oIn, ↓oInS, ↓dTb, ↓dAnd, ↓dOr, ↓dNot, ↓dYes, ↓dAndV, ↓dOrV, ↓dNotV, ↓dIfV, ↓dChain, ↓dNil, ↓dCons, ↓dL, ↓dTup, ↓dCB, ↓oAbs, ↓oI2, ↓oLen, ↓oLenS, ↓oInt, ↓oSum, ↓oBs, ↓oTupOf, ↓dSeqOf, ↓dIsi, it_bool_none, it_bool_bool, it_bool_int, it_bool_str, it_bool_list, it_bool_tuple, it_bool_dict, it_int_none, it_int_bool, it_int_int, it_int_str, it_int_list, it_int_tuple, it_int_dict, it_str_none, it_str_bool, it_str_int, it_str_str, it_str_list, it_str_tuple, it_str_dict, it_list_none, it_list_bool, it_list_int, it_list_str, it_list_list, it_list_tuple, it_list_dict, it_tuple_none, it_tuple_bool, it_tuple_int, it_tuple_str, it_tuple_list, it_tuple_tuple, it_tuple_dict, it_dict_none, it_dict_bool, it_dict_int, it_dict_str, it_dict_list, it_dict_tuple, it_dict_dict, ↓dNoP, ↓dPart, ↓dSlT, ↓dSlL, ↓dSlS, ↓dCall, ↓dCallS, ↓dItL, ↓dItT, ↓dItS, ↓dR1, ↓dR2, ↓dZip, ↓dEnum, ↓gN, ↓gNi, ↓gCo, ↓gT, ↓dLc, wipeE, eget, eset, List.set, ev0, List.map_cons, List.map_nil, List.cons_append, List.nil_append, List.replicate_succ, List.replicate_zero, noOwn, isOwn, List.all_cons, List.all_nil, List.length_cons, List.length_nil]
  refine ⟨s, t, bd, x0, x3, x4, x5, x6, rfl, ok, ?_⟩
  have h1 : (0 : Int) ≤ 1 := by decide
  cases bd with
  | pt k f t' r =>
    rcases ok with rfl | rfl
    · simp only [wayD, Bd.kind, true_and, ↓sTake, ↓sTake0, ↓sPick, ↓sNumber, rng_1, rng_2, rng_3, rng_4, rng_6, ↓dKd, dix_0, dix_1, dix_2, dix_3, dix_4, dix_5, dix_6, dix_7, dix_8, dix_9, Bool.not_false, Bool.not_true, Bool.and_true, Bool.true_and, Bool.and_false, Bool.false_and, decide_eq_true_eq, Bool.not_eq_true', decide_eq_false_iff_not, Bool.false_eq_true, if_true, if_false, ↓F0, ↓F1, ↓F2, ↓F3, ↓F4, ↓F5, ↓F6, ↓dParO1, ↓dParO2, ↓dEnumT, ↓oRepr, ↓dUn, ↓oNeg, ↓dSeq, ↓dRet, ↓dRetN, ↓dIf, ↓dAsg, ↓dDrop, ↓dBreak, ↓dCont, ↓dNext, ↓dOwn, ↓dApp, ↓dSetIx, ↓dFrz, frz, ↓dPar, ↓dAug, ↓dFor, ↓dN, ↓dNB, ↓dC, ↓dOp, ↓oI, ↓oI0, ↓oB, ↓oEq, ↓oEqS, eqS, ↓oIsN, isNo, ↓oIx, ↓oIxS, seqOf, ↓oCat, ↓oCatT, ↓oCatS, ↓oIn, ↓oInS, ↓dTb, ↓dAnd, ↓dOr, ↓dNot, ↓dYes, ↓dAndV, ↓dOrV, ↓dNotV, ↓dIfV, ↓dChain, ↓dNil, ↓dCons, ↓dL, ↓dTup, ↓dCB, ↓oAbs, ↓oI2, ↓oLen, ↓oLenS, ↓oInt, ↓oSum, ↓oBs, ↓oTupOf, ↓dSeqOf, ↓dIsi, it_bool_none, it_bool_bool, it_bool_int, it_bool_str, it_bool_list, it_bool_tuple, it_bool_dict, it_int_none, it_int_bool, it_int_int, it_int_str, it_int_list, it_int_tuple, it_int_dict, it_str_none, it_str_bool, it_str_int, it_str_str, it_str_list, it_str_tuple, it_str_dict, it_list_none, it_list_bool, it_list_int, it_list_str, it_list_list, it_list_tuple, it_list_dict, it_tuple_none, it_tuple_bool, it_tuple_int, it_tuple_str, it_tuple_list, it_tuple_tuple, it_tuple_dict, it_dict_none, it_dict_bool, it_dict_int, it_dict_str, it_dict_list, it_dict_tuple, it_dict_dict, ↓dNoP, ↓dPart, ↓dSlT, ↓dSlL, ↓dSlS, ↓dCall, ↓dCallS, ↓dItL, ↓dItT, ↓dItS, ↓dR1, ↓dR2, ↓dZip, ↓dEnum, ↓gN, ↓gNi, ↓gCo, ↓gT, ↓dLc, wipeE, eget, eset, List.set, ev0, List.map_cons, List.map_nil, List.cons_append, List.nil_append, List.replicate_succ, List.replicate_zero, noOwn, isOwn, List.all_cons, List.all_nil, List.length_cons, List.length_nil, lk1, cut_hi _ h1]
      unfold ptL at q
      rw [num1] at q
      split <;> rename_i c
      · rw [if_pos c] at q; exact ⟨by show 6 ≤ sizeLine; decide, q⟩
      · rw [if_neg c] at q; exact ⟨by show 6 ≤ sizeLine; decide, q⟩
    · simp only [wayD, Bd.kind, true_and, ↓sTake, ↓sTake0, ↓sPick, ↓sNumber, rng_1, rng_2, rng_3, rng_4, rng_6, ↓dKd, dix_0, dix_1, dix_2, dix_3, dix_4, dix_5, dix_6, dix_7, dix_8, dix_9, Bool.not_false, Bool.not_true, Bool.and_true, Bool.true_and, Bool.and_false, Bool.false_and, decide_eq_true_eq, Bool.not_eq_true', decide_eq_false_iff_not, Bool.false_eq_true, if_true, if_false, ↓F0, ↓F1, ↓F2, ↓F3, ↓F4, ↓F5, ↓F6, ↓dParO1, ↓dParO2, ↓dEnumT, ↓oRepr, ↓dUn, ↓oNeg, ↓dSeq, ↓dRet, ↓dRetN, ↓dIf, ↓dAsg, ↓dDrop, ↓dBreak, ↓dCont, ↓dNext, ↓dOwn, ↓dApp, ↓dSetIx, ↓dFrz, frz, ↓dPar, ↓dAug, ↓dFor, ↓dN, ↓dNB, ↓dC, ↓dOp, ↓oI, ↓oI0, ↓oB, ↓oEq, ↓oEqS, eqS, ↓oIsN, isNo, ↓oIx, ↓oIxS, seqOf, ↓oCat, ↓oCatT, ↓oCatS, ↓oIn, ↓oInS, ↓dTb, ↓dAnd, ↓dOr, ↓dNot, ↓dYes, ↓dAndV, ↓dOrV, ↓dNotV, ↓dIfV, ↓dChain, ↓dNil, ↓dCons, ↓dL, ↓dTup, ↓dCB, ↓oAbs, ↓oI2, ↓oLen, ↓oLenS, ↓oInt, ↓oSum, ↓oBs, ↓oTupOf, ↓dSeqOf, ↓dIsi, it_bool_none, it_bool_bool, it_bool_int, it_bool_str, it_bool_list, it_bool_tuple, it_bool_dict, it_int_none, it_int_bool, it_int_int, it_int_str, it_int_list, it_int_tuple, it_int_dict, it_str_none, it_str_bool, it_str_int, it_str_str, it_str_list, it_str_tuple, it_str_dict, it_list_none, it_list_bool, it_list_int, it_list_str, it_list_list, it_list_tuple, it_list_dict, it_tuple_none, it_tuple_bool, it_tuple_int, it_tuple_str, it_tuple_list, it_tuple_tuple, it_tuple_dict, it_dict_none, it_dict_bool, it_dict_int, it_dict_str, it_dict_list, it_dict_tuple, it_dict_dict, ↓dNoP, ↓dPart, ↓dSlT, ↓dSlL, ↓dSlS, ↓dCall, ↓dCallS, ↓dItL, ↓dItT, ↓dItS, ↓dR1, ↓dR2, ↓dZip, ↓dEnum, ↓gN, ↓gNi, ↓gCo, ↓gT, ↓dLc, wipeE, eget, eset, List.set, ev0, List.map_cons, List.map_nil, List.cons_append, List.nil_append, List.replicate_succ, List.replicate_zero, noOwn, isOwn, List.all_cons, List.all_nil, List.length_cons, List.length_nil, lk2, cut_hi _ h1]
      unfold ptL at q
      rw [num2] at q
      split <;> rename_i c
      · rw [if_pos c] at q; exact ⟨by show 6 ≤ sizeLine; decide, q⟩
      · rw [if_neg c] at q; exact ⟨by show 6 ≤ sizeLine; decide, q⟩
  | ask i r =>
    simp only [wayD, Bd.kind, true_and, ↓sTake, ↓sTake0, ↓sPick, ↓sNumber, rng_1, rng_2, rng_3, rng_4, rng_6, ↓dKd, dix_0, dix_1, dix_2, dix_3, dix_4, dix_5, dix_6, dix_7, dix_8, dix_9, Bool.not_false, Bool.not_true, Bool.and_true, Bool.true_and, Bool.and_false, Bool.false_and, decide_eq_true_eq, Bool.not_eq_true', decide_eq_false_iff_not, Bool.false_eq_true, if_true, if_false, ↓F0, ↓F1, ↓F2, ↓F3, ↓F4, ↓F5, ↓F6, ↓dParO1, ↓dParO2, ↓dEnumT, ↓oRepr, ↓dUn, ↓oNeg, ↓dSeq, ↓dRet, ↓dRetN, ↓dIf, ↓dAsg, ↓dDrop, ↓dBreak, ↓dCont, ↓dNext, ↓dOwn, ↓dApp, ↓dSetIx, ↓dFrz, frz, ↓dPar, ↓dAug, ↓dFor, ↓dN, ↓dNB, ↓dC, ↓dOp, ↓oI, ↓oI0, ↓oB, ↓oEq, ↓oEqS, eqS, ↓oIsN, isNo, ↓oIx, ↓oIxS, seqOf, ↓oCat, ↓oCatT, ↓oCatS, ↓oIn, ↓oInS, ↓dTb, ↓dAnd, ↓dOr, ↓dNot, ↓dYes, ↓dAndV, ↓dOrV, ↓dNotV, ↓dIfV, ↓dChain, ↓dNil, ↓dCons, ↓dL, ↓dTup, ↓dCB, ↓oAbs, ↓oI2, ↓oLen, ↓oLenS, ↓oInt, ↓oSum, ↓oBs, ↓oTupOf, ↓dSeqOf, ↓dIsi, it_bool_none, it_bool_bool, it_bool_int, it_bool_str, it_bool_list, it_bool_tuple, it_bool_dict, it_int_none, it_int_bool, it_int_int, it_int_str, it_int_list, it_int_tuple, it_int_dict, it_str_none, it_str_bool, it_str_int, it_str_str, it_str_list, it_str_tuple, it_str_dict, it_list_none, it_list_bool, it_list_int, it_list_str, it_list_list, it_list_tuple, it_list_dict, it_tuple_none, it_tuple_bool, it_tuple_int, it_tuple_str, it_tuple_list, it_tuple_tuple, it_tuple_dict, it_dict_none, it_dict_bool, it_dict_int, it_dict_str, it_dict_list, it_dict_tuple, it_dict_dict, ↓dNoP, ↓dPart, ↓dSlT, ↓dSlL, ↓dSlS, ↓dCall, ↓dCallS, ↓dItL, ↓dItT, ↓dItS, ↓dR1, ↓dR2, ↓dZip, ↓dEnum, ↓gN, ↓gNi, ↓gCo, ↓gT, ↓dLc, wipeE, eget, eset, List.set, ev0, List.map_cons, List.map_nil, List.cons_append, List.nil_append, List.replicate_succ, List.replicate_zero, noOwn, isOwn, List.all_cons, List.all_nil, List.length_cons, List.length_nil, lk3, cut_hi _ h1]
    unfold ptL at q
    split <;> rename_i c
    · rw [if_pos c] at q; exact ⟨by show 6 ≤ sizeLine; decide, q⟩
    · rw [if_neg c] at q; exact ⟨by show 6 ≤ sizeLine; decide, q⟩
  | ans i r =>
    simp only [wayD, Bd.kind, true_and, ↓sTake, ↓sTake0, ↓sPick, ↓sNumber, rng_1, rng_2, rng_3, rng_4, rng_6, ↓dKd, dix_0, dix_1, dix_2, dix_3, dix_4, dix_5, dix_6, dix_7, dix_8, dix_9, Bool.not_false, Bool.not_true, Bool.and_true, Bool.true_and, Bool.and_false, Bool.false_and, decide_eq_true_eq, Bool.not_eq_true', decide_eq_false_iff_not, Bool.false_eq_true, if_true, if_false, ↓F0, ↓F1, ↓F2, ↓F3, ↓F4, ↓F5, ↓F6, ↓dParO1, ↓dParO2, ↓dEnumT, ↓oRepr, ↓dUn, ↓oNeg, ↓dSeq, ↓dRet, ↓dRetN, ↓dIf, ↓dAsg, ↓dDrop, ↓dBreak, ↓dCont, ↓dNext, ↓dOwn, ↓dApp, ↓dSetIx, ↓dFrz, frz, ↓dPar, ↓dAug, ↓dFor, ↓dN, ↓dNB, ↓dC, ↓dOp, ↓oI, ↓oI0, ↓oB, ↓oEq, ↓oEqS, eqS, ↓oIsN, isNo, ↓oIx, ↓oIxS, seqOf, ↓oCat, ↓oCatT, ↓oCatS, ↓oIn, ↓oInS, ↓dTb, ↓dAnd, ↓dOr, ↓dNot, ↓dYes, ↓dAndV, ↓dOrV, ↓dNotV, ↓dIfV, ↓dChain, ↓dNil, ↓dCons, ↓dL, ↓dTup, ↓dCB, ↓oAbs, ↓oI2, ↓oLen, ↓oLenS, ↓oInt, ↓oSum, ↓oBs, ↓oTupOf, ↓dSeqOf, ↓dIsi, it_bool_none, it_bool_bool, it_bool_int, it_bool_str, it_bool_list, it_bool_tuple, it_bool_dict, it_int_none, it_int_bool, it_int_int, it_int_str, it_int_list, it_int_tuple, it_int_dict, it_str_none, it_str_bool, it_str_int, it_str_str, it_str_list, it_str_tuple, it_str_dict, it_list_none, it_list_bool, it_list_int, it_list_str, it_list_list, it_list_tuple, it_list_dict, it_tuple_none, it_tuple_bool, it_tuple_int, it_tuple_str, it_tuple_list, it_tuple_tuple, it_tuple_dict, it_dict_none, it_dict_bool, it_dict_int, it_dict_str, it_dict_list, it_dict_tuple, it_dict_dict, ↓dNoP, ↓dPart, ↓dSlT, ↓dSlL, ↓dSlS, ↓dCall, ↓dCallS, ↓dItL, ↓dItT, ↓dItS, ↓dR1, ↓dR2, ↓dZip, ↓dEnum, ↓gN, ↓gNi, ↓gCo, ↓gT, ↓dLc, wipeE, eget, eset, List.set, ev0, List.map_cons, List.map_nil, List.cons_append, List.nil_append, List.replicate_succ, List.replicate_zero, noOwn, isOwn, List.all_cons, List.all_nil, List.length_cons, List.length_nil, lk3, cut_hi _ h1]
    unfold ptL at q
    split <;> rename_i c
    · rw [if_pos c] at q; exact ⟨by show 6 ≤ sizeLine; decide, q⟩
    · rw [if_neg c] at q; exact ⟨by show 6 ≤ sizeLine; decide, q⟩
theorem ok_row_has (T : Tx K mg w) : FnOk P w K mg base CX0 1 T.ad_row_has T.fd_row_has ["row", "number"] (spD K (F2 fun a b Q => ∃ r n, a = eRow r ∧ b = .int n ∧ Q (.bool (rowHas r n)))) := by
  refine T.d_row_has.F.ok x_row_has (fun vs H Q E h => spD_len F2_len h) (fun cdv A outer s H vs Q E hr h => ?_)
  have nd := x_row_has.nd
  refine ⟨_, (pss_cons (ps_for PassesOwn.never rfl (pi_tup (pv 0)) (pg_tup (n := 2) rfl (pgs_cons (pg_name (i := 2) nd rfl (Or.inl rfl)) (pgs_cons (pg_name (i := 3) nd rfl (Or.inl rfl)) pgs_nil))) (pss_one (ps_if (pt_chain op_le op_le (pv 2) (pv 1) (pv 3)) (pss_one (ps_ret pe_bl)) pss_nil)))
        (pss_one (ps_ret pe_bl))), fn_pure ((rs_seq (rs_for (ri_tup (rn 0)) (rg_tup (rg_cons (rg_name 2) (rg_cons (rg_name 3) rg_nil))) (rs_if (rt_test (re_chain rv_le rv_le (RfE.b (rn 2)) (RfE.b (rn 1)) (RfE.b (rn 3)))) (rs_ret (rc_bl _)) rs_next))
        (rs_ret (rc_bl _)))) h (by rw [spD_len F2_len h]; decide) (F2_in fun a0 a1 Qd q => ?_)⟩
  obtain ⟨r, n, rfl, rfl, q⟩ := q
  simp only [eRow, true_and, ↓sTake, ↓sTake0, ↓sPick, ↓sNumber, rng_1, rng_2, rng_3, rng_4, rng_6, ↓dKd, dix_0, dix_1, dix_2, dix_3, dix_4, dix_5, dix_6, dix_7, dix_8, dix_9, Bool.not_false, Bool.not_true, Bool.and_true, Bool.true_and, Bool.and_false, Bool.false_and, decide_eq_true_eq, Bool.not_eq_true', decide_eq_false_iff_not, Bool.false_eq_true, if_true, if_false, ↓F0, ↓F1, ↓F2, ↓F3, ↓F4, ↓F5, ↓F6, ↓dParO1, ↓dParO2, ↓dEnumT, ↓oRepr, ↓dUn, ↓oNeg, ↓dSeq, ↓dRet, ↓dRetN, ↓dIf, ↓dAsg, ↓dDrop, ↓dBreak, ↓dCont, ↓dNext, ↓dOwn, ↓dApp, ↓dSetIx, ↓dFrz, frz, ↓dPar, ↓dAug, ↓dFor, ↓dN, ↓dNB, ↓dC, ↓dOp, ↓oI, ↓oI0, ↓oB, ↓oEq, ↓oEqS, eqS, ↓oIsN, isNo, ↓oIx, ↓oIxS, seqOf, ↓oCat, ↓oCatT, ↓oCatS, ↓oIn, ↓oInS, ↓dTb, ↓dAnd, ↓dOr, ↓dNot, ↓dYes, ↓dAndV, ↓dOrV, ↓dNotV, ↓dIfV, ↓dChain, ↓dNil, ↓dCons, ↓dL, ↓dTup, ↓dCB, ↓oAbs, ↓oI2, ↓oLen, ↓oLenS, ↓oInt, ↓oSum, ↓oBs, ↓oTupOf, ↓dSeqOf, ↓dIsi, it_bool_none, it_bool_bool, it_bool_int, it_bool_str, it_bool_list, it_bool_tuple, it_bool_dict, it_int_none, it_int_bool, it_int_int, it_int_str, it_int_list, it_int_tuple, it_int_dict, it_str_none, it_str_bool, it_str_int, it_str_str, it_str_list, it_str_tuple, it_str_dict, it_list_none, it_list_bool, it_list_int, it_list_str, it_list_list, it_list_tuple, it_list_dict, it_tuple_none, it_tuple_bool, it_tuple_int, it_tuple_str, it_tuple_list, it_tuple_tuple, it_tuple_dict, it_dict_none, it_dict_bool, it_dict_int, it_dict_str, it_dict_list, it_dict_tuple, it_dict_dict, ↓dNoP, ↓dPart, ↓dSlT, ↓dSlL, ↓dSlS, ↓dCall, ↓dCallS, ↓dItL, ↓dItT, ↓dItS, ↓dR1, ↓dR2, ↓dZip, ↓dEnum, ↓gN, ↓gNi, ↓gCo, ↓gT, ↓dLc, wipeE, eget, eset, List.set, ev0, List.map_cons, List.map_nil, List.cons_append, List.nil_append, List.replicate_succ, List.replicate_zero, noOwn, isOwn, List.all_cons, List.all_nil, List.length_cons, List.length_nil]
  refine loop_by (fun rest env => ∃ r' s2 s3, rest = r'.map eR ∧ rowHas r' n = rowHas r n ∧ env = [some (En.d (eRow r)), some (En.d (.int n)), s2, s3]) ?_ ?_ _ _ ⟨r, _, _, rfl, rfl, rfl⟩
  · rintro env ⟨r', s4, s5, h1, h2, rfl⟩
    cases r' with
    | nil => rw [← h2] at q; exact q
    | cons _ _ => cases h1
  · rintro d rest env N ⟨r', s4, s5, h1, h2, rfl⟩ hN
    cases r' with
    | nil => cases h1
    | cons a r' =>
      cases h1
      simp only [eR, true_and, ↓sTake, ↓sTake0, ↓sPick, ↓sNumber, rng_1, rng_2, rng_3, rng_4, rng_6, ↓dKd, dix_0, dix_1, dix_2, dix_3, dix_4, dix_5, dix_6, dix_7, dix_8, dix_9, Bool.not_false, Bool.not_true, Bool.and_true, Bool.true_and, Bool.and_false, Bool.false_and, decide_eq_true_eq, Bool.not_eq_true', decide_eq_false_iff_not, Bool.false_eq_true, if_true, if_false, ↓F0, ↓F1, ↓F2, ↓F3, ↓F4, ↓F5, ↓F6, ↓dParO1, ↓dParO2, ↓dEnumT, ↓oRepr, ↓dUn, ↓oNeg, ↓dSeq, ↓dRet, ↓dRetN, ↓dIf, ↓dAsg, ↓dDrop, ↓dBreak, ↓dCont, ↓dNext, ↓dOwn, ↓dApp, ↓dSetIx, ↓dFrz, frz, ↓dPar, ↓dAug, ↓dFor, ↓dN, ↓dNB, ↓dC, ↓dOp, ↓oI, ↓oI0, ↓oB, ↓oEq, ↓oEqS, eqS, ↓oIsN, isNo, ↓oIx, ↓oIxS, seqOf, ↓oCat, ↓oCatT, ↓oCatS, ↓oIn, ↓oInS, ↓dTb, ↓dAnd, ↓dOr, ↓dNot, ↓dYes, ↓dAndV, ↓dOrV, ↓dNotV, ↓dIfV, ↓dChain, ↓dNil, ↓dCons, ↓dL, ↓dTup, ↓dCB, ↓oAbs, ↓oI2, ↓oLen, ↓oLenS, ↓oInt, ↓oSum, ↓oBs, ↓oTupOf, ↓dSeqOf, ↓dIsi, it_bool_none, it_bool_bool, it_bool_int, it_bool_str, it_bool_list, it_bool_tuple, it_bool_dict, it_int_none, it_int_bool, it_int_int, it_int_str, it_int_list, it_int_tuple, it_int_dict, it_str_none, it_str_bool, it_str_int, it_str_str, it_str_list, it_str_tuple, it_str_dict, it_list_none, it_list_bool, it_list_int, it_list_str, it_list_list, it_list_tuple, it_list_dict, it_tuple_none, it_tuple_bool, it_tuple_int, it_tuple_str, it_tuple_list, it_tuple_tuple, it_tuple_dict, it_dict_none, it_dict_bool, it_dict_int, it_dict_str, it_dict_list, it_dict_tuple, it_dict_dict, ↓dNoP, ↓dPart, ↓dSlT, ↓dSlL, ↓dSlS, ↓dCall, ↓dCallS, ↓dItL, ↓dItT, ↓dItS, ↓dR1, ↓dR2, ↓dZip, ↓dEnum, ↓gN, ↓gNi, ↓gCo, ↓gT, ↓dLc, wipeE, eget, eset, List.set, ev0, List.map_cons, List.map_nil, List.cons_append, List.nil_append, List.replicate_succ, List.replicate_zero, noOwn, isOwn, List.all_cons, List.all_nil, List.length_cons, List.length_nil]
      unfold rowHas at h2
      rw [List.any_cons] at h2
      by_cases c1 : a.1 ≤ n
      · rw [if_pos c1]
        by_cases c2 : n ≤ a.2
        · rw [if_pos c2]
          rw [decT c1, decT c2, Bool.and_self, Bool.true_or] at h2
          unfold rowHas at q
          rw [← h2] at q
          exact q
        · rw [if_neg c2]
          exact hN _ ⟨r', _, _, rfl, by rw [decide_eq_false c2, Bool.and_false, Bool.false_or] at h2; exact h2, rfl⟩
      · rw [if_neg c1]
        exact hN _ ⟨r', _, _, rfl, by rw [decide_eq_false c1, Bool.false_and, Bool.false_or] at h2; exact h2, rfl⟩
theorem ok_decider (T : Tx K mg w) : FnOk P w K mg base CX0 2 T.ad_decider T.fd_decider ["table", "point"] (spD K (F2 fun a b Q => ∃ t p, a = eT t ∧ b = eP p ∧ t.1.length ≤ 1000 ∧ p.length ≤ 1000 ∧ Q (.int (decN p t.1 : Nat)))) := by
  refine T.d_decider.F.ok x_decider (fun vs H Q E h => spD_len F2_len h) (fun cdv A outer s H vs Q E hr h => ?_)
  have nd := x_decider.nd
  refine ⟨_, (pss_cons (ps_set (i := 2) nd rfl (Or.inl rfl) (pe_ix ix_seq (pv 0) pe_int (fun _ _ => rfl)))
        (pss_cons (ps_for PassesOwn.never rfl (pi_enumT (by rfl) T.b_enumerate (pa_cons (pv 2) pa_nil)) (pg_tup (n := 2) rfl (pgs_cons (pg_name (i := 3) nd rfl (Or.inl rfl)) (pgs_cons (pg_name (i := 4) nd rfl (Or.inl rfl)) pgs_nil))) (pss_one (ps_if (pt_val (pe_callB (cr_all rfl) (by rfl) T.b_all (by decide +kernel) (pa_cons (pe_lc (own := [("row", 5), ("number", 6)]) (g := (gTup K 2 (gCons (gName 5) (gCons (gName 6) gNil)))) rfl nd (RZ.pi_zipA (by rfl) T.b_zip (pa_cons (pe_ix ix_seq (pv 4) pe_int (fun _ _ => rfl)) (pa_cons (pv 1) pa_nil))) (blkOk_by (own := [("row", 5), ("number", 6)]) (N := Ns_decider) (sc := defScope s_decider) (by decide +kernel)) (fun _ _ _ _ _ => (pg_tup (n := 2) rfl (pgs_cons (pg_name (i := 5) nd rfl (Or.inl rfl)) (pgs_cons (pg_name (i := 6) nd rfl (Or.inl rfl)) pgs_nil)))) (fun _ _ _ _ _ => pts_nil) (fun _ _ _ _ _ => (pe_call (ok_row_has T) hr (by rfl) T.d_row_has.g T.d_row_has.F.kp T.d_row_has.b .nil pass0 (pa_cons (pv 5) (pa_cons (pv 6) pa_nil))))) pa_nil))) (pss_one (ps_ret (pv 3))) pss_nil)))
        (pss_one (ps_ret (pe_callB call_len_seq (by rfl) T.b_len (by decide +kernel) (pa_cons (pv 2) pa_nil)))))), fn_pure ((rs_seq (rs_asg (ro rv_ix (RfE.b (rn 0)) (RfE.b (rc_int _))) (rg_name 2))
        (rs_seq (rs_for (ri_enumT (raC (rn 2) raN)) (rg_tup (rg_cons (rg_name 3) (rg_cons (rg_name 4) rg_nil))) (rs_if (rt_val (re_cb ro_all (rbC (RfE.b (RfF.e (rf_lc (ri_zip (raC (ro rv_ix (RfE.b (rn 4)) (RfE.b (rc_int _))) (raC (rn 1) raN))) (rg_tup (rg_cons (rg_name 5) (rg_cons (rg_name 6) rg_nil))) rt_yes (re_call (raC (rn 5) (raC (rn 6) raN)))))) rbN))) (rs_ret (rn 3)) rs_next))
        (rs_ret (re_cb ro_len (rbC (RfE.b (rn 2)) rbN)))))) h (by rw [spD_len F2_len h]; decide) (F2_in fun a0 a1 Qd q => ?_)⟩
  obtain ⟨t, p, rfl, rfl, hl, hp, q⟩ := q
  simp only [eT, eP, true_and, ↓sTake, ↓sTake0, ↓sPick, ↓sNumber, rng_1, rng_2, rng_3, rng_4, rng_6, ↓dKd, dix_0, dix_1, dix_2, dix_3, dix_4, dix_5, dix_6, dix_7, dix_8, dix_9, Bool.not_false, Bool.not_true, Bool.and_true, Bool.true_and, Bool.and_false, Bool.false_and, decide_eq_true_eq, Bool.not_eq_true', decide_eq_false_iff_not, Bool.false_eq_true, if_true, if_false, ↓F0, ↓F1, ↓F2, ↓F3, ↓F4, ↓F5, ↓F6, ↓dParO1, ↓dParO2, ↓dEnumT, ↓oRepr, ↓dUn, ↓oNeg, ↓dSeq, ↓dRet, ↓dRetN, ↓dIf, ↓dAsg, ↓dDrop, ↓dBreak, ↓dCont, ↓dNext, ↓dOwn, ↓dApp, ↓dSetIx, ↓dFrz, frz, ↓dPar, ↓dAug, ↓dFor, ↓dN, ↓dNB, ↓dC, ↓dOp, ↓oI, ↓oI0, ↓oB, ↓oEq, ↓oEqS, eqS, ↓oIsN, isNo, ↓oIx, ↓oIxS, seqOf, ↓oCat, ↓oCatT, ↓oCatS, ↓oIn, ↓oInS, ↓dTb, ↓dAnd, ↓dOr, ↓dNot, ↓dYes, ↓dAndV, ↓dOrV, ↓dNotV, ↓dIfV, ↓dChain, ↓dNil, ↓dCons, ↓dL, ↓dTup, ↓dCB, ↓oAbs, ↓oI2, ↓oLen, ↓oLenS, ↓oInt, ↓oSum, ↓oBs, ↓oTupOf, ↓dSeqOf, ↓dIsi, it_bool_none, it_bool_bool, it_bool_int, it_bool_str, it_bool_list, it_bool_tuple, it_bool_dict, it_int_none, it_int_bool, it_int_int, it_int_str, it_int_list, it_int_tuple, it_int_dict, it_str_none, it_str_bool, it_str_int, it_str_str, it_str_list, it_str_tuple, it_str_dict, it_list_none, it_list_bool, it_list_int, it_list_str, it_list_list, it_list_tuple, it_list_dict, it_tuple_none, it_tuple_bool, it_tuple_int, it_tuple_str, it_tuple_list, it_tuple_tuple, it_tuple_dict, it_dict_none, it_dict_bool, it_dict_int, it_dict_str, it_dict_list, it_dict_tuple, it_dict_dict, ↓dNoP, ↓dPart, ↓dSlT, ↓dSlL, ↓dSlS, ↓dCall, ↓dCallS, ↓dItL, ↓dItT, ↓dItS, ↓dR1, ↓dR2, ↓dZip, ↓dEnum, ↓gN, ↓gNi, ↓gCo, ↓gT, ↓dLc, wipeE, eget, eset, List.set, ev0, List.map_cons, List.map_nil, List.cons_append, List.nil_append, List.replicate_succ, List.replicate_zero, noOwn, isOwn, List.all_cons, List.all_nil, List.length_cons, List.length_nil]
  rw [enum_map]
  refine loop_by (fun rest env => ∃ (us : List Rule) (k : Nat) (s3 s4 s5 s6 : Option En), rest = (us.zipIdx k).map (fun x => PyData.tuple [.int (x.2 : Nat), eRu x.1]) ∧ k + decN p us = decN p t.1 ∧ k + us.length = t.1.length ∧ isOwn [s5, s6] 0 = false ∧ isOwn [s5, s6] 1 = false ∧
    env = [some (En.d (eT t)), some (En.d (eP p)), some (En.d (.tuple (t.1.map eRu))), s3, s4, s5, s6]) ?_ ?_ _ _ ⟨t.1, 0, none, none, none, none, rfl, Nat.zero_add _, Nat.zero_add _, rfl, rfl, rfl⟩
  · rintro env ⟨us, k, s3, s4, s5, s6, h1, h2, h3, h4, h5, rfl⟩
    cases us with
    | nil =>
      simp only [true_and, ↓sTake, ↓sTake0, ↓sPick, ↓sNumber, rng_1, rng_2, rng_3, rng_4, rng_6, ↓dKd, dix_0, dix_1, dix_2, dix_3, dix_4, dix_5, dix_6, dix_7, dix_8, dix_9, Bool.not_false, Bool.not_true, Bool.and_true, Bool.true_and, Bool.and_false, Bool.false_and, decide_eq_true_eq, Bool.not_eq_true', decide_eq_false_iff_not, Bool.false_eq_true, if_true, if_false, ↓F0, ↓F1, ↓F2, ↓F3, ↓F4, ↓F5, ↓F6, ↓dParO1, ↓dParO2, ↓dEnumT, ↓oRepr, ↓dUn, ↓oNeg, ↓dSeq, ↓dRet, ↓dRetN, ↓dIf, ↓dAsg, ↓dDrop, ↓dBreak, ↓dCont, ↓dNext, ↓dOwn, ↓dApp, ↓dSetIx, ↓dFrz, frz, ↓dPar, ↓dAug, ↓dFor, ↓dN, ↓dNB, ↓dC, ↓dOp, ↓oI, ↓oI0, ↓oB, ↓oEq, ↓oEqS, eqS, ↓oIsN, isNo, ↓oIx, ↓oIxS, seqOf, ↓oCat, ↓oCatT, ↓oCatS, ↓oIn, ↓oInS, ↓dTb, ↓dAnd, ↓dOr, ↓dNot, ↓dYes, ↓dAndV, ↓dOrV, ↓dNotV, ↓dIfV, ↓dChain, ↓dNil, ↓dCons, ↓dL, ↓dTup, ↓dCB, ↓oAbs, ↓oI2, ↓oLen, ↓oLenS, ↓oInt, ↓oSum, ↓oBs, ↓oTupOf, ↓dSeqOf, ↓dIsi, it_bool_none, it_bool_bool, it_bool_int, it_bool_str, it_bool_list, it_bool_tuple, it_bool_dict, it_int_none, it_int_bool, it_int_int, it_int_str, it_int_list, it_int_tuple, it_int_dict, it_str_none, it_str_bool, it_str_int, it_str_str, it_str_list, it_str_tuple, it_str_dict, it_list_none, it_list_bool, it_list_int, it_list_str, it_list_list, it_list_tuple, it_list_dict, it_tuple_none, it_tuple_bool, it_tuple_int, it_tuple_str, it_tuple_list, it_tuple_tuple, it_tuple_dict, it_dict_none, it_dict_bool, it_dict_int, it_dict_str, it_dict_list, it_dict_tuple, it_dict_dict, ↓dNoP, ↓dPart, ↓dSlT, ↓dSlL, ↓dSlS, ↓dCall, ↓dCallS, ↓dItL, ↓dItT, ↓dItS, ↓dR1, ↓dR2, ↓dZip, ↓dEnum, ↓gN, ↓gNi, ↓gCo, ↓gT, ↓dLc, wipeE, eget, eset, List.set, ev0, List.map_cons, List.map_nil, List.cons_append, List.nil_append, List.replicate_succ, List.replicate_zero, noOwn, isOwn, List.all_cons, List.all_nil, List.length_cons, List.length_nil, List.length_map]
      have : decN p t.1 = t.1.length := by rw [← h2, ← h3]; rfl
      rw [this] at q
      exact q
    | cons _ _ => rw [List.zipIdx_cons] at h1; cases h1
  · rintro d rest env N ⟨us, k, s3, s4, s5, s6, h1, h2, h3, h4, h5, rfl⟩ hN
    cases us with
    | nil => cases h1
    | cons u us =>
      rw [List.zipIdx_cons, List.map_cons] at h1
      cases h1
      have o5 : isOwn [some (En.d (eT t)), some (En.d (eP p)), some (En.d (.tuple (t.1.map eRu))), some (En.d (.int (k : Nat))), some (En.d (eRu u)), s5, s6] 5 = false := h4
      have o6 : isOwn [some (En.d (eT t)), some (En.d (eP p)), some (En.d (.tuple (t.1.map eRu))), some (En.d (.int (k : Nat))), some (En.d (eRu u)), s5, s6] 6 = false := h5
      unfold isOwn at o5 o6
      simp only [eget] at o5 o6
      simp only [eRu, eM, eP, true_and, ↓sTake, ↓sTake0, ↓sPick, ↓sNumber, rng_1, rng_2, rng_3, rng_4, rng_6, ↓dKd, dix_0, dix_1, dix_2, dix_3, dix_4, dix_5, dix_6, dix_7, dix_8, dix_9, Bool.not_false, Bool.not_true, Bool.and_true, Bool.true_and, Bool.and_false, Bool.false_and, decide_eq_true_eq, Bool.not_eq_true', decide_eq_false_iff_not, Bool.false_eq_true, if_true, if_false, ↓F0, ↓F1, ↓F2, ↓F3, ↓F4, ↓F5, ↓F6, ↓dParO1, ↓dParO2, ↓dEnumT, ↓oRepr, ↓dUn, ↓oNeg, ↓dSeq, ↓dRet, ↓dRetN, ↓dIf, ↓dAsg, ↓dDrop, ↓dBreak, ↓dCont, ↓dNext, ↓dOwn, ↓dApp, ↓dSetIx, ↓dFrz, frz, ↓dPar, ↓dAug, ↓dFor, ↓dN, ↓dNB, ↓dC, ↓dOp, ↓oI, ↓oI0, ↓oB, ↓oEq, ↓oEqS, eqS, ↓oIsN, isNo, ↓oIx, ↓oIxS, seqOf, ↓oCat, ↓oCatT, ↓oCatS, ↓oIn, ↓oInS, ↓dTb, ↓dAnd, ↓dOr, ↓dNot, ↓dYes, ↓dAndV, ↓dOrV, ↓dNotV, ↓dIfV, ↓dChain, ↓dNil, ↓dCons, ↓dL, ↓dTup, ↓dCB, ↓oAbs, ↓oI2, ↓oLen, ↓oLenS, ↓oInt, ↓oSum, ↓oBs, ↓oTupOf, ↓dSeqOf, ↓dIsi, it_bool_none, it_bool_bool, it_bool_int, it_bool_str, it_bool_list, it_bool_tuple, it_bool_dict, it_int_none, it_int_bool, it_int_int, it_int_str, it_int_list, it_int_tuple, it_int_dict, it_str_none, it_str_bool, it_str_int, it_str_str, it_str_list, it_str_tuple, it_str_dict, it_list_none, it_list_bool, it_list_int, it_list_str, it_list_list, it_list_tuple, it_list_dict, it_tuple_none, it_tuple_bool, it_tuple_int, it_tuple_str, it_tuple_list, it_tuple_tuple, it_tuple_dict, it_dict_none, it_dict_bool, it_dict_int, it_dict_str, it_dict_list, it_dict_tuple, it_dict_dict, ↓dNoP, ↓dPart, ↓dSlT, ↓dSlL, ↓dSlS, ↓dCall, ↓dCallS, ↓dItL, ↓dItT, ↓dItS, ↓dR1, ↓dR2, ↓dZip, ↓dEnum, ↓gN, ↓gNi, ↓gCo, ↓gT, ↓dLc, wipeE, eget, eset, List.set, ev0, List.map_cons, List.map_nil, List.cons_append, List.nil_append, List.replicate_succ, List.replicate_zero, noOwn, isOwn, List.all_cons, List.all_nil, List.length_cons, List.length_nil, o5, o6, zip_map]
      refine ⟨by rw [List.length_map, List.length_zip]; omega, ?_⟩
      refine lc_fun (fun x : Row × Int => PyData.tuple [eRow x.1, .int x.2]) (fun x => some (.bool (rowHas x.1 x.2))) (as := u.1.zip p) (fun x hx R hR => ?_) ?_
      · simp only [true_and, ↓sTake, ↓sTake0, ↓sPick, ↓sNumber, rng_1, rng_2, rng_3, rng_4, rng_6, ↓dKd, dix_0, dix_1, dix_2, dix_3, dix_4, dix_5, dix_6, dix_7, dix_8, dix_9, Bool.not_false, Bool.not_true, Bool.and_true, Bool.true_and, Bool.and_false, Bool.false_and, decide_eq_true_eq, Bool.not_eq_true', decide_eq_false_iff_not, Bool.false_eq_true, if_true, if_false, ↓F0, ↓F1, ↓F2, ↓F3, ↓F4, ↓F5, ↓F6, ↓dParO1, ↓dParO2, ↓dEnumT, ↓oRepr, ↓dUn, ↓oNeg, ↓dSeq, ↓dRet, ↓dRetN, ↓dIf, ↓dAsg, ↓dDrop, ↓dBreak, ↓dCont, ↓dNext, ↓dOwn, ↓dApp, ↓dSetIx, ↓dFrz, frz, ↓dPar, ↓dAug, ↓dFor, ↓dN, ↓dNB, ↓dC, ↓dOp, ↓oI, ↓oI0, ↓oB, ↓oEq, ↓oEqS, eqS, ↓oIsN, isNo, ↓oIx, ↓oIxS, seqOf, ↓oCat, ↓oCatT, ↓oCatS, ↓oIn, ↓oInS, ↓dTb, ↓dAnd, ↓dOr, ↓dNot, ↓dYes, ↓dAndV, ↓dOrV, ↓dNotV, ↓dIfV, ↓dChain, ↓dNil, ↓dCons, ↓dL, ↓dTup, ↓dCB, ↓oAbs, ↓oI2, ↓oLen, ↓oLenS, ↓oInt, ↓oSum, ↓oBs, ↓oTupOf, ↓dSeqOf, ↓dIsi, it_bool_none, it_bool_bool, it_bool_int, it_bool_str, it_bool_list, it_bool_tuple, it_bool_dict, it_int_none, it_int_bool, it_int_int, it_int_str, it_int_list, it_int_tuple, it_int_dict, it_str_none, it_str_bool, it_str_int, it_str_str, it_str_list, it_str_tuple, it_str_dict, it_list_none, it_list_bool, it_list_int, it_list_str, it_list_list, it_list_tuple, it_list_dict, it_tuple_none, it_tuple_bool, it_tuple_int, it_tuple_str, it_tuple_list, it_tuple_tuple, it_tuple_dict, it_dict_none, it_dict_bool, it_dict_int, it_dict_str, it_dict_list, it_dict_tuple, it_dict_dict, ↓dNoP, ↓dPart, ↓dSlT, ↓dSlL, ↓dSlS, ↓dCall, ↓dCallS, ↓dItL, ↓dItT, ↓dItS, ↓dR1, ↓dR2, ↓dZip, ↓dEnum, ↓gN, ↓gNi, ↓gCo, ↓gT, ↓dLc, wipeE, eget, eset, List.set, ev0, List.map_cons, List.map_nil, List.cons_append, List.nil_append, List.replicate_succ, List.replicate_zero, noOwn, isOwn, List.all_cons, List.all_nil, List.length_cons, List.length_nil]
        exact ⟨_, _, rfl, rfl, hR⟩
      · rw [fm_some, bools_map]
        simp only [true_and, ↓sTake, ↓sTake0, ↓sPick, ↓sNumber, rng_1, rng_2, rng_3, rng_4, rng_6, ↓dKd, dix_0, dix_1, dix_2, dix_3, dix_4, dix_5, dix_6, dix_7, dix_8, dix_9, Bool.not_false, Bool.not_true, Bool.and_true, Bool.true_and, Bool.and_false, Bool.false_and, decide_eq_true_eq, Bool.not_eq_true', decide_eq_false_iff_not, Bool.false_eq_true, if_true, if_false, ↓F0, ↓F1, ↓F2, ↓F3, ↓F4, ↓F5, ↓F6, ↓dParO1, ↓dParO2, ↓dEnumT, ↓oRepr, ↓dUn, ↓oNeg, ↓dSeq, ↓dRet, ↓dRetN, ↓dIf, ↓dAsg, ↓dDrop, ↓dBreak, ↓dCont, ↓dNext, ↓dOwn, ↓dApp, ↓dSetIx, ↓dFrz, frz, ↓dPar, ↓dAug, ↓dFor, ↓dN, ↓dNB, ↓dC, ↓dOp, ↓oI, ↓oI0, ↓oB, ↓oEq, ↓oEqS, eqS, ↓oIsN, isNo, ↓oIx, ↓oIxS, seqOf, ↓oCat, ↓oCatT, ↓oCatS, ↓oIn, ↓oInS, ↓dTb, ↓dAnd, ↓dOr, ↓dNot, ↓dYes, ↓dAndV, ↓dOrV, ↓dNotV, ↓dIfV, ↓dChain, ↓dNil, ↓dCons, ↓dL, ↓dTup, ↓dCB, ↓oAbs, ↓oI2, ↓oLen, ↓oLenS, ↓oInt, ↓oSum, ↓oBs, ↓oTupOf, ↓dSeqOf, ↓dIsi, it_bool_none, it_bool_bool, it_bool_int, it_bool_str, it_bool_list, it_bool_tuple, it_bool_dict, it_int_none, it_int_bool, it_int_int, it_int_str, it_int_list, it_int_tuple, it_int_dict, it_str_none, it_str_bool, it_str_int, it_str_str, it_str_list, it_str_tuple, it_str_dict, it_list_none, it_list_bool, it_list_int, it_list_str, it_list_list, it_list_tuple, it_list_dict, it_tuple_none, it_tuple_bool, it_tuple_int, it_tuple_str, it_tuple_list, it_tuple_tuple, it_tuple_dict, it_dict_none, it_dict_bool, it_dict_int, it_dict_str, it_dict_list, it_dict_tuple, it_dict_dict, ↓dNoP, ↓dPart, ↓dSlT, ↓dSlL, ↓dSlS, ↓dCall, ↓dCallS, ↓dItL, ↓dItT, ↓dItS, ↓dR1, ↓dR2, ↓dZip, ↓dEnum, ↓gN, ↓gNi, ↓gCo, ↓gT, ↓dLc, wipeE, eget, eset, List.set, ev0, List.map_cons, List.map_nil, List.cons_append, List.nil_append, List.replicate_succ, List.replicate_zero, noOwn, isOwn, List.all_cons, List.all_nil, List.length_cons, List.length_nil]
        have ha : ((u.1.zip p).map fun x => rowHas x.1 x.2).all id = hasM u.1 p := by
          unfold hasM
          rw [List.all_map]
          rfl
        have de : decN p (u :: us) = if hasM u.1 p = true then 0 else decN p us + 1 := rfl
        rw [de] at h2
        by_cases c : hasM u.1 p = true
        · rw [if_pos (ha.trans c)]
          rw [if_pos c, Nat.add_zero] at h2
          rw [← h2] at q
          exact q
        · rw [if_neg (fun z => c (ha.symm.trans z))]
          rw [if_neg c] at h2
          exact hN _ ⟨us, k + 1, _, _, s5, s6, rfl, by omega, by rw [List.length_cons] at h3; omega, h4, h5, rfl⟩
theorem ok_verdict (T : Tx K mg w) : FnOk P w K mg base CX0 3 T.ad_verdict T.fd_verdict ["table", "point"] (spD K (F2 fun a b Q => ∃ t p, a = eT t ∧ b = eP p ∧ t.1.length ≤ 1000 ∧ p.length ≤ 1000 ∧ Q (match t.1[decN p t.1]? with | some u => .tuple [u.2.1, u.2.2] | none => .tuple [t.2.1, t.2.2]))) := by
  refine T.d_verdict.F.ok x_verdict (fun vs H Q E h => spD_len F2_len h) (fun cdv A outer s H vs Q E hr h => ?_)
  have nd := x_verdict.nd
  refine ⟨_, (pss_cons (ps_asg (pv 0) (pg_tup (n := 2) rfl (pgs_cons (pg_name (i := 2) nd rfl (Or.inl rfl)) (pgs_cons (pg_name (i := 3) nd rfl (Or.inl rfl)) pgs_nil))))
        (pss_cons (ps_set (i := 4) nd rfl (Or.inl rfl) (pe_call (ok_decider T) hr (by rfl) T.d_decider.g T.d_decider.F.kp T.d_decider.b .nil pass0 (pa_cons (pv 0) (pa_cons (pv 1) pa_nil))))
        (pss_cons (ps_if (pt_cmpR op_eq (pv 4) (pe_callB call_len_seq (by rfl) T.b_len (by decide +kernel) (pa_cons (pv 2) pa_nil)) (nomark _)) (pss_one (ps_ret (pv 3))) pss_nil)
        (pss_one (ps_ret (pe_slice sl_tupA (pe_ix ix_seq (pv 2) (pv 4) (fun _ _ => rfl)) (po_some pe_int) po_none)))))), fn_pure ((rs_seq (rs_asg (rn 0) (rg_tup (rg_cons (rg_name 2) (rg_cons (rg_name 3) rg_nil))))
        (rs_seq (rs_asg (re_call (raC (rn 0) (raC (rn 1) raN))) (rg_name 4))
        (rs_seq (rs_if (rt_test (ro rv_eq (RfE.b (rn 4)) (RfE.b (re_cb ro_len (rbC (RfE.b (rn 2)) rbN))))) (rs_ret (rn 3)) rs_next)
        (rs_ret (re_slT (RfE.b (ro rv_ix (RfE.b (rn 2)) (RfE.b (rn 4)))) (rp_some (rc_int _)) rp_no)))))) h (by rw [spD_len F2_len h]; decide) (F2_in fun a0 a1 Qd q => ?_)⟩
  obtain ⟨t, p, rfl, rfl, hl, hp, q⟩ := q
  simp only [eT, true_and, ↓sTake, ↓sTake0, ↓sPick, ↓sNumber, rng_1, rng_2, rng_3, rng_4, rng_6, ↓dKd, dix_0, dix_1, dix_2, dix_3, dix_4, dix_5, dix_6, dix_7, dix_8, dix_9, Bool.not_false, Bool.not_true, Bool.and_true, Bool.true_and, Bool.and_false, Bool.false_and, decide_eq_true_eq, Bool.not_eq_true', decide_eq_false_iff_not, Bool.false_eq_true, if_true, if_false, ↓F0, ↓F1, ↓F2, ↓F3, ↓F4, ↓F5, ↓F6, ↓dParO1, ↓dParO2, ↓dEnumT, ↓oRepr, ↓dUn, ↓oNeg, ↓dSeq, ↓dRet, ↓dRetN, ↓dIf, ↓dAsg, ↓dDrop, ↓dBreak, ↓dCont, ↓dNext, ↓dOwn, ↓dApp, ↓dSetIx, ↓dFrz, frz, ↓dPar, ↓dAug, ↓dFor, ↓dN, ↓dNB, ↓dC, ↓dOp, ↓oI, ↓oI0, ↓oB, ↓oEq, ↓oEqS, eqS, ↓oIsN, isNo, ↓oIx, ↓oIxS, seqOf, ↓oCat, ↓oCatT, ↓oCatS, ↓oIn, ↓oInS, ↓dTb, ↓dAnd, ↓dOr, ↓dNot, ↓dYes, ↓dAndV, ↓dOrV, ↓dNotV, ↓dIfV, ↓dChain, ↓dNil, ↓dCons, ↓dL, ↓dTup, ↓dCB, ↓oAbs, ↓oI2, ↓oLen, ↓oLenS, ↓oInt, ↓oSum, ↓oBs, ↓oTupOf, ↓dSeqOf, ↓dIsi, it_bool_none, it_bool_bool, it_bool_int, it_bool_str, it_bool_list, it_bool_tuple, it_bool_dict, it_int_none, it_int_bool, it_int_int, it_int_str, it_int_list, it_int_tuple, it_int_dict, it_str_none, it_str_bool, it_str_int, it_str_str, it_str_list, it_str_tuple, it_str_dict, it_list_none, it_list_bool, it_list_int, it_list_str, it_list_list, it_list_tuple, it_list_dict, it_tuple_none, it_tuple_bool, it_tuple_int, it_tuple_str, it_tuple_list, it_tuple_tuple, it_tuple_dict, it_dict_none, it_dict_bool, it_dict_int, it_dict_str, it_dict_list, it_dict_tuple, it_dict_dict, ↓dNoP, ↓dPart, ↓dSlT, ↓dSlL, ↓dSlS, ↓dCall, ↓dCallS, ↓dItL, ↓dItT, ↓dItS, ↓dR1, ↓dR2, ↓dZip, ↓dEnum, ↓gN, ↓gNi, ↓gCo, ↓gT, ↓dLc, wipeE, eget, eset, List.set, ev0, List.map_cons, List.map_nil, List.cons_append, List.nil_append, List.replicate_succ, List.replicate_zero, noOwn, isOwn, List.all_cons, List.all_nil, List.length_cons, List.length_nil]
  refine ⟨t, p, rfl, rfl, hl, hp, ?_⟩
  rw [List.length_map]
  split <;> rename_i c
  · have c' : decN p t.1 = t.1.length := by omega
    rw [c', List.getElem?_eq_none (Nat.le_refl _)] at q
    exact q
  · have hle : ∀ us : List Rule, decN p us ≤ us.length := by
      intro us
      induction us with
      | nil => exact Nat.le_refl _
      | cons u us ih => unfold decN; rw [List.length_cons]; split <;> omega
    have h2 := hle t.1
    have hlt : decN p t.1 < t.1.length := by omega
    rw [List.getElem?_eq_getElem hlt] at q
    rw [dix_map (f := eRu) (as := t.1) (by omega) (a := t.1[decN p t.1]) (by rw [Int.toNat_natCast, List.getElem?_eq_getElem hlt])]
    simp only [eRu, true_and, ↓sTake, ↓sTake0, ↓sPick, ↓sNumber, rng_1, rng_2, rng_3, rng_4, rng_6, ↓dKd, dix_0, dix_1, dix_2, dix_3, dix_4, dix_5, dix_6, dix_7, dix_8, dix_9, Bool.not_false, Bool.not_true, Bool.and_true, Bool.true_and, Bool.and_false, Bool.false_and, decide_eq_true_eq, Bool.not_eq_true', decide_eq_false_iff_not, Bool.false_eq_true, if_true, if_false, ↓F0, ↓F1, ↓F2, ↓F3, ↓F4, ↓F5, ↓F6, ↓dParO1, ↓dParO2, ↓dEnumT, ↓oRepr, ↓dUn, ↓oNeg, ↓dSeq, ↓dRet, ↓dRetN, ↓dIf, ↓dAsg, ↓dDrop, ↓dBreak, ↓dCont, ↓dNext, ↓dOwn, ↓dApp, ↓dSetIx, ↓dFrz, frz, ↓dPar, ↓dAug, ↓dFor, ↓dN, ↓dNB, ↓dC, ↓dOp, ↓oI, ↓oI0, ↓oB, ↓oEq, ↓oEqS, eqS, ↓oIsN, isNo, ↓oIx, ↓oIxS, seqOf, ↓oCat, ↓oCatT, ↓oCatS, ↓oIn, ↓oInS, ↓dTb, ↓dAnd, ↓dOr, ↓dNot, ↓dYes, ↓dAndV, ↓dOrV, ↓dNotV, ↓dIfV, ↓dChain, ↓dNil, ↓dCons, ↓dL, ↓dTup, ↓dCB, ↓oAbs, ↓oI2, ↓oLen, ↓oLenS, ↓oInt, ↓oSum, ↓oBs, ↓oTupOf, ↓dSeqOf, ↓dIsi, it_bool_none, it_bool_bool, it_bool_int, it_bool_str, it_bool_list, it_bool_tuple, it_bool_dict, it_int_none, it_int_bool, it_int_int, it_int_str, it_int_list, it_int_tuple, it_int_dict, it_str_none, it_str_bool, it_str_int, it_str_str, it_str_list, it_str_tuple, it_str_dict, it_list_none, it_list_bool, it_list_int, it_list_str, it_list_list, it_list_tuple, it_list_dict, it_tuple_none, it_tuple_bool, it_tuple_int, it_tuple_str, it_tuple_list, it_tuple_tuple, it_tuple_dict, it_dict_none, it_dict_bool, it_dict_int, it_dict_str, it_dict_list, it_dict_tuple, it_dict_dict, ↓dNoP, ↓dPart, ↓dSlT, ↓dSlL, ↓dSlS, ↓dCall, ↓dCallS, ↓dItL, ↓dItT, ↓dItS, ↓dR1, ↓dR2, ↓dZip, ↓dEnum, ↓gN, ↓gNi, ↓gCo, ↓gT, ↓dLc, wipeE, eget, eset, List.set, ev0, List.map_cons, List.map_nil, List.cons_append, List.nil_append, List.replicate_succ, List.replicate_zero, noOwn, isOwn, List.all_cons, List.all_nil, List.length_cons, List.length_nil, cut_hi _ (show (0 : Int) ≤ 1 by decide)]
    exact q
end
/-- a packet of the law's own -/
def Good (p : D) (s t : Int) (bd : Bd) : Prop := (∃ x3 x4 x5 x6 : Int, p = .tuple [.str "packet", .int s, .int t, .int x3, .int x4, .int x5, .int x6, eBd bd]) ∧ bd.ok ∧ (∃ k w, Sz p k w ∧ k ≤ 60 ∧ w ≤ 1048576) ∧
  (0 ≤ s ∧ s < 4294967295) ∧ (0 ≤ t ∧ t < 4294967295) ∧ (0 ≤ bd.a ∧ bd.a ≤ 65535) ∧ 0 ≤ bd.b ∧ bd.b ≤ 65535
section
variable {P : Program} {w : World} {K : PySem.W.Frag} {mg : Str → Option Value} {base : Heap}
theorem ok_law_packet (T : Tx K mg w) : FnOk P w K mg base CX0 2 T.ad_law_packet T.fd_law_packet ["state"] (spS K (F0 fun Q => ∀ p s t bd, Good p s t bd → Q (.tuple [p, .tuple [.int bd.num, .int s, .int bd.a, .int t, .int bd.b]]))) := by
  refine T.d_law_packet.F.ok x_law_packet (fun vs H Q E h => spS_len F0_len h) (fun cdv A outer s H vs Q E hr h => ?_)
  have nd := x_law_packet.nd
  refine ⟨_, (pss_cons (ps_setLc (i := 1) (own := [("k", 7)]) (g := (gName 7)) rfl nd rfl rfl (sw_true rfl rfl rfl (by decide +kernel)) (pi_range1 (by rfl) T.b_range (pa_cons pe_int pa_nil)) (blkOk_by (own := [("k", 7)]) (N := Ns_law_packet) (sc := defScope s_law_packet) (by decide +kernel)) (fun _ _ _ _ _ => (pg_name (i := 7) nd rfl (Or.inl rfl))) (fun _ _ _ _ _ => pts_nil) (fun _ _ _ _ _ => (pe_ix (r := rIx K) ix_seq (pe_lst (pa_cons pe_int (pa_cons pe_int (pa_cons (pe_op op_add pe_int (pe_call (ok_law_take T) hr (by rfl) T.d_law_take.g T.d_law_take.F.kp T.d_law_take.b .nil pass0 (pa_cons (pv 0) (pa_cons pe_int pa_nil)))) pa_nil)))) (pe_call (ok_law_take T) hr (by rfl) T.d_law_take.g T.d_law_take.F.kp T.d_law_take.b .nil pass0 (pa_cons (pv 0) (pa_cons pe_int pa_nil))) (fun _ _ => rfl))))
        (pss_cons (ps_setLc (i := 2) (own := [("k", 7)]) (g := (gName 7)) rfl nd rfl rfl (sw_true rfl rfl rfl (by decide +kernel)) (pi_range1 (by rfl) T.b_range (pa_cons pe_int pa_nil)) (blkOk_by (own := [("k", 7)]) (N := Ns_law_packet) (sc := defScope s_law_packet) (by decide +kernel)) (fun _ _ _ _ _ => (pg_name (i := 7) nd rfl (Or.inl rfl))) (fun _ _ _ _ _ => pts_nil) (fun _ _ _ _ _ => (pe_ix (r := rIx K) ix_seq (pe_lst (pa_cons pe_int (pa_cons pe_int (pa_cons (pe_op op_add pe_int (pe_call (ok_law_take T) hr (by rfl) T.d_law_take.g T.d_law_take.F.kp T.d_law_take.b .nil pass0 (pa_cons (pv 0) (pa_cons pe_int pa_nil)))) pa_nil)))) (pe_call (ok_law_take T) hr (by rfl) T.d_law_take.g T.d_law_take.F.kp T.d_law_take.b .nil pass0 (pa_cons (pv 0) (pa_cons pe_int pa_nil))) (fun _ _ => rfl))))
        (pss_cons (ps_set (i := 3) nd rfl (Or.inl rfl) (pe_tup (pa_cons pe_str (pa_cons (pe_ix ix_seq (pv 1) pe_int (fun _ _ => rfl)) (pa_cons (pe_ix ix_seq (pv 1) pe_int (fun _ _ => rfl)) (pa_cons (pe_op op_add pe_int (pe_call (ok_law_take T) hr (by rfl) T.d_law_take.g T.d_law_take.F.kp T.d_law_take.b .nil pass0 (pa_cons (pv 0) (pa_cons pe_int pa_nil)))) (pa_cons (pe_call (ok_law_take T) hr (by rfl) T.d_law_take.g T.d_law_take.F.kp T.d_law_take.b .nil pass0 (pa_cons (pv 0) (pa_cons pe_int pa_nil))) (pa_cons (pe_call (ok_law_take T) hr (by rfl) T.d_law_take.g T.d_law_take.F.kp T.d_law_take.b .nil pass0 (pa_cons (pv 0) (pa_cons pe_int pa_nil))) (pa_cons (pe_call (ok_law_take T) hr (by rfl) T.d_law_take.g T.d_law_take.F.kp T.d_law_take.b .nil pass0 (pa_cons (pv 0) (pa_cons pe_int pa_nil))) pa_nil)))))))))
        (pss_cons (ps_set (i := 4) nd rfl (Or.inl rfl) (pe_callTy call_tuple_of (by rfl) T.b_tuple (by decide +kernel) (pa_cons (pe_lc (own := [("k", 7)]) (g := (gName 7)) rfl nd (pi_range1 (by rfl) T.b_range (pa_cons (pe_call (ok_law_take T) hr (by rfl) T.d_law_take.g T.d_law_take.F.kp T.d_law_take.b .nil pass0 (pa_cons (pv 0) (pa_cons pe_int pa_nil))) pa_nil)) (blkOk_by (own := [("k", 7)]) (N := Ns_law_packet) (sc := defScope s_law_packet) (by decide +kernel)) (fun _ _ _ _ _ => (pg_name (i := 7) nd rfl (Or.inl rfl))) (fun _ _ _ _ _ => pts_nil) (fun _ _ _ _ _ => (pe_call (ok_law_take T) hr (by rfl) T.d_law_take.g T.d_law_take.F.kp T.d_law_take.b .nil pass0 (pa_cons (pv 0) (pa_cons pe_int pa_nil))))) pa_nil)))
        (pss_cons (ps_set (i := 5) nd rfl (Or.inl rfl) (pe_call (ok_law_take T) hr (by rfl) T.d_law_take.g T.d_law_take.F.kp T.d_law_take.b .nil pass0 (pa_cons (pv 0) (pa_cons pe_int pa_nil))))
        (pss_cons (ps_if (pt_cmpR op_eq (pv 5) pe_int (nomark _)) (pss_one (ps_ret (pe_tup (pa_cons (pe_op op_catA (pv 3) (pe_tup (pa_cons (pe_tup (pa_cons pe_str (pa_cons (pe_ix ix_seq (pv 2) pe_int (fun _ _ => rfl)) (pa_cons (pe_ix ix_seq (pv 2) pe_int (fun _ _ => rfl)) (pa_cons (pe_call (ok_law_take T) hr (by rfl) T.d_law_take.g T.d_law_take.F.kp T.d_law_take.b .nil pass0 (pa_cons (pv 0) (pa_cons pe_int pa_nil))) (pa_cons (pv 4) pa_nil)))))) pa_nil))) (pa_cons (pe_tup (pa_cons pe_int (pa_cons (pe_ix ix_seq (pv 1) pe_int (fun _ _ => rfl)) (pa_cons (pe_ix ix_seq (pv 2) pe_int (fun _ _ => rfl)) (pa_cons (pe_ix ix_seq (pv 1) pe_int (fun _ _ => rfl)) (pa_cons (pe_ix ix_seq (pv 2) pe_int (fun _ _ => rfl)) pa_nil)))))) pa_nil))))) pss_nil)
        (pss_cons (ps_if (pt_cmpR op_eq (pv 5) pe_int (nomark _)) (pss_cons (ps_set (i := 6) nd rfl (Or.inl rfl) (pe_tup (pa_cons pe_str (pa_cons (pe_ix ix_seq (pv 2) pe_int (fun _ _ => rfl)) (pa_cons (pe_ix ix_seq (pv 2) pe_int (fun _ _ => rfl)) (pa_cons (pe_call (ok_law_take T) hr (by rfl) T.d_law_take.g T.d_law_take.F.kp T.d_law_take.b .nil pass0 (pa_cons (pv 0) (pa_cons pe_int pa_nil))) (pa_cons pe_int (pa_cons (pe_call (ok_law_take T) hr (by rfl) T.d_law_take.g T.d_law_take.F.kp T.d_law_take.b .nil pass0 (pa_cons (pv 0) (pa_cons pe_int pa_nil))) (pa_cons pe_int (pa_cons pe_int (pa_cons (pe_tup pa_nil) (pa_cons (pv 4) pa_nil))))))))))))
        (pss_one (ps_ret (pe_tup (pa_cons (pe_op op_catA (pv 3) (pe_tup (pa_cons (pv 6) pa_nil))) (pa_cons (pe_tup (pa_cons pe_int (pa_cons (pe_ix ix_seq (pv 1) pe_int (fun _ _ => rfl)) (pa_cons (pe_ix ix_seq (pv 2) pe_int (fun _ _ => rfl)) (pa_cons (pe_ix ix_seq (pv 1) pe_int (fun _ _ => rfl)) (pa_cons (pe_ix ix_seq (pv 2) pe_int (fun _ _ => rfl)) pa_nil)))))) pa_nil)))))) pss_nil)
        (pss_cons (ps_if (pt_cmpR op_eq (pv 5) pe_int (nomark _)) (pss_one (ps_ret (pe_tup (pa_cons (pe_op op_catA (pv 3) (pe_tup (pa_cons (pe_tup (pa_cons pe_str (pa_cons pe_str (pa_cons (pe_ix ix_seq (pv 2) pe_int (fun _ _ => rfl)) (pa_cons pe_int (pa_cons (pv 4) pa_nil)))))) pa_nil))) (pa_cons (pe_tup (pa_cons pe_int (pa_cons (pe_ix ix_seq (pv 1) pe_int (fun _ _ => rfl)) (pa_cons (pe_ix ix_seq (pv 2) pe_int (fun _ _ => rfl)) (pa_cons (pe_ix ix_seq (pv 1) pe_int (fun _ _ => rfl)) (pa_cons pe_int pa_nil)))))) pa_nil))))) pss_nil)
        (pss_one (ps_ret (pe_tup (pa_cons (pe_op op_catA (pv 3) (pe_tup (pa_cons (pe_tup (pa_cons pe_str (pa_cons pe_str (pa_cons (pe_ix ix_seq (pv 2) pe_int (fun _ _ => rfl)) (pa_cons pe_int (pa_cons (pv 4) pa_nil)))))) pa_nil))) (pa_cons (pe_tup (pa_cons pe_int (pa_cons (pe_ix ix_seq (pv 1) pe_int (fun _ _ => rfl)) (pa_cons pe_int (pa_cons (pe_ix ix_seq (pv 1) pe_int (fun _ _ => rfl)) (pa_cons (pe_ix ix_seq (pv 2) pe_int (fun _ _ => rfl)) pa_nil)))))) pa_nil))))))))))))), fn_state ((rs_seq (rs_asg (RfF.e (rf_lc (ri_r1 (rbC (RfE.b (rc_int _)) rbN)) (rg_name 7) rt_yes (ro rv_ix (RfE.b (RfF.e (rf_lst (raC (rc_int _) (raC (rc_int _) (raC (ro rv_add (RfE.b (rc_int _)) (RfE.b (re_callS (raC (rc_int _) raN)))) raN)))))) (RfE.b (re_callS (raC (rc_int _) raN)))))) (rg_name 1))
        (rs_seq (rs_asg (RfF.e (rf_lc (ri_r1 (rbC (RfE.b (rc_int _)) rbN)) (rg_name 7) rt_yes (ro rv_ix (RfE.b (RfF.e (rf_lst (raC (rc_int _) (raC (rc_int _) (raC (ro rv_add (RfE.b (rc_int _)) (RfE.b (re_callS (raC (rc_int _) raN)))) raN)))))) (RfE.b (re_callS (raC (rc_int _) raN)))))) (rg_name 2))
        (rs_seq (rs_asg (re_tup (raC (rc_str _) (raC (ro rv_ix (RfE.b (rn 1)) (RfE.b (rc_int _))) (raC (ro rv_ix (RfE.b (rn 1)) (RfE.b (rc_int _))) (raC (ro rv_add (RfE.b (rc_int _)) (RfE.b (re_callS (raC (rc_int _) raN)))) (raC (re_callS (raC (rc_int _) raN)) (raC (re_callS (raC (rc_int _) raN)) (raC (re_callS (raC (rc_int _) raN)) raN)))))))) (rg_name 3))
        (rs_seq (rs_asg (re_cb ro_tupOf (rbC (RfE.b (RfF.e (rf_lc (ri_r1 (rbC (RfE.b (re_callS (raC (rc_int _) raN))) rbN)) (rg_name 7) rt_yes (re_callS (raC (rc_int _) raN))))) rbN)) (rg_name 4))
        (rs_seq (rs_asg (re_callS (raC (rc_int _) raN)) (rg_name 5))
        (rs_seq (rs_if (rt_test (ro rv_eq (RfE.b (rn 5)) (RfE.b (rc_int _)))) (rs_ret (re_tup (raC (ro rv_catT (RfE.b (rn 3)) (RfE.b (re_tup (raC (re_tup (raC (rc_str _) (raC (ro rv_ix (RfE.b (rn 2)) (RfE.b (rc_int _))) (raC (ro rv_ix (RfE.b (rn 2)) (RfE.b (rc_int _))) (raC (re_callS (raC (rc_int _) raN)) (raC (rn 4) raN)))))) raN)))) (raC (re_tup (raC (rc_int _) (raC (ro rv_ix (RfE.b (rn 1)) (RfE.b (rc_int _))) (raC (ro rv_ix (RfE.b (rn 2)) (RfE.b (rc_int _))) (raC (ro rv_ix (RfE.b (rn 1)) (RfE.b (rc_int _))) (raC (ro rv_ix (RfE.b (rn 2)) (RfE.b (rc_int _))) raN)))))) raN)))) rs_next)
        (rs_seq (rs_if (rt_test (ro rv_eq (RfE.b (rn 5)) (RfE.b (rc_int _)))) (rs_seq (rs_asg (re_tup (raC (rc_str _) (raC (ro rv_ix (RfE.b (rn 2)) (RfE.b (rc_int _))) (raC (ro rv_ix (RfE.b (rn 2)) (RfE.b (rc_int _))) (raC (re_callS (raC (rc_int _) raN)) (raC (rc_int _) (raC (re_callS (raC (rc_int _) raN)) (raC (rc_int _) (raC (rc_int _) (raC (re_tup raN) (raC (rn 4) raN))))))))))) (rg_name 6))
        (rs_ret (re_tup (raC (ro rv_catT (RfE.b (rn 3)) (RfE.b (re_tup (raC (rn 6) raN)))) (raC (re_tup (raC (rc_int _) (raC (ro rv_ix (RfE.b (rn 1)) (RfE.b (rc_int _))) (raC (ro rv_ix (RfE.b (rn 2)) (RfE.b (rc_int _))) (raC (ro rv_ix (RfE.b (rn 1)) (RfE.b (rc_int _))) (raC (ro rv_ix (RfE.b (rn 2)) (RfE.b (rc_int _))) raN)))))) raN))))) rs_next)
        (rs_seq (rs_if (rt_test (ro rv_eq (RfE.b (rn 5)) (RfE.b (rc_int _)))) (rs_ret (re_tup (raC (ro rv_catT (RfE.b (rn 3)) (RfE.b (re_tup (raC (re_tup (raC (rc_str _) (raC (rc_str _) (raC (ro rv_ix (RfE.b (rn 2)) (RfE.b (rc_int _))) (raC (rc_int _) (raC (rn 4) raN)))))) raN)))) (raC (re_tup (raC (rc_int _) (raC (ro rv_ix (RfE.b (rn 1)) (RfE.b (rc_int _))) (raC (ro rv_ix (RfE.b (rn 2)) (RfE.b (rc_int _))) (raC (ro rv_ix (RfE.b (rn 1)) (RfE.b (rc_int _))) (raC (rc_int _) raN)))))) raN)))) rs_next)
        (rs_ret (re_tup (raC (ro rv_catT (RfE.b (rn 3)) (RfE.b (re_tup (raC (re_tup (raC (rc_str _) (raC (rc_str _) (raC (ro rv_ix (RfE.b (rn 2)) (RfE.b (rc_int _))) (raC (rc_int _) (raC (rn 4) raN)))))) raN)))) (raC (re_tup (raC (rc_int _) (raC (ro rv_ix (RfE.b (rn 1)) (RfE.b (rc_int _))) (raC (rc_int _) (raC (ro rv_ix (RfE.b (rn 1)) (RfE.b (rc_int _))) (raC (ro rv_ix (RfE.b (rn 2)) (RfE.b (rc_int _))) raN)))))) raN))))))))))))) h (by rw [spS_len F0_len h]; decide) (F0_in fun  Qd q => ?_)⟩
  simp only [true_and, ↓sTake, ↓sTake0, ↓sPick, ↓sNumber, rng_1, rng_2, rng_3, rng_4, rng_6, ↓dKd, dix_0, dix_1, dix_2, dix_3, dix_4, dix_5, dix_6, dix_7, dix_8, dix_9, Bool.not_false, Bool.not_true, Bool.and_true, Bool.true_and, Bool.and_false, Bool.false_and, decide_eq_true_eq, Bool.not_eq_true', decide_eq_false_iff_not, Bool.false_eq_true, if_true, if_false, ↓F0, ↓F1, ↓F2, ↓F3, ↓F4, ↓F5, ↓F6, ↓dParO1, ↓dParO2, ↓dEnumT, ↓oRepr, ↓dUn, ↓oNeg, ↓dSeq, ↓dRet, ↓dRetN, ↓dIf, ↓dAsg, ↓dDrop, ↓dBreak, ↓dCont, ↓dNext, ↓dOwn, ↓dApp, ↓dSetIx, ↓dFrz, frz, ↓dPar, ↓dAug, ↓dFor, ↓dN, ↓dNB, ↓dC, ↓dOp, ↓oI, ↓oI0, ↓oB, ↓oEq, ↓oEqS, eqS, ↓oIsN, isNo, ↓oIx, ↓oIxS, seqOf, ↓oCat, ↓oCatT, ↓oCatS, ↓oIn, ↓oInS, ↓dTb, ↓dAnd, ↓dOr, ↓dNot, ↓dYes, ↓dAndV, ↓dOrV, ↓dNotV, ↓dIfV, ↓dChain, ↓dNil, ↓dCons, ↓dL, ↓dTup, ↓dCB, ↓oAbs, ↓oI2, ↓oLen, ↓oLenS, ↓oInt, ↓oSum, ↓oBs, ↓oTupOf, ↓dSeqOf, ↓dIsi, it_bool_none, it_bool_bool, it_bool_int, it_bool_str, it_bool_list, it_bool_tuple, it_bool_dict, it_int_none, it_int_bool, it_int_int, it_int_str, it_int_list, it_int_tuple, it_int_dict, it_str_none, it_str_bool, it_str_int, it_str_str, it_str_list, it_str_tuple, it_str_dict, it_list_none, it_list_bool, it_list_int, it_list_str, it_list_list, it_list_tuple, it_list_dict, it_tuple_none, it_tuple_bool, it_tuple_int, it_tuple_str, it_tuple_list, it_tuple_tuple, it_tuple_dict, it_dict_none, it_dict_bool, it_dict_int, it_dict_str, it_dict_list, it_dict_tuple, it_dict_dict, ↓dNoP, ↓dPart, ↓dSlT, ↓dSlL, ↓dSlS, ↓dCall, ↓dCallS, ↓dItL, ↓dItT, ↓dItS, ↓dR1, ↓dR2, ↓dZip, ↓dEnum, ↓gN, ↓gNi, ↓gCo, ↓gT, ↓dLc, wipeE, eget, eset, List.set, ev0, List.map_cons, List.map_nil, List.cons_append, List.nil_append, List.replicate_succ, List.replicate_zero, noOwn, isOwn, List.all_cons, List.all_nil, List.length_cons, List.length_nil, lcD]
  refine ⟨by decide, by decide, by decide, ?_⟩
  refine ⟨by decide, by decide, fun r0 _ _ => ⟨by decide, by decide, fun r1 a1 b1 => dix_ints (ns := [16777216, 3758096383, 16777216 + r0]) a1 b1 fun s hs => ?_⟩⟩
  refine ⟨by decide, by decide, fun r2 _ _ => ⟨by decide, by decide, fun r3 a3 b3 => dix_ints (ns := [16777216, 3758096383, 16777216 + r2]) a3 b3 fun t ht => ?_⟩⟩
  refine ⟨by decide, by decide, by decide, ?_⟩
  refine ⟨by decide, by decide, fun r4 _ _ => ⟨by decide, by decide, fun r5 a5 b5 => dix_ints (ns := [1, 65535, 1 + r4]) a5 b5 fun f hf => ?_⟩⟩
  refine ⟨by decide, by decide, fun r6 _ _ => ⟨by decide, by decide, fun r7 a7 b7 => dix_ints (ns := [1, 65535, 1 + r6]) a7 b7 fun u hu => ?_⟩⟩
  have hs' : 0 ≤ s ∧ s < 4294967295 := by simp at hs; omega
  have ht' : 0 ≤ t ∧ t < 4294967295 := by simp at ht; omega
  have hf' : 0 ≤ f ∧ f ≤ 65535 := by simp at hf; omega
  have hu' : 0 ≤ u ∧ u ≤ 65535 := by simp at hu; omega
  refine ⟨by decide, by decide, fun x3 _ _ => ⟨by decide, by decide, fun x4 _ _ => ⟨by decide, by decide, fun x5 _ _ => ⟨by decide, by decide, fun x6 _ _ => ?_⟩⟩⟩⟩
  refine ⟨by decide, by decide, fun m hm0 hm1 => ⟨by omega, by omega, by rw [rng_len]; omega, ?_⟩⟩
  refine lc_draws (fun d => ∃ n : Int, 0 ≤ n ∧ n < 256 ∧ d = .int n) (fun d hd R hR => ?_) (fun xs hxl hx => ?_)
  · simp only [true_and, ↓sTake, ↓sTake0, ↓sPick, ↓sNumber, rng_1, rng_2, rng_3, rng_4, rng_6, ↓dKd, dix_0, dix_1, dix_2, dix_3, dix_4, dix_5, dix_6, dix_7, dix_8, dix_9, Bool.not_false, Bool.not_true, Bool.and_true, Bool.true_and, Bool.and_false, Bool.false_and, decide_eq_true_eq, Bool.not_eq_true', decide_eq_false_iff_not, Bool.false_eq_true, if_true, if_false, ↓F0, ↓F1, ↓F2, ↓F3, ↓F4, ↓F5, ↓F6, ↓dParO1, ↓dParO2, ↓dEnumT, ↓oRepr, ↓dUn, ↓oNeg, ↓dSeq, ↓dRet, ↓dRetN, ↓dIf, ↓dAsg, ↓dDrop, ↓dBreak, ↓dCont, ↓dNext, ↓dOwn, ↓dApp, ↓dSetIx, ↓dFrz, frz, ↓dPar, ↓dAug, ↓dFor, ↓dN, ↓dNB, ↓dC, ↓dOp, ↓oI, ↓oI0, ↓oB, ↓oEq, ↓oEqS, eqS, ↓oIsN, isNo, ↓oIx, ↓oIxS, seqOf, ↓oCat, ↓oCatT, ↓oCatS, ↓oIn, ↓oInS, ↓dTb, ↓dAnd, ↓dOr, ↓dNot, ↓dYes, ↓dAndV, ↓dOrV, ↓dNotV, ↓dIfV, ↓dChain, ↓dNil, ↓dCons, ↓dL, ↓dTup, ↓dCB, ↓oAbs, ↓oI2, ↓oLen, ↓oLenS, ↓oInt, ↓oSum, ↓oBs, ↓oTupOf, ↓dSeqOf, ↓dIsi, it_bool_none, it_bool_bool, it_bool_int, it_bool_str, it_bool_list, it_bool_tuple, it_bool_dict, it_int_none, it_int_bool, it_int_int, it_int_str, it_int_list, it_int_tuple, it_int_dict, it_str_none, it_str_bool, it_str_int, it_str_str, it_str_list, it_str_tuple, it_str_dict, it_list_none, it_list_bool, it_list_int, it_list_str, it_list_list, it_list_tuple, it_list_dict, it_tuple_none, it_tuple_bool, it_tuple_int, it_tuple_str, it_tuple_list, it_tuple_tuple, it_tuple_dict, it_dict_none, it_dict_bool, it_dict_int, it_dict_str, it_dict_list, it_dict_tuple, it_dict_dict, ↓dNoP, ↓dPart, ↓dSlT, ↓dSlL, ↓dSlS, ↓dCall, ↓dCallS, ↓dItL, ↓dItT, ↓dItS, ↓dR1, ↓dR2, ↓dZip, ↓dEnum, ↓gN, ↓gNi, ↓gCo, ↓gT, ↓dLc, wipeE, eget, eset, List.set, ev0, List.map_cons, List.map_nil, List.cons_append, List.nil_append, List.replicate_succ, List.replicate_zero, noOwn, isOwn, List.all_cons, List.all_nil, List.length_cons, List.length_nil]
    exact ⟨by decide, by decide, fun r h0 h1 => hR _ ⟨r, h0, h1, rfl⟩⟩
  rw [rng_len] at hxl
  have zx : Sz (.tuple xs) 1 200 := sT (k := 0) (w := 40) (n := 4) (fun d hd => by
    obtain ⟨n, h0, h1, rfl⟩ := hx d hd
    exact sI (by omega) (by omega)) (by omega)
  have zi : ∀ {i : Int}, 0 ≤ i → i < 4294967297 → Sz (.int i) 1 200 := fun h0 h1 => sI (by omega) (by omega)
  have zp : ∀ {bs : List D}, (∀ d ∈ bs, Sz d 1 200) → bs.length ≤ 10 → Sz (.tuple [.str "packet", .int s, .int t, .int (1 + x3), .int x4, .int x5, .int x6, .tuple bs]) 3 17000 := fun {bs} hb hl =>
    sT (k := 2) (w := 2010) (n := 8) (szc (sS (by decide +kernel)) (szc (sI (by omega) (by omega)) (szc (sI (by omega) (by omega)) (szc (sI (by omega) (by omega)) (szc (sI (by omega) (by omega)) (szc (sI (by omega) (by omega)) (szc (sI (by omega) (by omega)) (szc (sT hb hl) szn)))))))) (Nat.le_of_ble_eq_true rfl)
  have good : ∀ {bd : Bd} {bs : List D}, eBd bd = .tuple bs → (∀ d ∈ bs, Sz d 1 200) → bs.length ≤ 10 → bd.ok → (0 ≤ bd.a ∧ bd.a ≤ 65535) → (0 ≤ bd.b ∧ bd.b ≤ 65535) → Good (.tuple [.str "packet", .int s, .int t, .int (1 + x3), .int x4, .int x5, .int x6, .tuple bs]) s t bd :=
    fun {bd bs} e hb hl ok ha hb' => ⟨⟨1 + x3, x4, x5, x6, by rw [e]⟩, ok, ⟨3, 17000, zp hb hl, by decide, by decide⟩, hs', ht', ha, hb'⟩
  refine ⟨by decide, by decide, fun kd _ _ => ?_⟩
  split
  · refine ⟨by decide, by decide, fun r h0 h1 => ⟨by show 8 ≤ sizeLine; decide, ?_⟩⟩
    have := q _ s t (.pt "udp" f u [.int r, .tuple xs]) (good rfl (szc (sS (by decide +kernel)) (szc (zi hf'.1 (by omega)) (szc (zi hu'.1 (by omega)) (szc (zi h0 (by omega)) (szc zx szn))))) (Nat.le_of_ble_eq_true rfl) (.inl rfl) hf' hu')
    rw [num1] at this
    exact this
  split
  · refine ⟨by decide, by decide, fun r h0 h1 => ⟨by decide, by decide, fun r' h0' h1' => ⟨by show 8 ≤ sizeLine; decide, ?_⟩⟩⟩
    have := q _ s t (.pt "tcp" f u [.int r, .int 0, .int r', .int 5, .int 0, .tuple [], .tuple xs]) (good rfl (szc (sS (by decide +kernel)) (szc (zi hf'.1 (by omega)) (szc (zi hu'.1 (by omega)) (szc (zi h0 (by omega)) (szc (zi (by decide) (by decide)) (szc (zi h0' (by omega)) (szc (zi (by decide) (by decide)) (szc (zi (by decide) (by decide)) (szc (sT (k := 0) (w := 0) (n := 0) szn (by decide)) (szc zx szn)))))))))) (Nat.le_of_ble_eq_true rfl) (.inr rfl) hf' hu')
    rw [num2] at this
    exact this
  split
  · exact ⟨by show 8 ≤ sizeLine; decide, q _ s t (.ask f [.int 7, .tuple xs]) (good rfl (szc (sS (by decide +kernel)) (szc (sS (by decide +kernel)) (szc (zi hf'.1 (by omega)) (szc (zi (by decide) (by decide)) (szc zx szn))))) (Nat.le_of_ble_eq_true rfl) trivial hf' ⟨Int.le_refl 0, show (0 : Int) ≤ 65535 by decide⟩)⟩
  · exact ⟨by show 8 ≤ sizeLine; decide, q _ s t (.ans f [.int 7, .tuple xs]) (good rfl (szc (sS (by decide +kernel)) (szc (sS (by decide +kernel)) (szc (zi hf'.1 (by omega)) (szc (zi (by decide) (by decide)) (szc zx szn))))) (Nat.le_of_ble_eq_true rfl) trivial ⟨Int.le_refl 0, show (0 : Int) ≤ 65535 by decide⟩ hf')⟩
theorem ok_law_rule (T : Tx K mg w) : FnOk P w K mg base CX0 1 T.ad_law_rule T.fd_law_rule ["point", "field", "number"] (spD K (F3 fun a b c Q => ∃ p i n, a = eP p ∧ b = .int i ∧ c = .int n ∧ p.length = 6 ∧ 0 ≤ i ∧ i < 6 ∧ Q (eRu ((p.set i.toNat n).map (fun e => [(e, e)]), .tuple [.str "pass"], .tuple [.str "few"])))) := by
  refine T.d_law_rule.F.ok x_law_rule (fun vs H Q E h => spD_len F3_len h) (fun cdv A outer s H vs Q E hr h => ?_)
  have nd := x_law_rule.nd
  refine ⟨_, (pss_cons (ps_set (i := 3) nd rfl (Or.inl rfl) (pe_op op_catA (pe_op op_catA (pe_slice sl_tupA (pv 0) po_none (po_some (pv 1))) (pe_tup (pa_cons (pv 2) pa_nil))) (pe_slice sl_tupA (pv 0) (po_some (pe_op op_add (pv 1) pe_int)) po_none)))
        (pss_one (ps_ret (pe_tup (pa_cons (pe_callTy call_tuple_of (by rfl) T.b_tuple (by decide +kernel) (pa_cons (pe_lc (own := [("each", 4)]) (g := (gName 4)) rfl nd (pi_tup (pv 3)) (blkOk_by (own := [("each", 4)]) (N := Ns_law_rule) (sc := defScope s_law_rule) (by decide +kernel)) (fun _ _ _ _ _ => (pg_name (i := 4) nd rfl (Or.inl rfl))) (fun _ _ _ _ _ => pts_nil) (fun _ _ _ _ _ => (pe_tup (pa_cons (pe_tup (pa_cons (pv 4) (pa_cons (pv 4) pa_nil))) pa_nil)))) pa_nil)) (pa_cons (pe_tup (pa_cons pe_str pa_nil)) (pa_cons (pe_tup (pa_cons pe_str pa_nil)) pa_nil))))))), fn_pure ((rs_seq (rs_asg (ro rv_catT (RfE.b (ro rv_catT (RfE.b (re_slT (RfE.b (rn 0)) rp_no (rp_some (rn 1)))) (RfE.b (re_tup (raC (rn 2) raN))))) (RfE.b (re_slT (RfE.b (rn 0)) (rp_some (ro rv_add (RfE.b (rn 1)) (RfE.b (rc_int _)))) rp_no))) (rg_name 3))
        (rs_ret (re_tup (raC (re_cb ro_tupOf (rbC (RfE.b (RfF.e (rf_lc (ri_tup (rn 3)) (rg_name 4) rt_yes (re_tup (raC (re_tup (raC (rn 4) (raC (rn 4) raN))) raN))))) rbN)) (raC (re_tup (raC (rc_str _) raN)) (raC (re_tup (raC (rc_str _) raN)) raN))))))) h (by rw [spD_len F3_len h]; decide) (F3_in fun a0 a1 a2 Qd q => ?_)⟩
  obtain ⟨p, i, n, rfl, rfl, rfl, hp, h0, h1, q⟩ := q
  simp only [eP, true_and, ↓sTake, ↓sTake0, ↓sPick, ↓sNumber, rng_1, rng_2, rng_3, rng_4, rng_6, ↓dKd, dix_0, dix_1, dix_2, dix_3, dix_4, dix_5, dix_6, dix_7, dix_8, dix_9, Bool.not_false, Bool.not_true, Bool.and_true, Bool.true_and, Bool.and_false, Bool.false_and, decide_eq_true_eq, Bool.not_eq_true', decide_eq_false_iff_not, Bool.false_eq_true, if_true, if_false, ↓F0, ↓F1, ↓F2, ↓F3, ↓F4, ↓F5, ↓F6, ↓dParO1, ↓dParO2, ↓dEnumT, ↓oRepr, ↓dUn, ↓oNeg, ↓dSeq, ↓dRet, ↓dRetN, ↓dIf, ↓dAsg, ↓dDrop, ↓dBreak, ↓dCont, ↓dNext, ↓dOwn, ↓dApp, ↓dSetIx, ↓dFrz, frz, ↓dPar, ↓dAug, ↓dFor, ↓dN, ↓dNB, ↓dC, ↓dOp, ↓oI, ↓oI0, ↓oB, ↓oEq, ↓oEqS, eqS, ↓oIsN, isNo, ↓oIx, ↓oIxS, seqOf, ↓oCat, ↓oCatT, ↓oCatS, ↓oIn, ↓oInS, ↓dTb, ↓dAnd, ↓dOr, ↓dNot, ↓dYes, ↓dAndV, ↓dOrV, ↓dNotV, ↓dIfV, ↓dChain, ↓dNil, ↓dCons, ↓dL, ↓dTup, ↓dCB, ↓oAbs, ↓oI2, ↓oLen, ↓oLenS, ↓oInt, ↓oSum, ↓oBs, ↓oTupOf, ↓dSeqOf, ↓dIsi, it_bool_none, it_bool_bool, it_bool_int, it_bool_str, it_bool_list, it_bool_tuple, it_bool_dict, it_int_none, it_int_bool, it_int_int, it_int_str, it_int_list, it_int_tuple, it_int_dict, it_str_none, it_str_bool, it_str_int, it_str_str, it_str_list, it_str_tuple, it_str_dict, it_list_none, it_list_bool, it_list_int, it_list_str, it_list_list, it_list_tuple, it_list_dict, it_tuple_none, it_tuple_bool, it_tuple_int, it_tuple_str, it_tuple_list, it_tuple_tuple, it_tuple_dict, it_dict_none, it_dict_bool, it_dict_int, it_dict_str, it_dict_list, it_dict_tuple, it_dict_dict, ↓dNoP, ↓dPart, ↓dSlT, ↓dSlL, ↓dSlS, ↓dCall, ↓dCallS, ↓dItL, ↓dItT, ↓dItS, ↓dR1, ↓dR2, ↓dZip, ↓dEnum, ↓gN, ↓gNi, ↓gCo, ↓gT, ↓dLc, wipeE, eget, eset, List.set, ev0, List.map_cons, List.map_nil, List.cons_append, List.nil_append, List.replicate_succ, List.replicate_zero, noOwn, isOwn, List.all_cons, List.all_nil, List.length_cons, List.length_nil, cut_lo _ h0, cut_hi _ (show 0 ≤ i + 1 by omega)]
  have hs : (List.take i.toNat (List.map PyData.int p) ++ [PyData.int n] ++ List.drop (i + 1).toNat (List.map PyData.int p)) = (p.set i.toNat n).map PyData.int := by
    rw [show (i + 1).toNat = i.toNat + 1 by omega, set_cut (by rw [List.length_map]; omega), List.map_set]
  have hl : ((p.set i.toNat n).map PyData.int).length = 6 := by rw [List.length_map, List.length_set, hp]
  refine ⟨Nat.le_trans (show _ ≤ 1000 by rw [List.length_take, List.length_map]; omega) (by decide), Nat.le_trans (show _ ≤ 1000 by rw [List.length_append, List.length_take, List.length_drop, List.length_map, List.length_singleton]; omega) (by decide), by rw [hs, hl]; decide, ?_⟩
  rw [hs]
  refine lc_fun PyData.int (fun e => some (.tuple [.tuple [.int e, .int e]])) (as := p.set i.toNat n) (fun e he R hR => ?_) ?_
  · simp only [true_and, ↓sTake, ↓sTake0, ↓sPick, ↓sNumber, rng_1, rng_2, rng_3, rng_4, rng_6, ↓dKd, dix_0, dix_1, dix_2, dix_3, dix_4, dix_5, dix_6, dix_7, dix_8, dix_9, Bool.not_false, Bool.not_true, Bool.and_true, Bool.true_and, Bool.and_false, Bool.false_and, decide_eq_true_eq, Bool.not_eq_true', decide_eq_false_iff_not, Bool.false_eq_true, if_true, if_false, ↓F0, ↓F1, ↓F2, ↓F3, ↓F4, ↓F5, ↓F6, ↓dParO1, ↓dParO2, ↓dEnumT, ↓oRepr, ↓dUn, ↓oNeg, ↓dSeq, ↓dRet, ↓dRetN, ↓dIf, ↓dAsg, ↓dDrop, ↓dBreak, ↓dCont, ↓dNext, ↓dOwn, ↓dApp, ↓dSetIx, ↓dFrz, frz, ↓dPar, ↓dAug, ↓dFor, ↓dN, ↓dNB, ↓dC, ↓dOp, ↓oI, ↓oI0, ↓oB, ↓oEq, ↓oEqS, eqS, ↓oIsN, isNo, ↓oIx, ↓oIxS, seqOf, ↓oCat, ↓oCatT, ↓oCatS, ↓oIn, ↓oInS, ↓dTb, ↓dAnd, ↓dOr, ↓dNot, ↓dYes, ↓dAndV, ↓dOrV, ↓dNotV, ↓dIfV, ↓dChain, ↓dNil, ↓dCons, ↓dL, ↓dTup, ↓dCB, ↓oAbs, ↓oI2, ↓oLen, ↓oLenS, ↓oInt, ↓oSum, ↓oBs, ↓oTupOf, ↓dSeqOf, ↓dIsi, it_bool_none, it_bool_bool, it_bool_int, it_bool_str, it_bool_list, it_bool_tuple, it_bool_dict, it_int_none, it_int_bool, it_int_int, it_int_str, it_int_list, it_int_tuple, it_int_dict, it_str_none, it_str_bool, it_str_int, it_str_str, it_str_list, it_str_tuple, it_str_dict, it_list_none, it_list_bool, it_list_int, it_list_str, it_list_list, it_list_tuple, it_list_dict, it_tuple_none, it_tuple_bool, it_tuple_int, it_tuple_str, it_tuple_list, it_tuple_tuple, it_tuple_dict, it_dict_none, it_dict_bool, it_dict_int, it_dict_str, it_dict_list, it_dict_tuple, it_dict_dict, ↓dNoP, ↓dPart, ↓dSlT, ↓dSlL, ↓dSlS, ↓dCall, ↓dCallS, ↓dItL, ↓dItT, ↓dItS, ↓dR1, ↓dR2, ↓dZip, ↓dEnum, ↓gN, ↓gNi, ↓gCo, ↓gT, ↓dLc, wipeE, eget, eset, List.set, ev0, List.map_cons, List.map_nil, List.cons_append, List.nil_append, List.replicate_succ, List.replicate_zero, noOwn, isOwn, List.all_cons, List.all_nil, List.length_cons, List.length_nil]
    exact hR
  · rw [fm_some]
    unfold eRu eM at q
    rw [List.map_map] at q
    exact q
end
section
variable {P : Program} {w : World} {K : PySem.W.Frag} {mg : Str → Option Value} {base : Heap}
theorem hasM_pts : ∀ q p : List Int, q.length = p.length → hasM (q.map fun e => [(e, e)]) p = decide (q = p)
  | [], [], _ => rfl
  | [], _ :: _, h => by cases h
  | _ :: _, [], h => by cases h
  | a :: q, b :: p, h => by
    have ih := hasM_pts q p (Nat.succ.inj h)
    unfold hasM at ih ⊢
    rw [List.map_cons, List.zip_cons_cons, List.all_cons, ih]
    have e : rowHas [(a, a)] b = decide (a = b) := by
      unfold rowHas
      rw [List.any_cons, List.any_nil, Bool.or_false, Bool.eq_iff_iff]
      simp
      omega
    rw [e, Bool.eq_iff_iff]
    simp
theorem decN_pt {p : List Int} {i : Nat} {x n : Int} {f nm : D} (hi : p[i]? = some x) : decN p [((p.set i n).map fun e => [(e, e)], f, nm)] = if n = x then 0 else 1 := by
  have hl := (List.getElem?_eq_some_iff.mp hi).1
  unfold decN
  rw [hasM_pts _ _ (by rw [List.length_set])]
  by_cases c : n = x
  · subst c
    rw [if_pos rfl, set_self hi, decide_eq_true rfl, if_pos rfl]
  · rw [if_neg c, if_neg]
    · rfl
    · intro z
      have z1 := of_decide_eq_true z
      have := congrArg (fun l => l[i]?) z1
      simp only [List.getElem?_set_self hl, hi] at this
      exact c (Option.some.inj this)
theorem z1 : okD (.tuple [.tuple [.str "pass"], .tuple [.str "few"]]) = true := (sT (k := 1) (w := 100) (n := 2) (k' := 2) (w' := 300) (szc (sT (k := 0) (w := 40) (n := 1) (szc (sS (by decide +kernel)) szn) (by decide)) (szc (sT (k := 0) (w := 40) (n := 1) (szc (sS (by decide +kernel)) szn) (by decide)) szn)) (by decide)).ok
theorem z2 : okD (.tuple [.tuple [.str "drop"], .tuple []]) = true := (sT (k := 1) (w := 100) (n := 2) (k' := 2) (w' := 300) (szc (sT (k := 0) (w := 40) (n := 1) (szc (sS (by decide +kernel)) szn) (by decide)) (szc (sT (k := 0) (w := 40) (n := 1) szn (by decide)) szn)) (by decide)).ok
theorem ok_law (T : Tx K mg w) : FnG P w K mg base 5 T.ad_law T.fd_law ["script"] (spLaw K) := by
  refine okG T.d_law.F x_law (fun vs H Q E h => spLaw_len h) (fun cdv A outer s H vs Q E hr gd h => ?_)
  have nd := x_law.nd
  refine ⟨_, (pss_cons (ps_set (i := 1) nd rfl (Or.inl rfl) (pe_call (ok_law_state T) (hr.mono (by decide)) (by rfl) T.d_law_state.g T.d_law_state.F.kp T.d_law_state.b .nil pass0 (pa_cons (pv 0) pa_nil)))
        (pss_cons (ps_asg (pe_call (ok_law_packet T) (hr.mono (by decide)) (by rfl) T.d_law_packet.g T.d_law_packet.F.kp T.d_law_packet.b .nil pass0 (pa_cons (pv 1) pa_nil)) (pg_tup (n := 2) rfl (pgs_cons (pg_name (i := 2) nd rfl (Or.inl rfl)) (pgs_cons (pg_name (i := 3) nd rfl (Or.inl rfl)) pgs_nil))))
        (pss_cons (ps_set (i := 4) nd rfl (Or.inl rfl) (pe_ix ix_seq (pe_lst (pa_cons pe_str (pa_cons pe_str pa_nil))) (pe_call (ok_law_take T) (hr.mono (by decide)) (by rfl) T.d_law_take.g T.d_law_take.F.kp T.d_law_take.b .nil pass0 (pa_cons (pv 1) (pa_cons pe_int pa_nil))) (fun _ _ => rfl)))
        (pss_cons (ps_set (i := 5) nd rfl (Or.inl rfl) (pe_callB (cr_repr gd hr.units) (by rfl) T.b_repr (by decide +kernel) (pa_cons (pv 2) pa_nil)))
        (pss_cons (ps_set (i := 6) nd rfl (Or.inl rfl) (pe_op op_catA (pe_tup (pa_cons (pe_callTy call_int1 (by rfl) T.b_int (by decide +kernel) (pa_cons (pe_cmpR op_eq (pv 4) pe_str (nomark _)) pa_nil)) pa_nil)) (pv 3)))
        (pss_cons (ps_if (PW.pt (pw_or (pt_cmpR (op_neD hr.units) (pe_call (ok_point_of T) hr (by rfl) T.d_point_of.g T.d_point_of.F.kp T.d_point_of.b .nil pass0 (pa_cons (pv 4) (pa_cons (pv 2) pa_nil))) (pv 6) (nomark _)) (pw_or (pt_val (pe_callB call_isi (by rfl) T.b_isinstance (by decide +kernel) (pa_cons (pe_ix ix_seq (pe_call (ok_point_of T) hr (by rfl) T.d_point_of.g T.d_point_of.F.kp T.d_point_of.b .nil pass0 (pa_cons (pv 4) (pa_cons (pv 2) pa_nil))) pe_int (fun _ _ => rfl)) (pa_cons (pe_bltn (v := .ty "bool") (by rfl) T.b_bool (by decide +kernel) rfl) pa_nil)))) (pw_or1 (pt_cmpR op_ne (pe_callB (cr_repr gd hr.units) (by rfl) T.b_repr (by decide +kernel) (pa_cons (pv 2) pa_nil)) (pv 5) (nomark _)))))) (pss_one (ps_ret pe_bl)) pss_nil)
        (pss_cons (ps_set (i := 7) nd rfl (Or.inl rfl) (pe_call (ok_law_take T) (hr.mono (by decide)) (by rfl) T.d_law_take.g T.d_law_take.F.kp T.d_law_take.b .nil pass0 (pa_cons (pv 1) (pa_cons pe_int pa_nil))))
        (pss_cons (ps_set (i := 8) nd rfl (Or.inl rfl) (pe_ix ix_seq (pe_tup (pa_cons pe_int (pa_cons pe_int (pa_cons pe_int (pa_cons pe_int (pa_cons pe_int (pa_cons pe_int pa_nil))))))) (pv 7) (fun _ _ => rfl)))
        (pss_cons (ps_set (i := 9) nd rfl (Or.inl rfl) (pe_ifExp (pt_cmpR op_lt (pe_ix ix_seq (pv 6) (pv 7) (fun _ _ => rfl)) (pv 8) (nomark _)) (pe_op op_add (pe_ix ix_seq (pv 6) (pv 7) (fun _ _ => rfl)) pe_int) (pe_op op_sub (pe_ix ix_seq (pv 6) (pv 7) (fun _ _ => rfl)) pe_int)))
        (pss_cons (ps_for PassesOwn.never rfl (pi_list (pe_lst (pa_cons (pe_ix ix_seq (pv 6) (pv 7) (fun _ _ => rfl)) (pa_cons (pv 9) pa_nil)))) (pg_name (i := 10) nd rfl (Or.inl rfl)) (pss_cons (ps_set (i := 11) nd rfl (Or.inl rfl) (pe_tup (pa_cons (pe_tup (pa_cons (pe_call (ok_law_rule T) (hr.mono (by decide)) (by rfl) T.d_law_rule.g T.d_law_rule.F.kp T.d_law_rule.b .nil pass0 (pa_cons (pv 6) (pa_cons (pv 7) (pa_cons (pv 10) pa_nil)))) pa_nil)) (pa_cons (pe_tup (pa_cons (pe_tup (pa_cons pe_str pa_nil)) (pa_cons (pe_tup pa_nil) pa_nil))) pa_nil))))
        (pss_cons (ps_set (i := 12) nd rfl (Or.inl rfl) (pe_ifExp (pt_cmpR op_eq (pv 10) (pe_ix ix_seq (pv 6) (pv 7) (fun _ _ => rfl)) (nomark _)) (pe_tup (pa_cons (pe_tup (pa_cons pe_str pa_nil)) (pa_cons (pe_tup (pa_cons pe_str pa_nil)) pa_nil))) (pe_tup (pa_cons (pe_tup (pa_cons pe_str pa_nil)) (pa_cons (pe_tup pa_nil) pa_nil)))))
        (pss_one (ps_if (pt_cmpR (op_neD hr.units) (pe_call (ok_verdict T) (hr.mono (by decide)) (by rfl) T.d_verdict.g T.d_verdict.F.kp T.d_verdict.b .nil pass0 (pa_cons (pv 11) (pa_cons (pe_call (ok_point_of T) hr (by rfl) T.d_point_of.g T.d_point_of.F.kp T.d_point_of.b .nil pass0 (pa_cons (pv 4) (pa_cons (pv 2) pa_nil))) pa_nil))) (pv 12) (nomark _)) (pss_one (ps_ret pe_bl)) pss_nil)))))
        (pss_cons (ps_set (i := 13) nd rfl (Or.inl rfl) (pe_ix ix_seq (pe_lst (pa_cons pe_str (pa_cons pe_str pa_nil))) (pe_callTy call_int1 (by rfl) T.b_int (by decide +kernel) (pa_cons (pe_cmpR op_eq (pv 4) pe_str (nomark _)) pa_nil)) (fun _ _ => rfl)))
        (pss_one (ps_ret (pe_cmpR (op_eqD hr.units) (pe_call (ok_point_of T) hr (by rfl) T.d_point_of.g T.d_point_of.F.kp T.d_point_of.b .nil pass0 (pa_cons (pv 13) (pa_cons (pv 2) pa_nil))) (pe_op op_catA (pe_tup (pa_cons (pe_op op_sub pe_int (pe_ix ix_seq (pv 6) pe_int (fun _ _ => rfl))) pa_nil)) (pv 3)) (nomark _))))))))))))))), law_run (i := 1) ((rs_seq (rs_asg (re_callS raN) (rg_tup (rg_cons (rg_name 2) (rg_cons (rg_name 3) rg_nil))))
        (rs_seq (rs_asg (ro rv_ix (RfE.b (RfF.e (rf_lst (raC (rc_str _) (raC (rc_str _) raN))))) (RfE.b (re_callS (raC (rc_int _) raN)))) (rg_name 4))
        (rs_seq (rs_asg (re_cb ro_repr (rbC (RfE.b (rn 2)) rbN)) (rg_name 5))
        (rs_seq (rs_asg (ro rv_catT (RfE.b (re_tup (raC (re_cb ro_int (rbC (RfE.b (ro rv_eq (RfE.b (rn 4)) (RfE.b (rc_str _)))) rbN)) raN))) (RfE.b (rn 3))) (rg_name 6))
        (rs_seq (rs_if (rt_or (rt_test (ro rv_neD (RfE.b (re_call (raC (rn 4) (raC (rn 2) raN)))) (RfE.b (rn 6)))) (rt_or (rt_val (re_isi (RfE.b (ro rv_ix (RfE.b (re_call (raC (rn 4) (raC (rn 2) raN)))) (RfE.b (rc_int _)))))) (rt_test (ro rv_ne (RfE.b (re_cb ro_repr (rbC (RfE.b (rn 2)) rbN))) (RfE.b (rn 5)))))) (rs_ret (rc_bl _)) rs_next)
        (rs_seq (rs_asg (re_callS (raC (rc_int _) raN)) (rg_name 7))
        (rs_seq (rs_asg (ro rv_ix (RfE.b (re_tup (raC (rc_int _) (raC (rc_int _) (raC (rc_int _) (raC (rc_int _) (raC (rc_int _) (raC (rc_int _) raN)))))))) (RfE.b (rn 7))) (rg_name 8))
        (rs_seq (rs_asg (re_if (rt_test (ro rv_lt (RfE.b (ro rv_ix (RfE.b (rn 6)) (RfE.b (rn 7)))) (RfE.b (rn 8)))) (ro rv_add (RfE.b (ro rv_ix (RfE.b (rn 6)) (RfE.b (rn 7)))) (RfE.b (rc_int _))) (ro rv_sub (RfE.b (ro rv_ix (RfE.b (rn 6)) (RfE.b (rn 7)))) (RfE.b (rc_int _)))) (rg_name 9))
        (rs_seq (rs_for (ri_list (RfF.e (rf_lst (raC (ro rv_ix (RfE.b (rn 6)) (RfE.b (rn 7))) (raC (rn 9) raN))))) (rg_name 10) (rs_seq (rs_asg (re_tup (raC (re_tup (raC (re_call (raC (rn 6) (raC (rn 7) (raC (rn 10) raN)))) raN)) (raC (re_tup (raC (re_tup (raC (rc_str _) raN)) (raC (re_tup raN) raN))) raN))) (rg_name 11))
        (rs_seq (rs_asg (re_if (rt_test (ro rv_eq (RfE.b (rn 10)) (RfE.b (ro rv_ix (RfE.b (rn 6)) (RfE.b (rn 7)))))) (re_tup (raC (re_tup (raC (rc_str _) raN)) (raC (re_tup (raC (rc_str _) raN)) raN))) (re_tup (raC (re_tup (raC (rc_str _) raN)) (raC (re_tup raN) raN)))) (rg_name 12))
        (rs_if (rt_test (ro rv_neD (RfE.b (re_call (raC (rn 11) (raC (re_call (raC (rn 4) (raC (rn 2) raN))) raN)))) (RfE.b (rn 12)))) (rs_ret (rc_bl _)) rs_next))))
        (rs_seq (rs_asg (ro rv_ix (RfE.b (RfF.e (rf_lst (raC (rc_str _) (raC (rc_str _) raN))))) (RfE.b (re_cb ro_int (rbC (RfE.b (ro rv_eq (RfE.b (rn 4)) (RfE.b (rc_str _)))) rbN)))) (rg_name 13))
        (rs_ret (ro rv_eqD (RfE.b (re_call (raC (rn 13) (raC (rn 2) raN)))) (RfE.b (ro rv_catT (RfE.b (re_tup (raC (ro rv_sub (RfE.b (rc_int _)) (RfE.b (ro rv_ix (RfE.b (rn 6)) (RfE.b (rc_int _))))) raN))) (RfE.b (rn 3))))))))))))))))) h (by decide) (by decide) ?_⟩
  simp only [true_and, ↓sTake, ↓sTake0, ↓sPick, ↓sNumber, rng_1, rng_2, rng_3, rng_4, rng_6, ↓dKd, dix_0, dix_1, dix_2, dix_3, dix_4, dix_5, dix_6, dix_7, dix_8, dix_9, Bool.not_false, Bool.not_true, Bool.and_true, Bool.true_and, Bool.and_false, Bool.false_and, decide_eq_true_eq, Bool.not_eq_true', decide_eq_false_iff_not, Bool.false_eq_true, if_true, if_false, ↓F0, ↓F1, ↓F2, ↓F3, ↓F4, ↓F5, ↓F6, ↓dParO1, ↓dParO2, ↓dEnumT, ↓oRepr, ↓dUn, ↓oNeg, ↓dSeq, ↓dRet, ↓dRetN, ↓dIf, ↓dAsg, ↓dDrop, ↓dBreak, ↓dCont, ↓dNext, ↓dOwn, ↓dApp, ↓dSetIx, ↓dFrz, frz, ↓dPar, ↓dAug, ↓dFor, ↓dN, ↓dNB, ↓dC, ↓dOp, ↓oI, ↓oI0, ↓oB, ↓oEq, ↓oEqS, eqS, ↓oIsN, isNo, ↓oIx, ↓oIxS, seqOf, ↓oCat, ↓oCatT, ↓oCatS, ↓oIn, ↓oInS, ↓dTb, ↓dAnd, ↓dOr, ↓dNot, ↓dYes, ↓dAndV, ↓dOrV, ↓dNotV, ↓dIfV, ↓dChain, ↓dNil, ↓dCons, ↓dL, ↓dTup, ↓dCB, ↓oAbs, ↓oI2, ↓oLen, ↓oLenS, ↓oInt, ↓oSum, ↓oBs, ↓oTupOf, ↓dSeqOf, ↓dIsi, it_bool_none, it_bool_bool, it_bool_int, it_bool_str, it_bool_list, it_bool_tuple, it_bool_dict, it_int_none, it_int_bool, it_int_int, it_int_str, it_int_list, it_int_tuple, it_int_dict, it_str_none, it_str_bool, it_str_int, it_str_str, it_str_list, it_str_tuple, it_str_dict, it_list_none, it_list_bool, it_list_int, it_list_str, it_list_list, it_list_tuple, it_list_dict, it_tuple_none, it_tuple_bool, it_tuple_int, it_tuple_str, it_tuple_list, it_tuple_tuple, it_tuple_dict, it_dict_none, it_dict_bool, it_dict_int, it_dict_str, it_dict_list, it_dict_tuple, it_dict_dict, ↓dNoP, ↓dPart, ↓dSlT, ↓dSlL, ↓dSlS, ↓dCall, ↓dCallS, ↓dItL, ↓dItT, ↓dItS, ↓dR1, ↓dR2, ↓dZip, ↓dEnum, ↓gN, ↓gNi, ↓gCo, ↓gT, ↓dLc, wipeE, eget, eset, List.set, ev0, List.map_cons, List.map_nil, List.cons_append, List.nil_append, List.replicate_succ, List.replicate_zero, noOwn, isOwn, List.all_cons, List.all_nil, List.length_cons, List.length_nil, lcD]
  rintro p s t bd ⟨⟨x3, x4, x5, x6, rfl⟩, ok, hz, hs, ht, ha, hb⟩
  refine ⟨by decide, by decide, fun r0 h0 h1 => dix_all (ds := [PyData.str "out", PyData.str "in"]) h0 h1 fun d hd => ?_⟩
  obtain ⟨sd, rfl⟩ : ∃ sd, d = PyData.str sd := by
    simp only [List.mem_cons, List.not_mem_nil, or_false] at hd
    rcases hd with rfl | rfl
    · exact ⟨_, rfl⟩
    · exact ⟨_, rfl⟩
  simp only [true_and, ↓sTake, ↓sTake0, ↓sPick, ↓sNumber, rng_1, rng_2, rng_3, rng_4, rng_6, ↓dKd, dix_0, dix_1, dix_2, dix_3, dix_4, dix_5, dix_6, dix_7, dix_8, dix_9, Bool.not_false, Bool.not_true, Bool.and_true, Bool.true_and, Bool.and_false, Bool.false_and, decide_eq_true_eq, Bool.not_eq_true', decide_eq_false_iff_not, Bool.false_eq_true, if_true, if_false, ↓F0, ↓F1, ↓F2, ↓F3, ↓F4, ↓F5, ↓F6, ↓dParO1, ↓dParO2, ↓dEnumT, ↓oRepr, ↓dUn, ↓oNeg, ↓dSeq, ↓dRet, ↓dRetN, ↓dIf, ↓dAsg, ↓dDrop, ↓dBreak, ↓dCont, ↓dNext, ↓dOwn, ↓dApp, ↓dSetIx, ↓dFrz, frz, ↓dPar, ↓dAug, ↓dFor, ↓dN, ↓dNB, ↓dC, ↓dOp, ↓oI, ↓oI0, ↓oB, ↓oEq, ↓oEqS, eqS, ↓oIsN, isNo, ↓oIx, ↓oIxS, seqOf, ↓oCat, ↓oCatT, ↓oCatS, ↓oIn, ↓oInS, ↓dTb, ↓dAnd, ↓dOr, ↓dNot, ↓dYes, ↓dAndV, ↓dOrV, ↓dNotV, ↓dIfV, ↓dChain, ↓dNil, ↓dCons, ↓dL, ↓dTup, ↓dCB, ↓oAbs, ↓oI2, ↓oLen, ↓oLenS, ↓oInt, ↓oSum, ↓oBs, ↓oTupOf, ↓dSeqOf, ↓dIsi, it_bool_none, it_bool_bool, it_bool_int, it_bool_str, it_bool_list, it_bool_tuple, it_bool_dict, it_int_none, it_int_bool, it_int_int, it_int_str, it_int_list, it_int_tuple, it_int_dict, it_str_none, it_str_bool, it_str_int, it_str_str, it_str_list, it_str_tuple, it_str_dict, it_list_none, it_list_bool, it_list_int, it_list_str, it_list_list, it_list_tuple, it_list_dict, it_tuple_none, it_tuple_bool, it_tuple_int, it_tuple_str, it_tuple_list, it_tuple_tuple, it_tuple_dict, it_dict_none, it_dict_bool, it_dict_int, it_dict_str, it_dict_list, it_dict_tuple, it_dict_dict, ↓dNoP, ↓dPart, ↓dSlT, ↓dSlL, ↓dSlS, ↓dCall, ↓dCallS, ↓dItL, ↓dItT, ↓dItS, ↓dR1, ↓dR2, ↓dZip, ↓dEnum, ↓gN, ↓gNi, ↓gCo, ↓gT, ↓dLc, wipeE, eget, eset, List.set, ev0, List.map_cons, List.map_nil, List.cons_append, List.nil_append, List.replicate_succ, List.replicate_zero, noOwn, isOwn, List.all_cons, List.all_nil, List.length_cons, List.length_nil]
  have hn : 0 ≤ bd.num ∧ bd.num ≤ 255 := by
    cases bd with
    | pt k f t r => unfold Bd.num; split <;> omega
    | ask _ _ => exact ⟨show (0 : Int) ≤ 1 by decide, show (1 : Int) ≤ 255 by decide⟩
    | ans _ _ => exact ⟨show (0 : Int) ≤ 1 by decide, show (1 : Int) ≤ 255 by decide⟩
  have hp : ∀ n : Int, 0 ≤ n → n ≤ 1 → okD (eP [n, bd.num, s, bd.a, t, bd.b]) = true := fun n h0 h1 =>
    (sT (k := 0) (w := 40) (n := 6) (k' := 1) (w' := 300) (szc (sI (by omega) (by omega)) (szc (sI (by omega) (by omega)) (szc (sI (by omega) (by omega)) (szc (sI (by omega) (by omega)) (szc (sI (by omega) (by omega)) (szc (sI (by omega) (by omega)) szn)))))) (Nat.le_of_ble_eq_true rfl)).ok
  have epL : ∀ sd, okD (eP (ptL sd s t bd)) = true := fun sd => by
    unfold ptL
    split
    · exact hp 1 (by decide) (by decide)
    · exact hp 0 (by decide) (by decide)
  have eq0 : PyData.tuple [PyData.int (if sd = "in" then 1 else 0), PyData.int bd.num, PyData.int s, PyData.int bd.a, PyData.int t, PyData.int bd.b] = eP (ptL sd s t bd) := rfl
  refine ⟨hz, by show 6 ≤ sizeLine; decide, ?_⟩
  rw [eq0]
  refine ⟨sd, s, t, bd, _, _, _, _, _, rfl, rfl, ok, epL sd, epL sd, ?_⟩
  rw [if_neg (by rw [eqv_same (epL sd)]; simp)]
  refine ⟨sd, s, t, bd, _, _, _, _, _, rfl, rfl, ok, ?_⟩
  have eL : [PyData.int (if sd = "in" then 1 else 0), PyData.int bd.num, PyData.int s, PyData.int bd.a, PyData.int t, PyData.int bd.b] = (ptL sd s t bd).map PyData.int := rfl
  have l6 : (ptL sd s t bd).length = 6 := rfl
  have h00 : dix ((ptL sd s t bd).map PyData.int) 0 = some (.int (if sd = "in" then 1 else 0)) := dix_map (by decide) rfl
  simp only [eL]
  simp only [eP, true_and, ↓sTake, ↓sTake0, ↓sPick, ↓sNumber, rng_1, rng_2, rng_3, rng_4, rng_6, ↓dKd, dix_0, dix_1, dix_2, dix_3, dix_4, dix_5, dix_6, dix_7, dix_8, dix_9, Bool.not_false, Bool.not_true, Bool.and_true, Bool.true_and, Bool.and_false, Bool.false_and, decide_eq_true_eq, Bool.not_eq_true', decide_eq_false_iff_not, Bool.false_eq_true, if_true, if_false, ↓F0, ↓F1, ↓F2, ↓F3, ↓F4, ↓F5, ↓F6, ↓dParO1, ↓dParO2, ↓dEnumT, ↓oRepr, ↓dUn, ↓oNeg, ↓dSeq, ↓dRet, ↓dRetN, ↓dIf, ↓dAsg, ↓dDrop, ↓dBreak, ↓dCont, ↓dNext, ↓dOwn, ↓dApp, ↓dSetIx, ↓dFrz, frz, ↓dPar, ↓dAug, ↓dFor, ↓dN, ↓dNB, ↓dC, ↓dOp, ↓oI, ↓oI0, ↓oB, ↓oEq, ↓oEqS, eqS, ↓oIsN, isNo, ↓oIx, ↓oIxS, seqOf, ↓oCat, ↓oCatT, ↓oCatS, ↓oIn, ↓oInS, ↓dTb, ↓dAnd, ↓dOr, ↓dNot, ↓dYes, ↓dAndV, ↓dOrV, ↓dNotV, ↓dIfV, ↓dChain, ↓dNil, ↓dCons, ↓dL, ↓dTup, ↓dCB, ↓oAbs, ↓oI2, ↓oLen, ↓oLenS, ↓oInt, ↓oSum, ↓oBs, ↓oTupOf, ↓dSeqOf, ↓dIsi, it_bool_none, it_bool_bool, it_bool_int, it_bool_str, it_bool_list, it_bool_tuple, it_bool_dict, it_int_none, it_int_bool, it_int_int, it_int_str, it_int_list, it_int_tuple, it_int_dict, it_str_none, it_str_bool, it_str_int, it_str_str, it_str_list, it_str_tuple, it_str_dict, it_list_none, it_list_bool, it_list_int, it_list_str, it_list_list, it_list_tuple, it_list_dict, it_tuple_none, it_tuple_bool, it_tuple_int, it_tuple_str, it_tuple_list, it_tuple_tuple, it_tuple_dict, it_dict_none, it_dict_bool, it_dict_int, it_dict_str, it_dict_list, it_dict_tuple, it_dict_dict, ↓dNoP, ↓dPart, ↓dSlT, ↓dSlL, ↓dSlS, ↓dCall, ↓dCallS, ↓dItL, ↓dItT, ↓dItS, ↓dR1, ↓dR2, ↓dZip, ↓dEnum, ↓gN, ↓gNi, ↓gCo, ↓gT, ↓dLc, wipeE, eget, eset, List.set, ev0, List.map_cons, List.map_nil, List.cons_append, List.nil_append, List.replicate_succ, List.replicate_zero, noOwn, isOwn, List.all_cons, List.all_nil, List.length_cons, List.length_nil, h00, not_true]
  refine ⟨hz, by decide, by decide, fun r g0 g1 => ?_⟩
  obtain ⟨x, hx⟩ : ∃ x, (ptL sd s t bd)[r.toNat]? = some x := ⟨_, List.getElem?_eq_getElem (by omega)⟩
  obtain ⟨y, hy⟩ : ∃ y, ([1, 255, 4294967295, 65535, 4294967295, 65535] : List Int)[r.toNat]? = some y := ⟨_, List.getElem?_eq_getElem (by show r.toNat < 6; omega)⟩
  have hdy : dix [PyData.int 1, PyData.int 255, PyData.int 4294967295, PyData.int 65535, PyData.int 4294967295, PyData.int 65535] r = some (.int y) := dix_map (f := PyData.int) (as := [1, 255, 4294967295, 65535, 4294967295, 65535]) g0 hy
  have hdx : dix ((ptL sd s t bd).map PyData.int) r = some (.int x) := dix_map g0 hx
  simp only [hdx, hdy]
  split
  all_goals
    refine loop_by (fun rest env => (∀ d ∈ rest, ∃ n : Int, d = .int n) ∧ ∃ (s10 s11 s12 s13 : Option En) (o : D), env = [none, some .st, some (.d (.tuple [.str "packet", .int s, .int t, .int x3, .int x4, .int x5, .int x6, eBd bd])), some (.d (.tuple [.int bd.num, .int s, .int bd.a, .int t, .int bd.b])), some (.d (.str sd)), some (.d (.str (PyData.tuple [.str "packet", .int s, .int t, .int x3, .int x4, .int x5, .int x6, eBd bd]).shown)), some (.d (.tuple ((ptL sd s t bd).map PyData.int))), some (.d (.int r)), some (.d (.int y)), some (.d o), s10, s11, s12, s13]) ?_ ?_ _ _ ⟨?_, _, _, _, _, _, rfl⟩
    · rintro env ⟨_, s10, s11, s12, s13, o, rfl⟩
      simp only [true_and, ↓sTake, ↓sTake0, ↓sPick, ↓sNumber, rng_1, rng_2, rng_3, rng_4, rng_6, ↓dKd, dix_0, dix_1, dix_2, dix_3, dix_4, dix_5, dix_6, dix_7, dix_8, dix_9, Bool.not_false, Bool.not_true, Bool.and_true, Bool.true_and, Bool.and_false, Bool.false_and, decide_eq_true_eq, Bool.not_eq_true', decide_eq_false_iff_not, Bool.false_eq_true, if_true, if_false, ↓F0, ↓F1, ↓F2, ↓F3, ↓F4, ↓F5, ↓F6, ↓dParO1, ↓dParO2, ↓dEnumT, ↓oRepr, ↓dUn, ↓oNeg, ↓dSeq, ↓dRet, ↓dRetN, ↓dIf, ↓dAsg, ↓dDrop, ↓dBreak, ↓dCont, ↓dNext, ↓dOwn, ↓dApp, ↓dSetIx, ↓dFrz, frz, ↓dPar, ↓dAug, ↓dFor, ↓dN, ↓dNB, ↓dC, ↓dOp, ↓oI, ↓oI0, ↓oB, ↓oEq, ↓oEqS, eqS, ↓oIsN, isNo, ↓oIx, ↓oIxS, seqOf, ↓oCat, ↓oCatT, ↓oCatS, ↓oIn, ↓oInS, ↓dTb, ↓dAnd, ↓dOr, ↓dNot, ↓dYes, ↓dAndV, ↓dOrV, ↓dNotV, ↓dIfV, ↓dChain, ↓dNil, ↓dCons, ↓dL, ↓dTup, ↓dCB, ↓oAbs, ↓oI2, ↓oLen, ↓oLenS, ↓oInt, ↓oSum, ↓oBs, ↓oTupOf, ↓dSeqOf, ↓dIsi, it_bool_none, it_bool_bool, it_bool_int, it_bool_str, it_bool_list, it_bool_tuple, it_bool_dict, it_int_none, it_int_bool, it_int_int, it_int_str, it_int_list, it_int_tuple, it_int_dict, it_str_none, it_str_bool, it_str_int, it_str_str, it_str_list, it_str_tuple, it_str_dict, it_list_none, it_list_bool, it_list_int, it_list_str, it_list_list, it_list_tuple, it_list_dict, it_tuple_none, it_tuple_bool, it_tuple_int, it_tuple_str, it_tuple_list, it_tuple_tuple, it_tuple_dict, it_dict_none, it_dict_bool, it_dict_int, it_dict_str, it_dict_list, it_dict_tuple, it_dict_dict, ↓dNoP, ↓dPart, ↓dSlT, ↓dSlL, ↓dSlS, ↓dCall, ↓dCallS, ↓dItL, ↓dItT, ↓dItS, ↓dR1, ↓dR2, ↓dZip, ↓dEnum, ↓gN, ↓gNi, ↓gCo, ↓gT, ↓dLc, wipeE, eget, eset, List.set, ev0, List.map_cons, List.map_nil, List.cons_append, List.nil_append, List.replicate_succ, List.replicate_zero, noOwn, isOwn, List.all_cons, List.all_nil, List.length_cons, List.length_nil]
      by_cases c : sd = Str.ofString "in"
      · simp only [if_pos c] at h00 ⊢
        simp only [true_and, ↓sTake, ↓sTake0, ↓sPick, ↓sNumber, rng_1, rng_2, rng_3, rng_4, rng_6, ↓dKd, dix_0, dix_1, dix_2, dix_3, dix_4, dix_5, dix_6, dix_7, dix_8, dix_9, Bool.not_false, Bool.not_true, Bool.and_true, Bool.true_and, Bool.and_false, Bool.false_and, decide_eq_true_eq, Bool.not_eq_true', decide_eq_false_iff_not, Bool.false_eq_true, if_true, if_false, ↓F0, ↓F1, ↓F2, ↓F3, ↓F4, ↓F5, ↓F6, ↓dParO1, ↓dParO2, ↓dEnumT, ↓oRepr, ↓dUn, ↓oNeg, ↓dSeq, ↓dRet, ↓dRetN, ↓dIf, ↓dAsg, ↓dDrop, ↓dBreak, ↓dCont, ↓dNext, ↓dOwn, ↓dApp, ↓dSetIx, ↓dFrz, frz, ↓dPar, ↓dAug, ↓dFor, ↓dN, ↓dNB, ↓dC, ↓dOp, ↓oI, ↓oI0, ↓oB, ↓oEq, ↓oEqS, eqS, ↓oIsN, isNo, ↓oIx, ↓oIxS, seqOf, ↓oCat, ↓oCatT, ↓oCatS, ↓oIn, ↓oInS, ↓dTb, ↓dAnd, ↓dOr, ↓dNot, ↓dYes, ↓dAndV, ↓dOrV, ↓dNotV, ↓dIfV, ↓dChain, ↓dNil, ↓dCons, ↓dL, ↓dTup, ↓dCB, ↓oAbs, ↓oI2, ↓oLen, ↓oLenS, ↓oInt, ↓oSum, ↓oBs, ↓oTupOf, ↓dSeqOf, ↓dIsi, it_bool_none, it_bool_bool, it_bool_int, it_bool_str, it_bool_list, it_bool_tuple, it_bool_dict, it_int_none, it_int_bool, it_int_int, it_int_str, it_int_list, it_int_tuple, it_int_dict, it_str_none, it_str_bool, it_str_int, it_str_str, it_str_list, it_str_tuple, it_str_dict, it_list_none, it_list_bool, it_list_int, it_list_str, it_list_list, it_list_tuple, it_list_dict, it_tuple_none, it_tuple_bool, it_tuple_int, it_tuple_str, it_tuple_list, it_tuple_tuple, it_tuple_dict, it_dict_none, it_dict_bool, it_dict_int, it_dict_str, it_dict_list, it_dict_tuple, it_dict_dict, ↓dNoP, ↓dPart, ↓dSlT, ↓dSlL, ↓dSlS, ↓dCall, ↓dCallS, ↓dItL, ↓dItT, ↓dItS, ↓dR1, ↓dR2, ↓dZip, ↓dEnum, ↓gN, ↓gNi, ↓gCo, ↓gT, ↓dLc, wipeE, eget, eset, List.set, ev0, List.map_cons, List.map_nil, List.cons_append, List.nil_append, List.replicate_succ, List.replicate_zero, noOwn, isOwn, List.all_cons, List.all_nil, List.length_cons, List.length_nil]
        refine ⟨_, s, t, bd, _, _, _, _, _, rfl, rfl, ok, ?_⟩
        rw [h00]
        have e : PyData.tuple ((ptL (Str.ofString "out") s t bd).map PyData.int) = PyData.tuple [.int (1 - 1), .int bd.num, .int s, .int bd.a, .int t, .int bd.b] := rfl
        exact ⟨by show 6 ≤ sizeLine; decide, epL _, by rw [← e]; exact epL _, bool_eqv (by rw [← e]; exact epL _) e⟩
      · simp only [if_neg c] at h00 ⊢
        simp only [true_and, ↓sTake, ↓sTake0, ↓sPick, ↓sNumber, rng_1, rng_2, rng_3, rng_4, rng_6, ↓dKd, dix_0, dix_1, dix_2, dix_3, dix_4, dix_5, dix_6, dix_7, dix_8, dix_9, Bool.not_false, Bool.not_true, Bool.and_true, Bool.true_and, Bool.and_false, Bool.false_and, decide_eq_true_eq, Bool.not_eq_true', decide_eq_false_iff_not, Bool.false_eq_true, if_true, if_false, ↓F0, ↓F1, ↓F2, ↓F3, ↓F4, ↓F5, ↓F6, ↓dParO1, ↓dParO2, ↓dEnumT, ↓oRepr, ↓dUn, ↓oNeg, ↓dSeq, ↓dRet, ↓dRetN, ↓dIf, ↓dAsg, ↓dDrop, ↓dBreak, ↓dCont, ↓dNext, ↓dOwn, ↓dApp, ↓dSetIx, ↓dFrz, frz, ↓dPar, ↓dAug, ↓dFor, ↓dN, ↓dNB, ↓dC, ↓dOp, ↓oI, ↓oI0, ↓oB, ↓oEq, ↓oEqS, eqS, ↓oIsN, isNo, ↓oIx, ↓oIxS, seqOf, ↓oCat, ↓oCatT, ↓oCatS, ↓oIn, ↓oInS, ↓dTb, ↓dAnd, ↓dOr, ↓dNot, ↓dYes, ↓dAndV, ↓dOrV, ↓dNotV, ↓dIfV, ↓dChain, ↓dNil, ↓dCons, ↓dL, ↓dTup, ↓dCB, ↓oAbs, ↓oI2, ↓oLen, ↓oLenS, ↓oInt, ↓oSum, ↓oBs, ↓oTupOf, ↓dSeqOf, ↓dIsi, it_bool_none, it_bool_bool, it_bool_int, it_bool_str, it_bool_list, it_bool_tuple, it_bool_dict, it_int_none, it_int_bool, it_int_int, it_int_str, it_int_list, it_int_tuple, it_int_dict, it_str_none, it_str_bool, it_str_int, it_str_str, it_str_list, it_str_tuple, it_str_dict, it_list_none, it_list_bool, it_list_int, it_list_str, it_list_list, it_list_tuple, it_list_dict, it_tuple_none, it_tuple_bool, it_tuple_int, it_tuple_str, it_tuple_list, it_tuple_tuple, it_tuple_dict, it_dict_none, it_dict_bool, it_dict_int, it_dict_str, it_dict_list, it_dict_tuple, it_dict_dict, ↓dNoP, ↓dPart, ↓dSlT, ↓dSlL, ↓dSlS, ↓dCall, ↓dCallS, ↓dItL, ↓dItT, ↓dItS, ↓dR1, ↓dR2, ↓dZip, ↓dEnum, ↓gN, ↓gNi, ↓gCo, ↓gT, ↓dLc, wipeE, eget, eset, List.set, ev0, List.map_cons, List.map_nil, List.cons_append, List.nil_append, List.replicate_succ, List.replicate_zero, noOwn, isOwn, List.all_cons, List.all_nil, List.length_cons, List.length_nil]
        refine ⟨_, s, t, bd, _, _, _, _, _, rfl, rfl, ok, ?_⟩
        rw [h00]
        have e : PyData.tuple ((ptL (Str.ofString "in") s t bd).map PyData.int) = PyData.tuple [.int (1 - 0), .int bd.num, .int s, .int bd.a, .int t, .int bd.b] := by
          unfold ptL
          rw [if_pos rfl]
          rfl
        exact ⟨by show 6 ≤ sizeLine; decide, epL _, by rw [← e]; exact epL _, bool_eqv (by rw [← e]; exact epL _) e⟩
    · rintro d rest env N ⟨hd, s10, s11, s12, s13, o, rfl⟩ hN
      obtain ⟨n, rfl⟩ := hd d List.mem_cons_self
      simp only [true_and, ↓sTake, ↓sTake0, ↓sPick, ↓sNumber, rng_1, rng_2, rng_3, rng_4, rng_6, ↓dKd, dix_0, dix_1, dix_2, dix_3, dix_4, dix_5, dix_6, dix_7, dix_8, dix_9, Bool.not_false, Bool.not_true, Bool.and_true, Bool.true_and, Bool.and_false, Bool.false_and, decide_eq_true_eq, Bool.not_eq_true', decide_eq_false_iff_not, Bool.false_eq_true, if_true, if_false, ↓F0, ↓F1, ↓F2, ↓F3, ↓F4, ↓F5, ↓F6, ↓dParO1, ↓dParO2, ↓dEnumT, ↓oRepr, ↓dUn, ↓oNeg, ↓dSeq, ↓dRet, ↓dRetN, ↓dIf, ↓dAsg, ↓dDrop, ↓dBreak, ↓dCont, ↓dNext, ↓dOwn, ↓dApp, ↓dSetIx, ↓dFrz, frz, ↓dPar, ↓dAug, ↓dFor, ↓dN, ↓dNB, ↓dC, ↓dOp, ↓oI, ↓oI0, ↓oB, ↓oEq, ↓oEqS, eqS, ↓oIsN, isNo, ↓oIx, ↓oIxS, seqOf, ↓oCat, ↓oCatT, ↓oCatS, ↓oIn, ↓oInS, ↓dTb, ↓dAnd, ↓dOr, ↓dNot, ↓dYes, ↓dAndV, ↓dOrV, ↓dNotV, ↓dIfV, ↓dChain, ↓dNil, ↓dCons, ↓dL, ↓dTup, ↓dCB, ↓oAbs, ↓oI2, ↓oLen, ↓oLenS, ↓oInt, ↓oSum, ↓oBs, ↓oTupOf, ↓dSeqOf, ↓dIsi, it_bool_none, it_bool_bool, it_bool_int, it_bool_str, it_bool_list, it_bool_tuple, it_bool_dict, it_int_none, it_int_bool, it_int_int, it_int_str, it_int_list, it_int_tuple, it_int_dict, it_str_none, it_str_bool, it_str_int, it_str_str, it_str_list, it_str_tuple, it_str_dict, it_list_none, it_list_bool, it_list_int, it_list_str, it_list_list, it_list_tuple, it_list_dict, it_tuple_none, it_tuple_bool, it_tuple_int, it_tuple_str, it_tuple_list, it_tuple_tuple, it_tuple_dict, it_dict_none, it_dict_bool, it_dict_int, it_dict_str, it_dict_list, it_dict_tuple, it_dict_dict, ↓dNoP, ↓dPart, ↓dSlT, ↓dSlL, ↓dSlS, ↓dCall, ↓dCallS, ↓dItL, ↓dItT, ↓dItS, ↓dR1, ↓dR2, ↓dZip, ↓dEnum, ↓gN, ↓gNi, ↓gCo, ↓gT, ↓dLc, wipeE, eget, eset, List.set, ev0, List.map_cons, List.map_nil, List.cons_append, List.nil_append, List.replicate_succ, List.replicate_zero, noOwn, isOwn, List.all_cons, List.all_nil, List.length_cons, List.length_nil]
      refine ⟨ptL sd s t bd, r, n, rfl, rfl, rfl, l6, g0, g1, ?_⟩
      rw [hdx]
      simp only [true_and, ↓sTake, ↓sTake0, ↓sPick, ↓sNumber, rng_1, rng_2, rng_3, rng_4, rng_6, ↓dKd, dix_0, dix_1, dix_2, dix_3, dix_4, dix_5, dix_6, dix_7, dix_8, dix_9, Bool.not_false, Bool.not_true, Bool.and_true, Bool.true_and, Bool.and_false, Bool.false_and, decide_eq_true_eq, Bool.not_eq_true', decide_eq_false_iff_not, Bool.false_eq_true, if_true, if_false, ↓F0, ↓F1, ↓F2, ↓F3, ↓F4, ↓F5, ↓F6, ↓dParO1, ↓dParO2, ↓dEnumT, ↓oRepr, ↓dUn, ↓oNeg, ↓dSeq, ↓dRet, ↓dRetN, ↓dIf, ↓dAsg, ↓dDrop, ↓dBreak, ↓dCont, ↓dNext, ↓dOwn, ↓dApp, ↓dSetIx, ↓dFrz, frz, ↓dPar, ↓dAug, ↓dFor, ↓dN, ↓dNB, ↓dC, ↓dOp, ↓oI, ↓oI0, ↓oB, ↓oEq, ↓oEqS, eqS, ↓oIsN, isNo, ↓oIx, ↓oIxS, seqOf, ↓oCat, ↓oCatT, ↓oCatS, ↓oIn, ↓oInS, ↓dTb, ↓dAnd, ↓dOr, ↓dNot, ↓dYes, ↓dAndV, ↓dOrV, ↓dNotV, ↓dIfV, ↓dChain, ↓dNil, ↓dCons, ↓dL, ↓dTup, ↓dCB, ↓oAbs, ↓oI2, ↓oLen, ↓oLenS, ↓oInt, ↓oSum, ↓oBs, ↓oTupOf, ↓dSeqOf, ↓dIsi, it_bool_none, it_bool_bool, it_bool_int, it_bool_str, it_bool_list, it_bool_tuple, it_bool_dict, it_int_none, it_int_bool, it_int_int, it_int_str, it_int_list, it_int_tuple, it_int_dict, it_str_none, it_str_bool, it_str_int, it_str_str, it_str_list, it_str_tuple, it_str_dict, it_list_none, it_list_bool, it_list_int, it_list_str, it_list_list, it_list_tuple, it_list_dict, it_tuple_none, it_tuple_bool, it_tuple_int, it_tuple_str, it_tuple_list, it_tuple_tuple, it_tuple_dict, it_dict_none, it_dict_bool, it_dict_int, it_dict_str, it_dict_list, it_dict_tuple, it_dict_dict, ↓dNoP, ↓dPart, ↓dSlT, ↓dSlL, ↓dSlS, ↓dCall, ↓dCallS, ↓dItL, ↓dItT, ↓dItS, ↓dR1, ↓dR2, ↓dZip, ↓dEnum, ↓gN, ↓gNi, ↓gCo, ↓gT, ↓dLc, wipeE, eget, eset, List.set, ev0, List.map_cons, List.map_nil, List.cons_append, List.nil_append, List.replicate_succ, List.replicate_zero, noOwn, isOwn, List.all_cons, List.all_nil, List.length_cons, List.length_nil]
      by_cases c : n = x
      · rw [if_pos c]
        refine ⟨sd, s, t, bd, _, _, _, _, _, rfl, rfl, ok, ([(((ptL sd s t bd).set r.toNat n).map fun e => [(e, e)], .tuple [.str "pass"], .tuple [.str "few"])], .tuple [.str "drop"], .tuple []), ptL sd s t bd, rfl, rfl, by show 1 ≤ 1000; decide, by rw [l6]; decide, ?_⟩
        rw [decN_pt hx, if_pos c]
        refine ⟨z1, z1, ?_⟩
        refine ite_nf z1 rfl ?_
        exact hN _ ⟨fun d h => hd d (List.mem_cons_of_mem _ h), _, _, _, _, _, rfl⟩
      · rw [if_neg c]
        refine ⟨sd, s, t, bd, _, _, _, _, _, rfl, rfl, ok, ([(((ptL sd s t bd).set r.toNat n).map fun e => [(e, e)], .tuple [.str "pass"], .tuple [.str "few"])], .tuple [.str "drop"], .tuple []), ptL sd s t bd, rfl, rfl, by show 1 ≤ 1000; decide, by rw [l6]; decide, ?_⟩
        rw [decN_pt hx, if_neg c]
        refine ⟨z2, z2, ?_⟩
        refine ite_nf z2 rfl ?_
        exact hN _ ⟨fun d h => hd d (List.mem_cons_of_mem _ h), _, _, _, _, _, rfl⟩
    · intro d h
      simp only [List.mem_cons, List.not_mem_nil, or_false] at h
      rcases h with rfl | rfl
      · exact ⟨_, rfl⟩
      · exact ⟨_, rfl⟩
end
theorem all_mk {l : PySem.W.OpenLaw} {w : World} {K : PySem.W.Frag} {h : Heap} {mg : Str → Option Value} {fa f0 f1 f2 f3 f4 f5 f6 f7 f8 f9 f10 f11 f12 : Addr} (X : K.In h) (G : h.Ns mainGlobals mg) (hfa : mg "law" = some (.ref fa))
    {od0 an0 od1 an1 od2 an2 od3 an3 od4 an4 od5 an5 od6 an6 od7 an7 od8 an8 od9 an9 od10 an10 od11 an11 od12 an12 : Option Addr} {sl0 sl1 sl2 sl3 sl4 sl5 sl6 sl7 sl8 sl9 sl10 sl11 sl12 : Array (Option Value)} {oc0 kV0 dc0 pm0 cd0 ct0 oc1 kV1 dc1 pm1 cd1 ct1 oc2 kV2 dc2 pm2 cd2 ct2 oc3 kV3 dc3 pm3 cd3 ct3 oc4 kV4 dc4 pm4 cd4 ct4 oc5 kV5 dc5 pm5 cd5 ct5 oc6 kV6 dc6 pm6 cd6 ct6 oc7 kV7 dc7 pm7 cd7 ct7 oc8 kV8 dc8 pm8 cd8 ct8 oc9 kV9 dc9 pm9 cd9 ct9 oc10 kV10 dc10 pm10 cd10 ct10 oc11 kV11 dc11 pm11 cd11 ct11 oc12 kV12 dc12 pm12 cd12 ct12 : Value} 
    (a0 : PySem.W.nsIn K mainGlobals "way_of" = some (some (.ref f0))) (l0 : K.lookup f0 = some ⟨oc0, od0, .func (PySem.W.fnOf "way_of" "way_of" (defArgs s_way_of) (defBody s_way_of) (defScope s_way_of) .none kV0 dc0 pm0 an0 cd0 ct0), sl0⟩) (c0 : PySem.W.codeIn K cd0 "way_of" = true) (k0 : PySem.W.keepIn K (.ref f0) = true)
    (a1 : PySem.W.nsIn K mainGlobals "way_of_stub" = some (some (.ref f1))) (l1 : K.lookup f1 = some ⟨oc1, od1, .func (PySem.W.fnOf "way_of_stub" "way_of_stub" (defArgs s_way_of_stub) (defBody s_way_of_stub) (defScope s_way_of_stub) .none kV1 dc1 pm1 an1 cd1 ct1), sl1⟩) (c1 : PySem.W.codeIn K cd1 "way_of_stub" = true) (k1 : PySem.W.keepIn K (.ref f1) = true)
    (a2 : PySem.W.nsIn K mainGlobals "_way_between" = some (some (.ref f2))) (l2 : K.lookup f2 = some ⟨oc2, od2, .func (PySem.W.fnOf "_way_between" "_way_between" (defArgs s_way_between) (defBody s_way_between) (defScope s_way_between) .none kV2 dc2 pm2 an2 cd2 ct2), sl2⟩) (c2 : PySem.W.codeIn K cd2 "_way_between" = true) (k2 : PySem.W.keepIn K (.ref f2) = true)
    (a3 : PySem.W.nsIn K mainGlobals "turned" = some (some (.ref f3))) (l3 : K.lookup f3 = some ⟨oc3, od3, .func (PySem.W.fnOf "turned" "turned" (defArgs s_turned) (defBody s_turned) (defScope s_turned) .none kV3 dc3 pm3 an3 cd3 ct3), sl3⟩) (c3 : PySem.W.codeIn K cd3 "turned" = true) (k3 : PySem.W.keepIn K (.ref f3) = true)
    (a4 : PySem.W.nsIn K mainGlobals "point_of" = some (some (.ref f4))) (l4 : K.lookup f4 = some ⟨oc4, od4, .func (PySem.W.fnOf "point_of" "point_of" (defArgs s_point_of) (defBody s_point_of) (defScope s_point_of) .none kV4 dc4 pm4 an4 cd4 ct4), sl4⟩) (c4 : PySem.W.codeIn K cd4 "point_of" = true) (k4 : PySem.W.keepIn K (.ref f4) = true)
    (a5 : PySem.W.nsIn K mainGlobals "row_has" = some (some (.ref f5))) (l5 : K.lookup f5 = some ⟨oc5, od5, .func (PySem.W.fnOf "row_has" "row_has" (defArgs s_row_has) (defBody s_row_has) (defScope s_row_has) .none kV5 dc5 pm5 an5 cd5 ct5), sl5⟩) (c5 : PySem.W.codeIn K cd5 "row_has" = true) (k5 : PySem.W.keepIn K (.ref f5) = true)
    (a6 : PySem.W.nsIn K mainGlobals "decider" = some (some (.ref f6))) (l6 : K.lookup f6 = some ⟨oc6, od6, .func (PySem.W.fnOf "decider" "decider" (defArgs s_decider) (defBody s_decider) (defScope s_decider) .none kV6 dc6 pm6 an6 cd6 ct6), sl6⟩) (c6 : PySem.W.codeIn K cd6 "decider" = true) (k6 : PySem.W.keepIn K (.ref f6) = true)
    (a7 : PySem.W.nsIn K mainGlobals "verdict" = some (some (.ref f7))) (l7 : K.lookup f7 = some ⟨oc7, od7, .func (PySem.W.fnOf "verdict" "verdict" (defArgs s_verdict) (defBody s_verdict) (defScope s_verdict) .none kV7 dc7 pm7 an7 cd7 ct7), sl7⟩) (c7 : PySem.W.codeIn K cd7 "verdict" = true) (k7 : PySem.W.keepIn K (.ref f7) = true)
    (a8 : PySem.W.nsIn K mainGlobals "_law_state" = some (some (.ref f8))) (l8 : K.lookup f8 = some ⟨oc8, od8, .func (PySem.W.fnOf "_law_state" "_law_state" (defArgs s_law_state) (defBody s_law_state) (defScope s_law_state) .none kV8 dc8 pm8 an8 cd8 ct8), sl8⟩) (c8 : PySem.W.codeIn K cd8 "_law_state" = true) (k8 : PySem.W.keepIn K (.ref f8) = true)
    (a9 : PySem.W.nsIn K mainGlobals "_law_take" = some (some (.ref f9))) (l9 : K.lookup f9 = some ⟨oc9, od9, .func (PySem.W.fnOf "_law_take" "_law_take" (defArgs s_law_take) (defBody s_law_take) (defScope s_law_take) .none kV9 dc9 pm9 an9 cd9 ct9), sl9⟩) (c9 : PySem.W.codeIn K cd9 "_law_take" = true) (k9 : PySem.W.keepIn K (.ref f9) = true)
    (a10 : PySem.W.nsIn K mainGlobals "_law_packet" = some (some (.ref f10))) (l10 : K.lookup f10 = some ⟨oc10, od10, .func (PySem.W.fnOf "_law_packet" "_law_packet" (defArgs s_law_packet) (defBody s_law_packet) (defScope s_law_packet) .none kV10 dc10 pm10 an10 cd10 ct10), sl10⟩) (c10 : PySem.W.codeIn K cd10 "_law_packet" = true) (k10 : PySem.W.keepIn K (.ref f10) = true)
    (a11 : PySem.W.nsIn K mainGlobals "_law_rule" = some (some (.ref f11))) (l11 : K.lookup f11 = some ⟨oc11, od11, .func (PySem.W.fnOf "_law_rule" "_law_rule" (defArgs s_law_rule) (defBody s_law_rule) (defScope s_law_rule) .none kV11 dc11 pm11 an11 cd11 ct11), sl11⟩) (c11 : PySem.W.codeIn K cd11 "_law_rule" = true) (k11 : PySem.W.keepIn K (.ref f11) = true)
    (a12 : PySem.W.nsIn K mainGlobals "law" = some (some (.ref f12))) (l12 : K.lookup f12 = some ⟨oc12, od12, .func (PySem.W.fnOf "law" "law" (defArgs s_law) (defBody s_law) (defScope s_law) .none kV12 dc12 pm12 an12 cd12 ct12), sl12⟩) (c12 : PySem.W.codeIn K cd12 "law" = true) (k12 : PySem.W.keepIn K (.ref f12) = true)
    (z_enumerate : PySem.W.nsIn K mainGlobals "enumerate" = some none)
    (z_len : PySem.W.nsIn K mainGlobals "len" = some none)
    (z_all : PySem.W.nsIn K mainGlobals "all" = some none)
    (z_zip : PySem.W.nsIn K mainGlobals "zip" = some none)
    (z_abs : PySem.W.nsIn K mainGlobals "abs" = some none)
    (z_int : PySem.W.nsIn K mainGlobals "int" = some none)
    (z_tuple : PySem.W.nsIn K mainGlobals "tuple" = some none)
    (z_range : PySem.W.nsIn K mainGlobals "range" = some none)
    (z_repr : PySem.W.nsIn K mainGlobals "repr" = some none)
    (z_isinstance : PySem.W.nsIn K mainGlobals "isinstance" = some none)
    (z_bool : PySem.W.nsIn K mainGlobals "bool" = some none)
    {ga_PROTOCOLS : Addr} {es_PROTOCOLS : Array DictEntry} {dn_PROTOCOLS : Nat} {u_PROTOCOLS_0 u_PROTOCOLS_1 u_PROTOCOLS_2 u_PROTOCOLS_3 : Tok}
    (q_PROTOCOLS : PySem.W.nsIn K mainGlobals "PROTOCOLS" = some (some (.ref ga_PROTOCOLS))) (ql_PROTOCOLS : K.lookup ga_PROTOCOLS = some ⟨.type "dict", none, .dict es_PROTOCOLS dn_PROTOCOLS, #[]⟩)
    (qk_PROTOCOLS : PySem.W.KeysLit w.params es_PROTOCOLS.toList)
    (qe_PROTOCOLS_0 : PySem.W.nsIn K ga_PROTOCOLS (Str.ofString "udp") = some (some (.int 17 u_PROTOCOLS_0)))
    (qe_PROTOCOLS_1 : PySem.W.nsIn K ga_PROTOCOLS (Str.ofString "tcp") = some (some (.int 6 u_PROTOCOLS_1)))
    (qe_PROTOCOLS_2 : PySem.W.nsIn K ga_PROTOCOLS (Str.ofString "echo") = some (some (.int 1 u_PROTOCOLS_2)))
    (qe_PROTOCOLS_3 : PySem.W.nsIn K ga_PROTOCOLS (Str.ofString "failure") = some (some (.int 1 u_PROTOCOLS_3)))
    : ∃ fd : FuncData, (∀ (s : Shared) (v : Value), BindsTo s fd ⟨[v], []⟩ [("script", v)]) ∧ ∀ base : Heap, K.In base → base.Ns mainGlobals mg → FnG l.prog w K mg base 5 fa fd ["script"] (spLaw K) := by
  have e := hfa.symm.trans (PySem.W.mg_of X G a12)
  cases e
  have F0 := fun_mk (st := s_way_of) l0 c0 k0
  have b0 := F0.binds (ps := ["packet"]) fun _ _ _ _ _ _ us hl => match us, hl with | [_], _ => rfl
  have F1 := fun_mk (st := s_way_of_stub) l1 c1 k1
  have b1 := F1.binds (ps := ["stub"]) fun _ _ _ _ _ _ us hl => match us, hl with | [_], _ => rfl
  have F2 := fun_mk (st := s_way_between) l2 c2 k2
  have b2 := F2.binds (ps := ["source", "target", "part"]) fun _ _ _ _ _ _ us hl => match us, hl with | [_, _, _], _ => rfl
  have F3 := fun_mk (st := s_turned) l3 c3 k3
  have b3 := F3.binds (ps := ["way"]) fun _ _ _ _ _ _ us hl => match us, hl with | [_], _ => rfl
  have F4 := fun_mk (st := s_point_of) l4 c4 k4
  have b4 := F4.binds (ps := ["side", "packet"]) fun _ _ _ _ _ _ us hl => match us, hl with | [_, _], _ => rfl
  have F5 := fun_mk (st := s_row_has) l5 c5 k5
  have b5 := F5.binds (ps := ["row", "number"]) fun _ _ _ _ _ _ us hl => match us, hl with | [_, _], _ => rfl
  have F6 := fun_mk (st := s_decider) l6 c6 k6
  have b6 := F6.binds (ps := ["table", "point"]) fun _ _ _ _ _ _ us hl => match us, hl with | [_, _], _ => rfl
  have F7 := fun_mk (st := s_verdict) l7 c7 k7
  have b7 := F7.binds (ps := ["table", "point"]) fun _ _ _ _ _ _ us hl => match us, hl with | [_, _], _ => rfl
  have F8 := fun_mk (st := s_law_state) l8 c8 k8
  have b8 := F8.binds (ps := ["script"]) fun _ _ _ _ _ _ us hl => match us, hl with | [_], _ => rfl
  have F9 := fun_mk (st := s_law_take) l9 c9 k9
  have b9 := F9.binds (ps := ["state", "most"]) fun _ _ _ _ _ _ us hl => match us, hl with | [_, _], _ => rfl
  have F10 := fun_mk (st := s_law_packet) l10 c10 k10
  have b10 := F10.binds (ps := ["state"]) fun _ _ _ _ _ _ us hl => match us, hl with | [_], _ => rfl
  have F11 := fun_mk (st := s_law_rule) l11 c11 k11
  have b11 := F11.binds (ps := ["point", "field", "number"]) fun _ _ _ _ _ _ us hl => match us, hl with | [_, _, _], _ => rfl
  have F12 := fun_mk (st := s_law) l12 c12 k12
  have b12 := F12.binds (ps := ["script"]) fun _ _ _ _ _ _ us hl => match us, hl with | [_], _ => rfl
  let T : Tx K mg w := { ad_way_of := _, fd_way_of := _, d_way_of := ⟨F0, b0, PySem.W.mg_of X G a0⟩, ad_way_of_stub := _, fd_way_of_stub := _, d_way_of_stub := ⟨F1, b1, PySem.W.mg_of X G a1⟩, ad_way_between := _, fd_way_between := _, d_way_between := ⟨F2, b2, PySem.W.mg_of X G a2⟩, ad_turned := _, fd_turned := _, d_turned := ⟨F3, b3, PySem.W.mg_of X G a3⟩, ad_point_of := _, fd_point_of := _, d_point_of := ⟨F4, b4, PySem.W.mg_of X G a4⟩, ad_row_has := _, fd_row_has := _, d_row_has := ⟨F5, b5, PySem.W.mg_of X G a5⟩, ad_decider := _, fd_decider := _, d_decider := ⟨F6, b6, PySem.W.mg_of X G a6⟩, ad_verdict := _, fd_verdict := _, d_verdict := ⟨F7, b7, PySem.W.mg_of X G a7⟩, ad_law_state := _, fd_law_state := _, d_law_state := ⟨F8, b8, PySem.W.mg_of X G a8⟩, ad_law_take := _, fd_law_take := _, d_law_take := ⟨F9, b9, PySem.W.mg_of X G a9⟩, ad_law_packet := _, fd_law_packet := _, d_law_packet := ⟨F10, b10, PySem.W.mg_of X G a10⟩, ad_law_rule := _, fd_law_rule := _, d_law_rule := ⟨F11, b11, PySem.W.mg_of X G a11⟩, ad_law := _, fd_law := _, d_law := ⟨F12, b12, PySem.W.mg_of X G a12⟩, b_enumerate := PySem.W.mg_none_of X G z_enumerate, b_len := PySem.W.mg_none_of X G z_len, b_all := PySem.W.mg_none_of X G z_all, b_zip := PySem.W.mg_none_of X G z_zip, b_abs := PySem.W.mg_none_of X G z_abs, b_int := PySem.W.mg_none_of X G z_int, b_tuple := PySem.W.mg_none_of X G z_tuple, b_range := PySem.W.mg_none_of X G z_range, b_repr := PySem.W.mg_none_of X G z_repr, b_isinstance := PySem.W.mg_none_of X G z_isinstance, b_bool := PySem.W.mg_none_of X G z_bool, a_PROTOCOLS := _, g_PROTOCOLS := PySem.W.mg_of X G q_PROTOCOLS, d_PROTOCOLS_0 := ⟨_, _, _, ql_PROTOCOLS, qk_PROTOCOLS, qe_PROTOCOLS_0, ⟨_, rfl⟩⟩, d_PROTOCOLS_1 := ⟨_, _, _, ql_PROTOCOLS, qk_PROTOCOLS, qe_PROTOCOLS_1, ⟨_, rfl⟩⟩, d_PROTOCOLS_2 := ⟨_, _, _, ql_PROTOCOLS, qk_PROTOCOLS, qe_PROTOCOLS_2, ⟨_, rfl⟩⟩, d_PROTOCOLS_3 := ⟨_, _, _, ql_PROTOCOLS, qk_PROTOCOLS, qe_PROTOCOLS_3, ⟨_, rfl⟩⟩ }
  exact ⟨T.fd_law, fun s v => .of_eq rfl, fun base _ _ => ok_law T⟩
theorem walk {l : PySem.W.OpenLaw} {q : Program} {loose : List Str} {XP : (Str → Option Value) → Heap → Prop} {YP : World → Heap → Prop} {d : DefRec} {K : Params → PySem.W.Frag} (hn : l.most = some 63) (hdf : d.params.defaults = [])
    (hY : ∀ (w : World) (h : Heap), YP w h → (K w.params).In h)
    (F : ∀ (w : World) (mg : Str → Option Value) (fa : Addr) (h : Heap), (K w.params).In h → h.Ns mainGlobals mg → mg d.name = some (.ref fa) →
      ∃ fd : FuncData, (∀ (s : Shared) (u : Value), BindsTo s fd ⟨[u], []⟩ [("script", u)]) ∧ ∀ base : Heap, (K w.params).In base → base.Ns mainGlobals mg → FnG l.prog w (K w.params) mg base 5 fa fd ["script"] (spLaw (K w.params))) :
    PySem.W.WalkO q loose XP YP l.row.toRowW d [] (fun f vs => PySem.call f vs) :=
  walkG (k := 5) (x := "script") hn hdf ⟨rfl, by decide, by decide⟩ hY F
end Toy
open PySem PySem.W PyProof.Rows
set_option maxRecDepth 100000 in
set_option maxHeartbeats 0 in
theorem PySem.Challenge.cw_onepolicy_k78_points_of_packets_holds : PySem.Challenge.rw_onepolicy_k78_points_of_packets.Holds := by
  w_on; o_law; k_head; (case hw => w_witness2)
  k_fill
  refine Toy.walk (l := PySem.Challenge.rw_onepolicy_k78_points_of_packets) rfl rfl (fun w h Y => PySem.W.kIn_of Y) ?F
  case F =>
    intro w mg fa h KX G hmg
    refine' Toy.all_mk KX G hmg ?a0 ?l0 ?c0 ?k0 ?a1 ?l1 ?c1 ?k1 ?a2 ?l2 ?c2 ?k2 ?a3 ?l3 ?c3 ?k3 ?a4 ?l4 ?c4 ?k4 ?a5 ?l5 ?c5 ?k5 ?a6 ?l6 ?c6 ?k6 ?a7 ?l7 ?c7 ?k7 ?a8 ?l8 ?c8 ?k8 ?a9 ?l9 ?c9 ?k9 ?a10 ?l10 ?c10 ?k10 ?a11 ?l11 ?c11 ?k11 ?a12 ?l12 ?c12 ?k12 ?z_enumerate ?z_len ?z_all ?z_zip ?z_abs ?z_int ?z_tuple ?z_range ?z_repr ?z_isinstance ?z_bool ?q_PROTOCOLS ?ql_PROTOCOLS ?qk_PROTOCOLS ?qe_PROTOCOLS_0 ?qe_PROTOCOLS_1 ?qe_PROTOCOLS_2 ?qe_PROTOCOLS_3
    (case a0 => k_is)
    (case l0 => k_is)
    (case c0 => k_is)
    (case k0 => k_is)
    (case a1 => k_is)
    (case l1 => k_is)
    (case c1 => k_is)
    (case k1 => k_is)
    (case a2 => k_is)
    (case l2 => k_is)
    (case c2 => k_is)
    (case k2 => k_is)
    (case a3 => k_is)
    (case l3 => k_is)
    (case c3 => k_is)
    (case k3 => k_is)
    (case a4 => k_is)
    (case l4 => k_is)
    (case c4 => k_is)
    (case k4 => k_is)
    (case a5 => k_is)
    (case l5 => k_is)
    (case c5 => k_is)
    (case k5 => k_is)
    (case a6 => k_is)
    (case l6 => k_is)
    (case c6 => k_is)
    (case k6 => k_is)
    (case a7 => k_is)
    (case l7 => k_is)
    (case c7 => k_is)
    (case k7 => k_is)
    (case a8 => k_is)
    (case l8 => k_is)
    (case c8 => k_is)
    (case k8 => k_is)
    (case a9 => k_is)
    (case l9 => k_is)
    (case c9 => k_is)
    (case k9 => k_is)
    (case a10 => k_is)
    (case l10 => k_is)
    (case c10 => k_is)
    (case k10 => k_is)
    (case a11 => k_is)
    (case l11 => k_is)
    (case c11 => k_is)
    (case k11 => k_is)
    (case a12 => k_is)
    (case l12 => k_is)
    (case c12 => k_is)
    (case k12 => k_is)
    (case z_enumerate => k_is)
    (case z_len => k_is)
    (case z_all => k_is)
    (case z_zip => k_is)
    (case z_abs => k_is)
    (case z_int => k_is)
    (case z_tuple => k_is)
    (case z_range => k_is)
    (case z_repr => k_is)
    (case z_isinstance => k_is)
    (case z_bool => k_is)
    (case q_PROTOCOLS => k_is)
    (case ql_PROTOCOLS => k_is)
    (case qk_PROTOCOLS => k_keys)
    (case qe_PROTOCOLS_0 => k_is)
    (case qe_PROTOCOLS_1 => k_is)
    (case qe_PROTOCOLS_2 => k_is)
    (case qe_PROTOCOLS_3 => k_is)
