import PyProof.Rows.All
import Wide.All
import OpenK.AllK
import Wide.FinOn
import HandS.Base
import HandS.Call
import HandS.List
import HandS.Comp
import HandS.Ends
import HandS.Words
import HandS.WordsList
import HandS.IsInst
import HandS.TupAny
import HandS.TupLe
import HandS.Zip
import HandS.Text
import HandS.Iter
import HandS.Wide
import KE.GoesMore
import HandS.More
import HandS.Dict
import HandS.DictComp
import HandS.WordsDict
import HandS.TupMul
import HandS.Set
import HandS.SetFor
import HandS.Strs
import HandS.Sort
import HandS.FStr
import HandS.Flow
import HandS.Deep
import HandS.Style
import KE.KxIndex
import PySem.Challenge.RW_onepolicy_k15_whole_talks_segment_by_seg
set_option Elab.async false
set_option linter.all false
set_option maxRecDepth 100000
set_option maxHeartbeats 4000000
namespace Toy
open PySem PySem.Spec PyProof.Rows L2
/-! The data layer: readings of the hand layer over plain data. -/
abbrev D := PyData
/-- the state of the law's own draws stands at p, its numbers at c -/
def LS (H : Hp) (p c : Addr) : Prop := ∃ (k : Int) (ns : List Int), H p = some (.lst [.int k, .ref c]) ∧ H c = some (.lst (ns.map V.int)) ∧ ns ≠ []
def KTup (K : PySem.W.Frag) (a : Addr) (xs : List V) : Prop := ∃ (o : Obj) (its : Array Value) (n : Nat), K.lookup a = some o ∧ o.cls = .type "tuple" ∧ o.data = .seq its n ∧ its.size ≤ sizeLine ∧ Vals xs its.toList
/-- a tuple at a, not among A -/
def TupAt (K : PySem.W.Frag) (H : Hp) (A : Addr → Prop) (a : Addr) (xs : List V) : Prop := (Rd H a (.tup xs) ∧ ¬ A a) ∨ KTup K a xs
theorem TupAt.sq {K : PySem.W.Frag} {H : Hp} {A : Addr → Prop} {a : Addr} {xs : List V} (h : TupAt K H A a xs) : SqT K H a xs := h.elim (fun z => .inl z.1) .inr
inductive KeyD : D → Key → Prop
  | int (i : Int) : KeyD (.int i) (.inl i)
  | str (s : Str) : KeyD (.str s) (.inr s)
mutual
inductive Rep (K : PySem.W.Frag) (H : Hp) (A : Addr → Prop) : D → V → Prop
  | non : Rep K H A .none .non
  | bl (b : Bool) : Rep K H A (.bool b) (.bl b)
  | int (i : Int) : Rep K H A (.int i) (.int i)
  | str (x : Str) : Rep K H A (.str x) (.str x)
  | lst {a : Addr} {xs : List V} {ds : List D} : H a = some (.lst xs) → ¬ A a → RepL K H A ds xs → Rep K H A (.list ds) (.ref a)
  | tup {a : Addr} {xs : List V} {ds : List D} : TupAt K H A a xs → RepL K H A ds xs → Rep K H A (.tuple ds) (.ref a)
  | dct {a : Addr} {us : List (Key × V)} {kvs : List (D × D)} : H a = some (.dK us) → ¬ A a → RepK K H A kvs us → Rep K H A (.dict kvs) (.ref a)
inductive RepL (K : PySem.W.Frag) (H : Hp) (A : Addr → Prop) : List D → List V → Prop
  | nil : RepL K H A [] []
  | cons {d : D} {v : V} {ds : List D} {vs : List V} : Rep K H A d v → RepL K H A ds vs → RepL K H A (d :: ds) (v :: vs)
inductive RepK (K : PySem.W.Frag) (H : Hp) (A : Addr → Prop) : List (D × D) → List (Key × V) → Prop
  | nil : RepK K H A [] []
  | cons {k d : D} {q : Key} {v : V} {ds : List (D × D)} {us : List (Key × V)} : KeyD k q → Rep K H A d v → RepK K H A ds us → RepK K H A ((k, d) :: ds) ((q, v) :: us)
end
section
variable {K : PySem.W.Frag} {H H' : Hp} {A A' : Addr → Prop}
/-- from one heap to a later one, from one set of shut places to another one -/
structure To (H H' : Hp) (A A' : Addr → Prop) : Prop where
  h : ∀ b o, H b = some o → ¬ A b → H' b = some o ∧ ¬ A' b
mutual
theorem Rep.to (t : To H H' A A') : ∀ {d : D} {v : V}, Rep K H A d v → Rep K H' A' d v
  | .none, _, .non => .non
  | .bool _, _, .bl b => .bl b
  | .int _, _, .int i => .int i
  | .str _, _, .str x => .str x
  | .list _, _, .lst h n r => .lst (t.h _ _ h n).1 (t.h _ _ h n).2 (RepL.to t r)
  | .tuple _, _, .tup (.inl ⟨.inl h, n⟩) r => .tup (.inl ⟨.inl (t.h _ _ h n).1, (t.h _ _ h n).2⟩) (RepL.to t r)
  | .tuple _, _, .tup (.inl ⟨.inr ⟨o, h⟩, n⟩) r => .tup (.inl ⟨.inr ⟨o, (t.h _ _ h n).1⟩, (t.h _ _ h n).2⟩) (RepL.to t r)
  | .tuple _, _, .tup (.inr h) r => .tup (.inr h) (RepL.to t r)
  | .dict _, _, .dct h n r => .dct (t.h _ _ h n).1 (t.h _ _ h n).2 (RepK.to t r)
theorem RepL.to (t : To H H' A A') : ∀ {ds : List D} {vs : List V}, RepL K H A ds vs → RepL K H' A' ds vs
  | [], _, .nil => .nil
  | _ :: _, _, .cons h r => .cons (Rep.to t h) (RepL.to t r)
theorem RepK.to (t : To H H' A A') : ∀ {ds : List (D × D)} {vs : List (Key × V)}, RepK K H A ds vs → RepK K H' A' ds vs
  | [], _, .nil => .nil
  | (_, _) :: _, _, .cons k h r => .cons k (Rep.to t h) (RepK.to t r)
end
theorem RepL.len : ∀ {ds : List D} {vs : List V}, RepL K H A ds vs → ds.length = vs.length
  | _, _, .nil => rfl
  | _, _, .cons _ r => congrArg (· + 1) r.len
theorem RepL.get : ∀ {ds : List D} {vs : List V}, RepL K H A ds vs → ∀ {i : Nat} {d : D}, ds[i]? = some d → ∃ v, vs[i]? = some v ∧ Rep K H A d v
  | _, _, .nil, i, d, h => by simp at h
  | _, _, .cons h r, 0, d, e => by
    rw [List.getElem?_cons_zero] at e
    cases e
    exact ⟨_, rfl, h⟩
  | _, _, .cons h r, i + 1, d, e => by
    rw [List.getElem?_cons_succ] at e
    exact r.get e
theorem RepL.app : ∀ {ds es : List D} {vs ws : List V}, RepL K H A ds vs → RepL K H A es ws → RepL K H A (ds ++ es) (vs ++ ws)
  | _, _, _, _, .nil, h => h
  | _, _, _, _, .cons h r, g => .cons h (r.app g)
theorem RepL.take : ∀ {ds : List D} {vs : List V} (n : Nat), RepL K H A ds vs → RepL K H A (ds.take n) (vs.take n)
  | _, _, 0, _ => by simpa using RepL.nil
  | _, _, n + 1, .nil => by simpa using RepL.nil
  | _, _, n + 1, .cons h r => .cons h (r.take n)
theorem RepL.drop : ∀ {ds : List D} {vs : List V} (n : Nat), RepL K H A ds vs → RepL K H A (ds.drop n) (vs.drop n)
  | _, _, 0, h => h
  | _, _, n + 1, .nil => .nil
  | _, _, n + 1, .cons h r => r.drop n
theorem RepL.set : ∀ {ds : List D} {vs : List V} (n : Nat) {d : D} {v : V}, RepL K H A ds vs → Rep K H A d v → RepL K H A (ds.set n d) (vs.set n v)
  | _, _, _, _, _, .nil, _ => .nil
  | _, _, 0, _, _, .cons h r, g => .cons g r
  | _, _, n + 1, _, _, .cons h r, g => .cons h (r.set n g)
theorem RepL.snoc {ds : List D} {vs : List V} {d : D} {v : V} (h : RepL K H A ds vs) (g : Rep K H A d v) : RepL K H A (ds ++ [d]) (vs ++ [v]) := h.app (.cons g .nil)
mutual
theorem Rep.dp : ∀ {d : D} {v : V}, Rep K H A d v → d.canLay0 = true → Dp K H v d
  | .none, _, .non, _ => .non
  | .bool _, _, .bl b, _ => .bl b
  | .int _, _, .int i, _ => .int i
  | .str _, _, .str x, _ => .str x
  | .list _, _, .lst h n r, c => .lst (SqL.of h) (RepL.dp r (by simpa [PyData.canLay0] using c))
  | .tuple _, _, .tup h r, c => .tup h.sq (RepL.dp r (by simpa [PyData.canLay0] using c))
  | .dict _, _, .dct _ _ _, c => by simp [PyData.canLay0] at c
theorem RepL.dp : ∀ {ds : List D} {vs : List V}, RepL K H A ds vs → PyData.canLayAll0 ds = true → DpAll K H vs ds
  | [], _, .nil, _ => .nil
  | _ :: _, _, .cons h r, c => by
    simp only [PyData.canLayAll0, Bool.and_eq_true] at c
    exact .cons (Rep.dp h c.1) (RepL.dp r c.2)
end
end
/-! ### what stands in the slots -/
inductive En
  | d (x : D)
  | own (ds : List D)
  | odk (kvs : List (D × D))
  | st
abbrev Ev := List (Option En)
def exs : Option (Addr × Addr) → List Addr
  | none => []
  | some q => [q.1, q.2]
def Keep (ex : List Addr) (H H' : Hp) : Prop := ∀ b o, H b = some o → b ∉ ex → H' b = some o
def LSo (st : Option (Addr × Addr)) (H : Hp) : Prop := ∀ q, st = some q → LS H q.1 q.2
structure Stp (st : Option (Addr × Addr)) (H H' : Hp) : Prop where
  k : Keep (exs st) H H'
  l : LSo st H'
def Mo (A : Addr → Prop) (ow : Nat → Option Addr) (a : Addr) : Prop := A a ∨ ∃ i, ow i = some a
def SR (K : PySem.W.Frag) (A : Addr → Prop) (st : Option (Addr × Addr)) (ow : Nat → Option Addr) (H : Hp) (i : Nat) : En → V → Prop
  | .d x, v => Rep K H (Mo A ow) x v
  | .own ds, v => ∃ a vs, ow i = some a ∧ v = .ref a ∧ H a = some (.lst vs) ∧ RepL K H (Mo A ow) ds vs
  | .odk kvs, v => ∃ a us, ow i = some a ∧ v = .ref a ∧ H a = some (.dK us) ∧ RepK K H (Mo A ow) kvs us
  | .st, v => ∃ q, st = some q ∧ v = .ref q.1
structure RE (K : PySem.W.Frag) (A : Addr → Prop) (st : Option (Addr × Addr)) (ow : Nat → Option Addr) (σ : L2.St) (H : Hp) (env : Ev) : Prop where
  ls : LSo st H
  dom : ∀ a, A a → H a ≠ none
  sta : ∀ q, st = some q → A q.1 ∧ A q.2
  al : ∀ i a, ow i = some a → H a ≠ none
  na : ∀ i a, ow i = some a → ¬ A a
  inj : ∀ i j a, ow i = some a → ow j = some a → i = j
  tie : ∀ i a, ow i = some a → (∃ ds, env[i]? = some (some (.own ds))) ∨ ∃ ds, env[i]? = some (some (.odk ds))
  len : σ.length = env.length
  sl : ∀ i e, env[i]? = some (some e) → ∃ v, σ[i]? = some (some v) ∧ SR K A st ow H i e v
theorem Keep.refl (ex : List Addr) (H : Hp) : Keep ex H H := fun _ _ h _ => h
theorem Keep.trans {ex : List Addr} {H H1 H2 : Hp} (a : Keep ex H H1) (b : Keep ex H1 H2) : Keep ex H H2 := fun q o h n => b q o (a q o h n) n
theorem Stp.trans {st : Option (Addr × Addr)} {H H1 H2 : Hp} (a : Stp st H H1) (b : Stp st H1 H2) : Stp st H H2 := ⟨a.k.trans b.k, b.l⟩
theorem LS.same {H H' : Hp} {p c : Addr} (h : LS H p c) (s : Same H H') : LS H' p c := by
  obtain ⟨k, ns, h1, h2, h3⟩ := h
  exact ⟨k, ns, s _ _ h1, s _ _ h2, h3⟩
theorem LSo.same {st : Option (Addr × Addr)} {H H' : Hp} (h : LSo st H) (s : Same H H') : LSo st H' := fun q e => (h q e).same s
theorem Stp.same {st : Option (Addr × Addr)} {H H' : Hp} (h : LSo st H) (s : Same H H') : Stp st H H' := ⟨fun b o e _ => s b o e, h.same s⟩
theorem same_upd {H : Hp} {p : Addr} {o : HO} (h : H p = none) : Same H (upd H p o) := fun b x e => by
  rw [upd_ne (ne_of_none e h)]
  exact e
theorem exs_mem {st : Option (Addr × Addr)} {a : Addr} (h : a ∈ exs st) : ∃ q, st = some q ∧ (a = q.1 ∨ a = q.2) := by
  cases st with
  | none => cases h
  | some q => exact ⟨q, rfl, by simpa [exs] using h⟩
section
variable {K : PySem.W.Frag} {A : Addr → Prop} {st : Option (Addr × Addr)} {ow : Nat → Option Addr} {σ : L2.St} {H H' : Hp} {env : Ev}
theorem RE.to_keep {ex : List Addr} (R : RE K A st ow σ H env) (hx : ∀ a ∈ ex, A a) (hk : Keep ex H H') : To H H' (Mo A ow) (Mo A ow) :=
  ⟨fun b o e n => ⟨hk b o e fun z => n (.inl (hx b z)), n⟩⟩
theorem RE.keep {ex : List Addr} (R : RE K A st ow σ H env) (hx : ∀ a ∈ ex, A a) (hk : Keep ex H H') (hl : LSo st H') (hd : ∀ a ∈ ex, H' a ≠ none) : RE K A st ow σ H' env := by
  have t := R.to_keep hx hk
  have ok : ∀ i a o, ow i = some a → H a = some o → H' a = some o := fun i a o e h => hk a o h fun z => R.na i a e (hx a z)
  have nn : ∀ {a : Addr}, H a ≠ none → (a ∉ ex) → H' a ≠ none := fun {a} h n => by
    cases e : H a with
    | none => exact absurd e h
    | some o => rw [hk a o e n]; intro z; cases z
  refine ⟨hl, fun a ha => ?_, R.sta, fun i a e => nn (R.al i a e) fun z => R.na i a e (hx a z), R.na, R.inj, R.tie, R.len, fun i e he => ?_⟩
  · by_cases h : a ∈ ex
    · exact hd a h
    · exact nn (R.dom a ha) h
  · obtain ⟨v, hv, r⟩ := R.sl i e he
    refine ⟨v, hv, ?_⟩
    cases e with
    | d x => exact Rep.to t r
    | own ds =>
      obtain ⟨a, vs, h1, h2, h3, h4⟩ := r
      exact ⟨a, vs, h1, h2, ok i a _ h1 h3, RepL.to t h4⟩
    | odk ds =>
      obtain ⟨a, vs, h1, h2, h3, h4⟩ := r
      exact ⟨a, vs, h1, h2, ok i a _ h1 h3, RepK.to t h4⟩
    | st => exact r
theorem RE.exA (R : RE K A st ow σ H env) : ∀ a ∈ exs st, A a := fun a h => by
  obtain ⟨q, e, z⟩ := exs_mem h
  rcases z with rfl | rfl
  · exact (R.sta q e).1
  · exact (R.sta q e).2
theorem LSo.ne {st : Option (Addr × Addr)} {H : Hp} (l : LSo st H) : ∀ a ∈ exs st, H a ≠ none := fun a h => by
  obtain ⟨q, e, z⟩ := exs_mem h
  obtain ⟨k, ns, h1, h2, _⟩ := l q e
  rcases z with rfl | rfl
  · rw [h1]; intro z; cases z
  · rw [h2]; intro z; cases z
theorem RE.step (R : RE K A st ow σ H env) (s : Stp st H H') : RE K A st ow σ H' env := R.keep R.exA s.k s.l s.l.ne
theorem RE.toS (R : RE K A st ow σ H env) (s : Stp st H H') : To H H' (Mo A ow) (Mo A ow) := R.to_keep R.exA s.k
theorem RE.alM (R : RE K A st ow σ H env) {a : Addr} (h : Mo A ow a) : H a ≠ none := h.elim (R.dom a) fun ⟨i, e⟩ => R.al i a e
end
/-- data that is read: what a slot owns may be read too -/
inductive RepB (K : PySem.W.Frag) (H : Hp) (A M : Addr → Prop) : D → V → Prop
  | r {d : D} {v : V} : Rep K H M d v → RepB K H A M d v
  | o {a : Addr} {xs : List V} {ds : List D} : H a = some (.lst xs) → ¬ A a → RepL K H M ds xs → RepB K H A M (.list ds) (.ref a)
  | k {a : Addr} {us : List (Key × V)} {kvs : List (D × D)} : H a = some (.dK us) → ¬ A a → RepK K H M kvs us → RepB K H A M (.dict kvs) (.ref a)
def eget : Ev → Nat → Option En
  | [], _ => none
  | e :: _, 0 => e
  | _ :: r, n + 1 => eget r n
theorem eget_some : ∀ {env : Ev} {i : Nat} {e : En}, eget env i = some e → env[i]? = some (some e)
  | [], _, _, h => by cases h
  | _ :: _, 0, _, h => by rw [List.getElem?_cons_zero]; exact congrArg some h
  | _ :: r, n + 1, _, h => by rw [List.getElem?_cons_succ]; exact eget_some h
theorem some_eget : ∀ {env : Ev} {i : Nat} {e : En}, env[i]? = some (some e) → eget env i = some e
  | [], _, _, h => by simp at h
  | _ :: _, 0, _, h => by rw [List.getElem?_cons_zero] at h; exact Option.some.inj h
  | _ :: r, n + 1, _, h => some_eget (env := r) (i := n) (by rw [List.getElem?_cons_succ] at h; exact h)
def isOwn (env : Ev) (i : Nat) : Bool := match eget env i with | some (.own _) => true | some (.odk _) => true | _ => false
def noOwn (vs : List Nat) (env : Ev) : Bool := vs.all fun i => !isOwn env i
structure RfE (K : PySem.W.Frag) (t : TE) (de : Ev → (D → Prop) → Prop) : Prop where
  run : ∀ {A : Addr → Prop} {st : Option (Addr × Addr)} {ow : Nat → Option Addr} {σ : L2.St} {H : Hp} {env : Ev} {Qd : D → Prop} {Q : VK},
  RE K A st ow σ H env → de env Qd → (∀ d v H', Qd d → Stp st H H' → Rep K H' (Mo A ow) d v → Q v H') → t σ H Q
structure RfB (K : PySem.W.Frag) (t : TE) (de : Ev → (D → Prop) → Prop) : Prop where
  run : ∀ {A : Addr → Prop} {st : Option (Addr × Addr)} {ow : Nat → Option Addr} {σ : L2.St} {H : Hp} {env : Ev} {Qd : D → Prop} {Q : VK},
  RE K A st ow σ H env → de env Qd → (∀ d v H', Qd d → Stp st H H' → RepB K H' A (Mo A ow) d v → Q v H') → t σ H Q
structure RfT (K : PySem.W.Frag) (t : TT) (dt : Ev → (Bool → Prop) → Prop) : Prop where
  run : ∀ {A : Addr → Prop} {st : Option (Addr × Addr)} {ow : Nat → Option Addr} {σ : L2.St} {H : Hp} {env : Ev} {Qd : Bool → Prop} {Q : Bool → Hp → Prop},
  RE K A st ow σ H env → dt env Qd → (∀ b H', Qd b → Stp st H H' → Q b H') → t σ H Q
structure RfA (K : PySem.W.Frag) (t : TA) (da : Ev → (List D → Prop) → Prop) : Prop where
  run : ∀ {A : Addr → Prop} {st : Option (Addr × Addr)} {ow : Nat → Option Addr} {σ : L2.St} {H : Hp} {env : Ev} {Qd : List D → Prop} {Q : List V → Hp → Prop},
  RE K A st ow σ H env → da env Qd → (∀ ds vs H', Qd ds → Stp st H H' → RepL K H' (Mo A ow) ds vs → Q vs H') → t σ H Q
/-- arguments that are read alone -/
inductive RepBL (K : PySem.W.Frag) (H : Hp) (A M : Addr → Prop) : List D → List V → Prop
  | nil : RepBL K H A M [] []
  | cons {d : D} {v : V} {ds : List D} {vs : List V} : RepB K H A M d v → RepBL K H A M ds vs → RepBL K H A M (d :: ds) (v :: vs)
structure RfAB (K : PySem.W.Frag) (t : TA) (da : Ev → (List D → Prop) → Prop) : Prop where
  run : ∀ {A : Addr → Prop} {st : Option (Addr × Addr)} {ow : Nat → Option Addr} {σ : L2.St} {H : Hp} {env : Ev} {Qd : List D → Prop} {Q : List V → Hp → Prop},
  RE K A st ow σ H env → da env Qd → (∀ ds vs H', Qd ds → Stp st H H' → RepBL K H' A (Mo A ow) ds vs → Q vs H') → t σ H Q
/-- an operator's reading by values -/
structure RfV2 (K : PySem.W.Frag) (r : R2) (op : D → D → (D → Prop) → Prop) : Prop where
  run : ∀ {A : Addr → Prop} {st : Option (Addr × Addr)} {ow : Nat → Option Addr} {σ : L2.St} {H : Hp} {env : Ev} {a b : D} {x y : V} {Qd : D → Prop} {Q : VK},
  RE K A st ow σ H env → RepB K H A (Mo A ow) a x → RepB K H A (Mo A ow) b y → op a b Qd → (∀ d v H', Qd d → Stp st H H' → Rep K H' (Mo A ow) d v → Q v H') → r x y H Q
structure RfVL (K : PySem.W.Frag) (r : List V → Hp → VK → Prop) (op : List D → (D → Prop) → Prop) : Prop where
  run : ∀ {A : Addr → Prop} {st : Option (Addr × Addr)} {ow : Nat → Option Addr} {σ : L2.St} {H : Hp} {env : Ev} {ds : List D} {vs : List V} {Qd : D → Prop} {Q : VK},
  RE K A st ow σ H env → RepBL K H A (Mo A ow) ds vs → op ds Qd → (∀ d v H', Qd d → Stp st H H' → Rep K H' (Mo A ow) d v → Q v H') → r vs H Q
section
variable {K : PySem.W.Frag}
theorem RepB.to {H H' : Hp} {A M : Addr → Prop} (t : To H H' M M) (hA : ∀ a o, H a = some o → ¬ A a → H' a = some o) {d : D} {v : V} (h : RepB K H A M d v) : RepB K H' A M d v := by
  cases h with
  | r h => exact .r (Rep.to t h)
  | o h n r => exact .o (hA _ _ h n) n (RepL.to t r)
  | k h n r => exact .k (hA _ _ h n) n (RepK.to t r)
theorem RE.stepB {A : Addr → Prop} {st : Option (Addr × Addr)} {ow : Nat → Option Addr} {σ : L2.St} {H H' : Hp} {env : Ev} (R : RE K A st ow σ H env) (s : Stp st H H') {d : D} {v : V} (h : RepB K H A (Mo A ow) d v) : RepB K H' A (Mo A ow) d v :=   h.to (R.toS s) fun a o e n => s.k a o e fun z => n (R.exA a z)
theorem RfE.b {t : TE} {de : Ev → (D → Prop) → Prop} (h : RfE K t de) : RfB K t de := ⟨fun R q k => h.run R q fun d v H' x s r => k d v H' x s (.r r)⟩
def dN (i : Nat) : Ev → (D → Prop) → Prop := fun env Q => match eget env i with | some (.d x) => Q x | _ => False
def dNB (i : Nat) : Ev → (D → Prop) → Prop := fun env Q => match eget env i with | some (.d x) => Q x | some (.own ds) => Q (.list ds) | some (.odk ds) => Q (.dict ds) | _ => False
theorem stp_refl {A : Addr → Prop} {st : Option (Addr × Addr)} {ow : Nat → Option Addr} {σ : L2.St} {H : Hp} {env : Ev} (R : RE K A st ow σ H env) : Stp st H H := ⟨Keep.refl _ _, R.ls⟩
theorem rn (i : Nat) : RfE K (tVar i) (dN i) := ⟨fun {A st ow σ H env Qd Q} R q k => by
  unfold dN at q
  split at q
  · rename_i x e
    obtain ⟨v, hv, r⟩ := R.sl i _ (eget_some e)
    exact ⟨v, hv, k x v H q (stp_refl R) r⟩
  · exact q.elim⟩
theorem rnb (i : Nat) : RfB K (tVar i) (dNB i) := ⟨fun {A st ow σ H env Qd Q} R q k => by
  unfold dNB at q
  split at q
  · rename_i x e
    obtain ⟨v, hv, r⟩ := R.sl i _ (eget_some e)
    exact ⟨v, hv, k x v H q (stp_refl R) (.r r)⟩
  · rename_i x e
    obtain ⟨v, hv, a, vs, h1, rfl, h3, h4⟩ := R.sl i _ (eget_some e)
    exact ⟨_, hv, k _ _ H q (stp_refl R) (.o h3 (R.na _ _ h1) h4)⟩
  · rename_i x e
    obtain ⟨v, hv, a, vs, h1, rfl, h3, h4⟩ := R.sl i _ (eget_some e)
    exact ⟨_, hv, k _ _ H q (stp_refl R) (.k h3 (R.na _ _ h1) h4)⟩
  · exact q.elim⟩
def dC (x : D) : Ev → (D → Prop) → Prop := fun _ Q => Q x
theorem rc_int (i : Int) : RfE K (tC (.int i)) (dC (.int i)) := ⟨fun R q k => k _ _ _ q (stp_refl R) (.int i)⟩
theorem rc_bl (i : Bool) : RfE K (tC (.bl i)) (dC (.bool i)) := ⟨fun R q k => k _ _ _ q (stp_refl R) (.bl i)⟩
theorem rc_str (i : Str) : RfE K (tC (.str i)) (dC (.str i)) := ⟨fun R q k => k _ _ _ q (stp_refl R) (.str i)⟩
theorem rc_non : RfE K (tC .non) (dC .none) := ⟨fun R q k => k _ _ _ q (stp_refl R) .non⟩
/-- a constant of the top: a tuple of scalars -/
inductive Sc : D → V → Prop
  | non : Sc .none .non
  | bl (b : Bool) : Sc (.bool b) (.bl b)
  | int (i : Int) : Sc (.int i) (.int i)
  | str (s : Str) : Sc (.str s) (.str s)
theorem Sc.rep {d : D} {v : V} {H : Hp} {A : Addr → Prop} (h : Sc d v) : Rep K H A d v := by
  cases h with
  | non => exact .non
  | bl b => exact .bl b
  | int b => exact .int b
  | str b => exact .str b
theorem sc_all {ds : List D} {vs : List V} {H : Hp} {A : Addr → Prop} (h : Paired Sc ds vs) : RepL K H A ds vs := by
  induction h with
  | nil => exact .nil
  | cons h _ ih => exact .cons h.rep ih
theorem rc_tup {a : Addr} {ds : List D} {vs : List V} (h : KTup K a vs) (hs : Paired Sc ds vs) : RfE K (tC (.ref a)) (dC (.tuple ds)) := ⟨fun R q k => k _ _ _ q (stp_refl R) (.tup (.inr h) (sc_all hs))⟩
def dOp (op : D → D → (D → Prop) → Prop) (da db : Ev → (D → Prop) → Prop) : Ev → (D → Prop) → Prop := fun env Q => da env fun x => db env fun y => op x y Q
theorem ro {r : R2} {op : D → D → (D → Prop) → Prop} {ta tb : TE} {da db : Ev → (D → Prop) → Prop} (ho : RfV2 K r op) (ha : RfB K ta da) (hb : RfB K tb db) : RfE K (tOp r ta tb) (dOp op da db) := ⟨fun R q k =>
  ha.run R q fun _ _ _ q1 s1 r1 => hb.run (R.step s1) q1 fun _ _ _ q2 s2 r2 => ho.run ((R.step s1).step s2) ((R.step s1).stepB s2 r1) r2 q2 fun d v H3 q3 s3 r3 => k d v H3 q3 (s1.trans (s2.trans s3)) r3⟩
/-! operators by values -/
def oI (C : Int → Int → Prop) (g : Int → Int → D) : D → D → (D → Prop) → Prop := fun x y Q => match x, y with
  | .int i, .int j => C i j ∧ Q (g i j)
  | _, _ => False
def oI0 (g : Int → Int → D) : D → D → (D → Prop) → Prop := fun x y Q => match x, y with
  | .int i, .int j => Q (g i j)
  | _, _ => False
theorem rv_I {C : Int → Int → Prop} {gv : Int → Int → V} {gd : Int → Int → D} (h : ∀ i j, Sc (gd i j) (gv i j)) : RfV2 K (rI C gv) (oI C gd) := ⟨fun R h1 h2 q k => by
  unfold oI at q
  split at q
  · cases h1 with | r h1 =>
    cases h2 with | r h2 =>
    cases h1; cases h2
    exact ⟨_, _, rfl, rfl, q.1, k _ _ _ q.2 (stp_refl R) (h _ _).rep⟩
  · exact q.elim⟩
theorem rv_I0 {gv : Int → Int → V} {gd : Int → Int → D} (h : ∀ i j, Sc (gd i j) (gv i j)) : RfV2 K (rI0 gv) (oI0 gd) := ⟨fun R h1 h2 q k => by
  unfold oI0 at q
  split at q
  · cases h1 with | r h1 =>
    cases h2 with | r h2 =>
    cases h1; cases h2
    exact ⟨_, _, rfl, rfl, k _ _ _ q (stp_refl R) (h _ _).rep⟩
  · exact q.elim⟩
theorem rv_add : RfV2 K (rI0 fun i j => .int (i + j)) (oI0 fun i j => .int (i + j)) := rv_I0 fun _ _ => .int _
theorem rv_sub : RfV2 K (rI0 fun i j => .int (i - j)) (oI0 fun i j => .int (i - j)) := rv_I0 fun _ _ => .int _
theorem rv_mul : RfV2 K (rI CMul fun i j => .int (i * j)) (oI CMul fun i j => .int (i * j)) := rv_I fun _ _ => .int _
theorem rv_mod : RfV2 K (rI (fun _ j => 0 < j) fun i j => .int (i % j)) (oI (fun _ j => 0 < j) fun i j => .int (i % j)) := rv_I fun _ _ => .int _
theorem rv_fdiv : RfV2 K (rI CDiv fun i j => .int (i / j)) (oI CDiv fun i j => .int (i / j)) := rv_I fun _ _ => .int _
theorem rv_pow : RfV2 K (rI CPow fun i j => .int (i ^ j.toNat)) (oI CPow fun i j => .int (i ^ j.toNat)) := rv_I fun _ _ => .int _
theorem rv_shl : RfV2 K (rI CPow fun i j => .int (i * 2 ^ j.toNat)) (oI CPow fun i j => .int (i * 2 ^ j.toNat)) := rv_I fun _ _ => .int _
theorem rv_shr : RfV2 K (rI (fun _ j => 0 ≤ j) fun i j => .int (i / 2 ^ j.toNat)) (oI (fun _ j => 0 ≤ j) fun i j => .int (i / 2 ^ j.toNat)) := rv_I fun _ _ => .int _
theorem rv_and : RfV2 K (rI0 fun i j => .int (Builtin.bitAnd i j)) (oI0 fun i j => .int (Builtin.bitAnd i j)) := rv_I0 fun _ _ => .int _
theorem rv_or : RfV2 K (rI0 fun i j => .int (Builtin.bitOr i j)) (oI0 fun i j => .int (Builtin.bitOr i j)) := rv_I0 fun _ _ => .int _
theorem rv_xor : RfV2 K (rI0 fun i j => .int (Builtin.bitXor i j)) (oI0 fun i j => .int (Builtin.bitXor i j)) := rv_I0 fun _ _ => .int _
theorem rv_lt : RfV2 K (rI0 fun i j => .bl (decide (i < j))) (oI0 fun i j => .bool (decide (i < j))) := rv_I0 fun _ _ => .bl _
theorem rv_le : RfV2 K (rI0 fun i j => .bl (decide (i ≤ j))) (oI0 fun i j => .bool (decide (i ≤ j))) := rv_I0 fun _ _ => .bl _
theorem rv_gt : RfV2 K (rI0 fun i j => .bl (decide (j < i))) (oI0 fun i j => .bool (decide (j < i))) := rv_I0 fun _ _ => .bl _
theorem rv_ge : RfV2 K (rI0 fun i j => .bl (decide (j ≤ i))) (oI0 fun i j => .bool (decide (j ≤ i))) := rv_I0 fun _ _ => .bl _
def okD (d : D) : Bool := SeqAt.shaped d
theorem okD_lay {d : D} (h : okD d = true) : d.canLay0 = true := by
  unfold okD SeqAt.shaped at h
  rw [Bool.and_eq_true] at h
  exact h.1
theorem RepB.dp {H : Hp} {A M : Addr → Prop} {d : D} {v : V} (h : RepB K H A M d v) (c : d.canLay0 = true) : Dp K H v d := by
  cases h with
  | r h => exact Rep.dp h c
  | o h n r => exact .lst (SqL.of h) (RepL.dp r (by simpa [PyData.canLay0] using c))
  | k h n r => simp [PyData.canLay0] at c
def oEq (neg : Bool) : D → D → (D → Prop) → Prop := fun x y Q => okD x = true ∧ okD y = true ∧ Q (.bool (if neg then !PyData.eqv x y else PyData.eqv x y))
theorem rv_eqD : RfV2 K (rEqD K) (oEq false) := ⟨fun R h1 h2 q k => ⟨_, _, h1.dp (okD_lay q.1), h2.dp (okD_lay q.2.1), q.1, q.2.1, k _ _ _ q.2.2 (stp_refl R) (.bl _)⟩⟩
theorem rv_neD : RfV2 K (rNeD K) (oEq true) := ⟨fun R h1 h2 q k => ⟨_, _, h1.dp (okD_lay q.1), h2.dp (okD_lay q.2.1), q.1, q.2.1, k _ _ _ q.2.2 (stp_refl R) (.bl _)⟩⟩
/-- == of scalars -/
def eqS : D → D → Option Bool
  | .none, .none => some true
  | .none, .int _ => some false | .int _, .none => some false | .none, .bool _ => some false | .bool _, .none => some false | .none, .str _ => some false | .str _, .none => some false
  | .int i, .int j => some (decide (i = j)) | .bool a, .bool b => some (decide (a = b)) | .str a, .str b => some (decide (a = b))
  | .int _, .str _ => some false | .str _, .int _ => some false | .bool _, .str _ => some false | .str _, .bool _ => some false
  | _, _ => none
def oEqS (neg : Bool) : D → D → (D → Prop) → Prop := fun x y Q => match eqS x y with
  | some b => Q (.bool (if neg then !b else b))
  | none => False
theorem eqS_V {H : Hp} {A M : Addr → Prop} {a b : D} {x y : V} {c : Bool} (h : eqS a b = some c) (h1 : RepB K H A M a x) (h2 : RepB K H A M b y) : scal x y = true ∧ decide (x = y) = c := by
  cases h1 with
  | r h1 =>
    cases h2 with
    | r h2 => cases h1 <;> cases h2 <;> simp_all [eqS, scal]
    | o h n r => cases h1 <;> simp_all [eqS]
    | k h n r => cases h1 <;> simp_all [eqS]
  | o h n r => cases b <;> simp_all [eqS]
  | k h n r => cases b <;> simp_all [eqS]
theorem rv_eq : RfV2 K rEq (oEqS false) := ⟨fun R h1 h2 q k => by
  unfold oEqS at q
  split at q
  · rename_i b e
    obtain ⟨e1, e2⟩ := eqS_V e h1 h2
    exact ⟨e1, by rw [e2]; exact k _ _ _ q (stp_refl R) (.bl _)⟩
  · exact q.elim⟩
theorem rv_ne : RfV2 K rNe (oEqS true) := ⟨fun R h1 h2 q k => by
  unfold oEqS at q
  split at q
  · rename_i b e
    obtain ⟨e1, e2⟩ := eqS_V e h1 h2
    exact ⟨e1, by rw [e2]; exact k _ _ _ q (stp_refl R) (.bl _)⟩
  · exact q.elim⟩
def isNo : D → Bool | .none => true | _ => false
def oIsN (neg : Bool) : D → D → (D → Prop) → Prop := fun x y Q => match y with
  | .none => Q (.bool (if neg then !isNo x else isNo x))
  | _ => False
theorem isNo_V {H : Hp} {A M : Addr → Prop} {a : D} {x : V} (h1 : RepB K H A M a x) : decide (x = .non) = isNo a := by
  cases h1 with
  | r h1 => cases h1 <;> simp [isNo]
  | o h n r => simp [isNo]
  | k h n r => simp [isNo]
theorem rv_isN : RfV2 K (fun x y H Q => y = .non ∧ Q (.bl (decide (x = .non))) H) (oIsN false) := ⟨fun R h1 h2 q k => by
  unfold oIsN at q
  split at q
  · cases h2 with | r h2 =>
    cases h2
    exact ⟨rfl, by rw [isNo_V h1]; exact k _ _ _ q (stp_refl R) (.bl _)⟩
  · exact q.elim⟩
theorem rv_notN : RfV2 K (fun x y H Q => y = .non ∧ Q (.bl (!decide (x = .non))) H) (oIsN true) := ⟨fun R h1 h2 q k => by
  unfold oIsN at q
  split at q
  · cases h2 with | r h2 =>
    cases h2
    exact ⟨rfl, by rw [isNo_V h1]; exact k _ _ _ q (stp_refl R) (.bl _)⟩
  · exact q.elim⟩
def oB (g : Bool → Bool → Bool) : D → D → (D → Prop) → Prop := fun x y Q => match x, y with
  | .bool i, .bool j => Q (.bool (g i j))
  | _, _ => False
theorem rv_isB : RfV2 K (fun x y H Q => ∃ a b, x = .bl a ∧ y = .bl b ∧ Q (.bl (decide (a = b))) H) (oB fun a b => decide (a = b)) := ⟨fun R h1 h2 q k => by
  unfold oB at q
  split at q
  · cases h1 with | r h1 =>
    cases h2 with | r h2 =>
    cases h1; cases h2
    exact ⟨_, _, rfl, rfl, k _ _ _ q (stp_refl R) (.bl _)⟩
  · exact q.elim⟩
theorem rv_notB : RfV2 K (fun x y H Q => ∃ a b, x = .bl a ∧ y = .bl b ∧ Q (.bl (!decide (a = b))) H) (oB fun a b => !decide (a = b)) := ⟨fun R h1 h2 q k => by
  unfold oB at q
  split at q
  · cases h1 with | r h1 =>
    cases h2 with | r h2 =>
    cases h1; cases h2
    exact ⟨_, _, rfl, rfl, k _ _ _ q (stp_refl R) (.bl _)⟩
  · exact q.elim⟩
/-! sequences -/
def seqOf : D → Option (List D)
  | .list ds => some ds
  | .tuple ds => some ds
  | _ => none
theorem RepB.seq {H : Hp} {A M : Addr → Prop} {d : D} {v : V} {ds : List D} (h : RepB K H A M d v) (e : seqOf d = some ds) : ∃ a xs, v = .ref a ∧ (SqL K H a xs ∨ SqT K H a xs) ∧ RepL K H M ds xs := by
  cases h with
  | r h =>
    cases h with
    | lst h n r => cases e; exact ⟨_, _, rfl, .inl (SqL.of h), r⟩
    | tup h r => cases e; exact ⟨_, _, rfl, .inr h.sq, r⟩
    | _ => cases e
  | o h n r => cases e; exact ⟨_, _, rfl, .inl (SqL.of h), r⟩
  | k h n r => cases e
theorem RepB.lst {H : Hp} {A M : Addr → Prop} {v : V} {ds : List D} (h : RepB K H A M (.list ds) v) : ∃ a xs, v = .ref a ∧ H a = some (.lst xs) ∧ RepL K H M ds xs := by
  cases h with
  | r h => cases h with | lst h n r => exact ⟨_, _, rfl, h, r⟩
  | o h n r => exact ⟨_, _, rfl, h, r⟩
theorem RepB.tup {H : Hp} {A M : Addr → Prop} {v : V} {ds : List D} (h : RepB K H A M (.tuple ds) v) : ∃ a xs, v = .ref a ∧ TupAt K H M a xs ∧ RepL K H M ds xs := by
  cases h with
  | r h => cases h with | tup h r => exact ⟨_, _, rfl, h, r⟩
/-- ds[i] -/
def dix (ds : List D) (i : Int) : Option D := atI ds i
def oIx : D → D → (D → Prop) → Prop := fun x y Q => match seqOf x, y with
  | some ds, .int i => (match dix ds i with | some d => Q d | none => False)
  | _, _ => False
theorem dix_nn {xs : List D} {i : Int} {x : D} (h : 0 ≤ i) (e : xs[i.toNat]? = some x) : dix xs i = some x := by
  have hl := (List.getElem?_eq_some_iff.mp e).1
  unfold dix atI ixN
  rw [if_pos h, if_pos (by omega)]
  exact e
theorem dix_map {α : Type} {f : α → D} {as : List α} {i : Int} {a : α} (h : 0 ≤ i) (e : as[i.toNat]? = some a) : dix (as.map f) i = some (f a) := dix_nn h (by rw [List.getElem?_map, e]; rfl)
theorem dix_0 (a : D) (r : List D) : dix (a :: r) 0 = some a := dix_nn (by decide) rfl
theorem dix_1 (a b : D) (r : List D) : dix (a :: b :: r) 1 = some b := dix_nn (by decide) rfl
theorem dix_2 (a b c : D) (r : List D) : dix (a :: b :: c :: r) 2 = some c := dix_nn (by decide) rfl
theorem dix_3 (a b c d : D) (r : List D) : dix (a :: b :: c :: d :: r) 3 = some d := dix_nn (by decide) rfl
theorem dix_4 (a b c d e : D) (r : List D) : dix (a :: b :: c :: d :: e :: r) 4 = some e := dix_nn (by decide) rfl
theorem dix_5 (a b c d e f : D) (r : List D) : dix (a :: b :: c :: d :: e :: f :: r) 5 = some f := dix_nn (by decide) rfl
theorem dix_6 (a b c d e f g : D) (r : List D) : dix (a :: b :: c :: d :: e :: f :: g :: r) 6 = some g := dix_nn (by decide) rfl
theorem dix_7 (a b c d e f g h : D) (r : List D) : dix (a :: b :: c :: d :: e :: f :: g :: h :: r) 7 = some h := dix_nn (by decide) rfl
theorem dix_8 (a b c d e f g h i : D) (r : List D) : dix (a :: b :: c :: d :: e :: f :: g :: h :: i :: r) 8 = some i := dix_nn (by decide) rfl
theorem dix_9 (a b c d e f g h i j : D) (r : List D) : dix (a :: b :: c :: d :: e :: f :: g :: h :: i :: j :: r) 9 = some j := dix_nn (by decide) rfl
theorem atI_rep {H : Hp} {M : Addr → Prop} {ds : List D} {xs : List V} {i : Int} {d : D} (r : RepL K H M ds xs) (e : atI ds i = some d) : ∃ v, atI xs i = some v ∧ Rep K H M d v := by
  unfold atI at e ⊢
  rw [r.len] at e
  cases h : ixN xs.length i with
  | none => rw [h] at e; cases e
  | some j =>
    rw [h] at e
    exact r.get e
theorem rv_ix : RfV2 K (rIx K) oIx := ⟨fun {A st ow σ H env a b x y Qd Q} R h1 h2 q k => by
  unfold oIx at q
  split at q
  · rename_i ds i e
    split at q
    · rename_i d e1
      obtain ⟨p, xs, rfl, hs, r⟩ := h1.seq e
      obtain ⟨v, e2, rv⟩ := atI_rep r e1
      cases h2 with | r h2 =>
      cases h2
      rcases hs with h | h
      · exact .inl ⟨_, _, _, v, rfl, rfl, h, e2, k _ _ _ q (stp_refl R) rv⟩
      · exact .inr (.inl ⟨_, _, _, v, rfl, rfl, h, e2, k _ _ _ q (stp_refl R) rv⟩)
    · exact q.elim
  · exact q.elim⟩
def oIxS : D → D → (D → Prop) → Prop := fun x y Q => match x, y with
  | .str z, .int i => z.length ≤ sizeLine ∧ ∃ c, atI z.cps.toList i = some c ∧ Q (.str ⟨#[c]⟩)
  | _, _ => False
theorem rv_ixS : RfV2 K rIxS oIxS := ⟨fun R h1 h2 q k => by
  unfold oIxS at q
  split at q
  · cases h1 with | r h1 =>
    cases h2 with | r h2 =>
    cases h1; cases h2
    obtain ⟨q1, c, q2, q3⟩ := q
    exact ⟨_, _, c, rfl, rfl, q1, q2, k _ _ _ q3 (stp_refl R) (.str _)⟩
  · exact q.elim⟩
/-- a new place -/
theorem new_to {H : Hp} {p : Addr} {o : HO} {M M' : Addr → Prop} (n : H p = none) (hm : ∀ a, M' a → M a ∨ a = p) : To H (upd H p o) M M' :=   ⟨fun b x e z => ⟨same_upd n b x e, fun w => (hm b w).elim z fun y => by rw [y, n] at e; cases e⟩⟩
theorem to_same {H H' : Hp} {M : Addr → Prop} (s : Same H H') : To H H' M M := ⟨fun b x e z => ⟨s b x e, z⟩⟩
section
variable {A : Addr → Prop} {st : Option (Addr × Addr)} {ow : Nat → Option Addr} {σ : L2.St} {H : Hp} {env : Ev}
theorem RE.newM (R : RE K A st ow σ H env) {p : Addr} (n : H p = none) : ¬ Mo A ow p := fun z => R.alM z n
theorem RE.newA (R : RE K A st ow σ H env) {p : Addr} (n : H p = none) : ¬ A p := fun z => R.dom p z n
theorem RE.mkT (R : RE K A st ow σ H env) {p : Addr} {ds : List D} {xs : List V} (n : H p = none) (r : RepL K H (Mo A ow) ds xs) : Rep K (upd H p (.tup xs)) (Mo A ow) (.tuple ds) (.ref p) :=   .tup (.inl ⟨.inl upd_same, R.newM n⟩) (RepL.to (to_same (same_upd n)) r)
theorem RE.mkL (R : RE K A st ow σ H env) {p : Addr} {ds : List D} {xs : List V} (n : H p = none) (r : RepL K H (Mo A ow) ds xs) : Rep K (upd H p (.lst xs)) (Mo A ow) (.list ds) (.ref p) :=   .lst upd_same (R.newM n) (RepL.to (to_same (same_upd n)) r)
theorem RE.new (R : RE K A st ow σ H env) {p : Addr} {o : HO} (n : H p = none) : Stp st H (upd H p o) := .same R.ls (same_upd n)
end
def cutD {α : Type} (xs : List α) (lo hi : Option Int) : List α := (xs.drop (HT.sIx xs.length 0 lo)).take (HT.sIx xs.length xs.length hi - HT.sIx xs.length 0 lo)
theorem cut_rep {H : Hp} {M : Addr → Prop} {ds : List D} {xs : List V} {lo hi : Option Int} (r : RepL K H M ds xs) : RepL K H M (cutD ds lo hi) (cutV xs lo hi) := by
  unfold cutD cutV
  rw [r.len]
  exact (r.drop _).take _
def oCat : D → D → (D → Prop) → Prop := fun x y Q => match x, y with
  | .list a, .list b => a.length + b.length ≤ sizeLine ∧ Q (.list (a ++ b))
  | _, _ => False
theorem rv_cat : RfV2 K rCat oCat := ⟨fun R h1 h2 q k => by
  unfold oCat at q
  split at q
  · obtain ⟨a, xs, rfl, h3, r3⟩ := h1.lst
    obtain ⟨b, ys, rfl, h4, r4⟩ := h2.lst
    exact ⟨a, b, xs, ys, rfl, rfl, h3, h4, by rw [← r3.len, ← r4.len]; exact q.1, fun p n => k _ _ _ q.2 (R.new n) (R.mkL n (r3.app r4))⟩
  · exact q.elim⟩
def oCatT : D → D → (D → Prop) → Prop := fun x y Q => match x, y with
  | .tuple a, .tuple b => a.length + b.length ≤ sizeLine ∧ Q (.tuple (a ++ b))
  | _, _ => False
theorem RepL.nil_iff {H : Hp} {M : Addr → Prop} {ds : List D} {xs : List V} (r : RepL K H M ds xs) (h : xs = []) : ds = [] := by
  subst h
  cases r
  rfl
theorem rv_catT : RfV2 K (rCatA K) oCatT := ⟨fun R h1 h2 q k => by
  unfold oCatT at q
  split at q
  · obtain ⟨a, xs, rfl, h3, r3⟩ := h1.tup
    obtain ⟨b, ys, rfl, h4, r4⟩ := h2.tup
    refine ⟨a, b, xs, ys, rfl, rfl, h3.sq, h4.sq, by rw [← r3.len, ← r4.len]; exact q.1, fun e => ?_, fun _ e => ?_, fun _ _ p n => k _ _ _ q.2 (R.new n) (R.mkT n (r3.app r4))⟩
    · have e' := r3.nil_iff e
      subst e'
      exact k _ _ _ q.2 (stp_refl R) (.tup h4 r4)
    · have e' := r4.nil_iff e
      subst e'
      rw [List.append_nil] at q
      exact k _ _ _ q.2 (stp_refl R) (.tup h3 r3)
  · exact q.elim⟩
def oCatS : D → D → (D → Prop) → Prop := fun x y Q => match x, y with
  | .str a, .str b => a.length + b.length ≤ sizeLine ∧ Q (.str (a ++ b))
  | _, _ => False
theorem rv_catS : RfV2 K (fun x y H Q => ∃ i j, x = .str i ∧ y = .str j ∧ i.length + j.length ≤ sizeLine ∧ Q (.str (i ++ j)) H) oCatS := ⟨fun R h1 h2 q k => by
  unfold oCatS at q
  split at q
  · cases h1 with | r h1 =>
    cases h2 with | r h2 =>
    cases h1; cases h2
    exact ⟨_, _, rfl, rfl, q.1, k _ _ _ q.2 (stp_refl R) (.str _)⟩
  · exact q.elim⟩
/-! in -/
def flatD : D → Bool
  | .none => true | .bool _ => true | .int _ => true | .str _ => true | _ => false
def inD (x : D) (xs : List D) : Bool := xs.any fun y => PyData.eqv y x
theorem flat_V {H : Hp} {M : Addr → Prop} {d : D} {v : V} (h : Rep K H M d v) : flatV v = flatD d := by cases h <;> rfl
theorem flat_all {H : Hp} {M : Addr → Prop} : ∀ {ds : List D} {vs : List V}, RepL K H M ds vs → vs.all flatV = ds.all flatD
  | _, _, .nil => rfl
  | _, _, .cons h r => by rw [List.all_cons, List.all_cons, flat_V h, flat_all r]
theorem eqV_D {H : Hp} {M : Addr → Prop} {d e : D} {v u : V} (h : Rep K H M d v) (h2 : Rep K H M e u) (f : flatD d = true) (f2 : flatD e = true) : eqV v u = PyData.eqv d e := by
  cases h <;> cases h2 <;> first | rfl | (simp [flatD] at f) | (simp [flatD] at f2)
theorem inV_D {H : Hp} {M : Addr → Prop} {d : D} {v : V} (h : Rep K H M d v) (f : flatD d = true) : ∀ {ds : List D} {vs : List V}, RepL K H M ds vs → ds.all flatD = true → inV v vs = inD d ds
  | _, _, .nil, _ => rfl
  | _, _, .cons h1 r, g => by
    rw [List.all_cons, Bool.and_eq_true] at g
    have := inV_D h f r g.2
    unfold inV inD at this ⊢
    rw [List.any_cons, List.any_cons, this, eqV_D h1 h g.1 f]
def oIn (neg : Bool) : D → D → (D → Prop) → Prop := fun x y Q => match seqOf y with
  | some ds => flatD x = true ∧ ds.all flatD = true ∧ Q (.bool (if neg then !inD x ds else inD x ds))
  | none => False
theorem rv_in (neg : Bool) : RfV2 K (rIn K neg) (oIn neg) := ⟨fun {A st ow σ H env a b x y Qd Q} R h1 h2 q k => by
  unfold oIn at q
  split at q
  · rename_i ds e
    obtain ⟨p, xs, rfl, hs, r⟩ := h2.seq e
    obtain ⟨f1, f2, q⟩ := q
    cases h1 with
    | r h1 => exact ⟨p, xs, rfl, hs, by rw [flat_V h1]; exact f1, by rw [flat_all r]; exact f2, by rw [inV_D h1 f1 r f2]; exact k _ _ _ q (stp_refl R) (.bl _)⟩
    | o h n r => cases f1
    | k h n r => cases f1
  · exact q.elim⟩
def oInS (neg : Bool) : D → D → (D → Prop) → Prop := fun x y Q => match x, y with
  | .str u, .str z => ∃ c, u = ⟨#[c]⟩ ∧ Q (.bool (if neg then !decide (c ∈ z.cps.toList) else decide (c ∈ z.cps.toList)))
  | _, _ => False
theorem rv_inS : RfV2 K (fun x y H Q => ∃ (c : Nat) (z : Str), x = .str ⟨#[c]⟩ ∧ y = .str z ∧ Q (.bl (decide (c ∈ z.cps.toList))) H) (oInS false) := ⟨fun R h1 h2 q k => by
  unfold oInS at q
  split at q
  · cases h1 with | r h1 =>
    cases h2 with | r h2 =>
    cases h1; cases h2
    obtain ⟨c, rfl, q⟩ := q
    exact ⟨_, _, rfl, rfl, k _ _ _ q (stp_refl R) (.bl _)⟩
  · exact q.elim⟩
end
section
variable {K : PySem.W.Frag}
theorem To.refl (H : Hp) (M : Addr → Prop) : To H H M M := ⟨fun _ _ h n => ⟨h, n⟩⟩
theorem To.trans {H H1 H2 : Hp} {M M1 M2 : Addr → Prop} (a : To H H1 M M1) (b : To H1 H2 M1 M2) : To H H2 M M2 := ⟨fun p o h n => b.h p o (a.h p o h n).1 (a.h p o h n).2⟩
/-! tests -/
def dTb (de : Ev → (D → Prop) → Prop) : Ev → (Bool → Prop) → Prop := fun env Q => de env fun x => match x with | .bool b => Q b | _ => False
theorem rt_test {t : TE} {de : Ev → (D → Prop) → Prop} (h : RfE K t de) : RfT K (tTest t) (dTb de) := ⟨fun R q k => h.run R q fun d v H' q' s r => by
  split at q'
  · cases r
    exact ⟨_, rfl, k _ _ q' s⟩
  · exact q'.elim⟩
theorem rt_val {t : TE} {de : Ev → (D → Prop) → Prop} (h : RfE K t de) : RfT K (tB t) (dTb de) := ⟨fun R q k => h.run R q fun d v H' q' s r => by
  split at q'
  · cases r
    exact ⟨_, rfl, k _ _ q' s⟩
  · exact q'.elim⟩
def dAnd (a b : Ev → (Bool → Prop) → Prop) : Ev → (Bool → Prop) → Prop := fun env Q => a env fun c => if c = true then b env Q else Q false
def dOr (a b : Ev → (Bool → Prop) → Prop) : Ev → (Bool → Prop) → Prop := fun env Q => a env fun c => if c = true then Q true else b env Q
def dNot (a : Ev → (Bool → Prop) → Prop) : Ev → (Bool → Prop) → Prop := fun env Q => a env fun c => Q (!c)
theorem rt_and {t u : TT} {a b : Ev → (Bool → Prop) → Prop} (h1 : RfT K t a) (h2 : RfT K u b) : RfT K (tAnd t u) (dAnd a b) := ⟨fun R q k => h1.run R q fun c H1 q1 s1 => by
  cases c with
  | true =>
    rw [if_pos rfl] at q1 ⊢
    exact h2.run (R.step s1) q1 fun c H2 q2 s2 => k c H2 q2 (s1.trans s2)
  | false =>
    rw [if_neg Bool.false_ne_true] at q1 ⊢
    exact k _ _ q1 s1⟩
theorem rt_or {t u : TT} {a b : Ev → (Bool → Prop) → Prop} (h1 : RfT K t a) (h2 : RfT K u b) : RfT K (tOr t u) (dOr a b) := ⟨fun R q k => h1.run R q fun c H1 q1 s1 => by
  cases c with
  | false =>
    rw [if_neg Bool.false_ne_true] at q1 ⊢
    exact h2.run (R.step s1) q1 fun c H2 q2 s2 => k c H2 q2 (s1.trans s2)
  | true =>
    rw [if_pos rfl] at q1 ⊢
    exact k _ _ q1 s1⟩
theorem rt_not {t : TT} {a : Ev → (Bool → Prop) → Prop} (h : RfT K t a) : RfT K (tNot t) (dNot a) := ⟨fun R q k => h.run R q fun c H1 q1 s1 => k _ _ q1 s1⟩
def dYes : Ev → (Bool → Prop) → Prop := fun _ Q => Q true
theorem rt_yes : RfT K tYes dYes := ⟨fun R q k => k _ _ q (stp_refl R)⟩
/-! expressions that branch -/
def dAndV (a b : Ev → (D → Prop) → Prop) : Ev → (D → Prop) → Prop := fun env Q => a env fun x => match x with | .bool c => if c = true then b env Q else Q (.bool false) | _ => False
def dOrV (a b : Ev → (D → Prop) → Prop) : Ev → (D → Prop) → Prop := fun env Q => a env fun x => match x with | .bool c => if c = true then Q (.bool true) else b env Q | _ => False
def dNotV (a : Ev → (D → Prop) → Prop) : Ev → (D → Prop) → Prop := fun env Q => a env fun x => match x with | .bool c => Q (.bool (!c)) | _ => False
def dIfV (c : Ev → (Bool → Prop) → Prop) (a b : Ev → (D → Prop) → Prop) : Ev → (D → Prop) → Prop := fun env Q => c env fun k => if k = true then a env Q else b env Q
theorem re_and {t u : TE} {a b : Ev → (D → Prop) → Prop} (h1 : RfE K t a) (h2 : RfE K u b) : RfE K (tAndV t u) (dAndV a b) := ⟨fun R q k => h1.run R q fun x v H1 q1 s1 r1 => by
  split at q1
  · rename_i c
    cases r1
    refine ⟨_, rfl, ?_⟩
    cases c with
    | true =>
      rw [if_pos rfl] at q1 ⊢
      exact h2.run (R.step s1) q1 fun d v H2 q2 s2 r2 => k d v H2 q2 (s1.trans s2) r2
    | false =>
      rw [if_neg Bool.false_ne_true] at q1 ⊢
      exact k _ _ _ q1 s1 (.bl _)
  · exact q1.elim⟩
theorem re_or {t u : TE} {a b : Ev → (D → Prop) → Prop} (h1 : RfE K t a) (h2 : RfE K u b) : RfE K (tOrV t u) (dOrV a b) := ⟨fun R q k => h1.run R q fun x v H1 q1 s1 r1 => by
  split at q1
  · rename_i c
    cases r1
    refine ⟨_, rfl, ?_⟩
    cases c with
    | false =>
      rw [if_neg Bool.false_ne_true] at q1 ⊢
      exact h2.run (R.step s1) q1 fun d v H2 q2 s2 r2 => k d v H2 q2 (s1.trans s2) r2
    | true =>
      rw [if_pos rfl] at q1 ⊢
      exact k _ _ _ q1 s1 (.bl _)
  · exact q1.elim⟩
theorem re_not {t : TE} {a : Ev → (D → Prop) → Prop} (h : RfE K t a) : RfE K (tNotV t) (dNotV a) := ⟨fun R q k => h.run R q fun x v H1 q1 s1 r1 => by
  split at q1
  · cases r1
    exact ⟨_, rfl, k _ _ _ q1 s1 (.bl _)⟩
  · exact q1.elim⟩
theorem re_if {c : TT} {t u : TE} {dc : Ev → (Bool → Prop) → Prop} {a b : Ev → (D → Prop) → Prop} (hc : RfT K c dc) (h1 : RfE K t a) (h2 : RfE K u b) : RfE K (tIf c t u) (dIfV dc a b) := ⟨fun R q k => hc.run R q fun c H1 q1 s1 => by
  cases c with
  | true =>
    rw [if_pos rfl] at q1 ⊢
    exact h1.run (R.step s1) q1 fun d v H2 q2 s2 r2 => k d v H2 q2 (s1.trans s2) r2
  | false =>
    rw [if_neg Bool.false_ne_true] at q1 ⊢
    exact h2.run (R.step s1) q1 fun d v H2 q2 s2 r2 => k d v H2 q2 (s1.trans s2) r2⟩
def dChain (op op' : D → D → (D → Prop) → Prop) (a b c : Ev → (D → Prop) → Prop) : Ev → (D → Prop) → Prop := fun env Q => a env fun x => b env fun y => op x y fun z => match z with
  | .bool k => if k = true then c env fun w => op' y w Q else Q (.bool false)
  | _ => False
theorem re_chain {r r' : R2} {op op' : D → D → (D → Prop) → Prop} {ta tb tc : TE} {a b c : Ev → (D → Prop) → Prop} (ho : RfV2 K r op) (ho' : RfV2 K r' op') (ha : RfB K ta a) (hb : RfB K tb b) (hc : RfB K tc c) : RfE K (tChain r r' ta tb tc) (dChain op op' a b c) := ⟨fun {A st ow σ H env Qd Q} R q k =>
  ha.run R q fun x v H1 q1 s1 r1 => hb.run (R.step s1) q1 fun y u H2 q2 s2 r2 => ho.run ((R.step s1).step s2) ((R.step s1).stepB s2 r1) r2 q2 fun z w H3 q3 s3 r3 => by
    have R3 := ((R.step s1).step s2).step s3
    split at q3
    · rename_i k'
      cases r3
      refine ⟨_, rfl, ?_⟩
      cases k' with
      | true =>
        rw [if_pos rfl] at q3 ⊢
        exact hc.run R3 q3 fun y' u' H4 q4 s4 r4 => ho'.run (R3.step s4) (R3.stepB s4 (((R.step s1).step s2).stepB s3 r2)) r4 q4 fun d v H5 q5 s5 r5 => k d v H5 q5 (s1.trans (s2.trans (s3.trans (s4.trans s5)))) r5
      | false =>
        rw [if_neg Bool.false_ne_true] at q3 ⊢
        exact k _ _ _ q3 (s1.trans (s2.trans s3)) (.bl _)
    · exact q3.elim⟩
/-! arguments -/
structure RfN (K : PySem.W.Frag) (n : Nat) (t : TA) (da : Ev → (List D → Prop) → Prop) : Prop where
  run : ∀ {A : Addr → Prop} {st : Option (Addr × Addr)} {ow : Nat → Option Addr} {σ : L2.St} {H : Hp} {env : Ev} {Qd : List D → Prop} {Q : List V → Hp → Prop},
  RE K A st ow σ H env → da env Qd → (∀ ds vs H', Qd ds → ds.length = n → Stp st H H' → RepL K H' (Mo A ow) ds vs → Q vs H') → t σ H Q
def dNil : Ev → (List D → Prop) → Prop := fun _ Q => Q []
def dCons (de : Ev → (D → Prop) → Prop) (da : Ev → (List D → Prop) → Prop) : Ev → (List D → Prop) → Prop := fun env Q => de env fun x => da env fun xs => Q (x :: xs)
theorem raN : RfN K 0 tNil dNil := ⟨fun R q k => k _ _ _ q rfl (stp_refl R) .nil⟩
theorem raC {n : Nat} {te : TE} {ta : TA} {de : Ev → (D → Prop) → Prop} {da : Ev → (List D → Prop) → Prop} (h : RfE K te de) (hs : RfN K n ta da) : RfN K (n + 1) (tCons te ta) (dCons de da) := ⟨fun R q k =>
  h.run R q fun d v H1 q1 s1 r1 => hs.run (R.step s1) q1 fun ds vs H2 q2 e2 s2 r2 => k (d :: ds) (v :: vs) H2 q2 (congrArg (· + 1) e2) (s1.trans s2) (.cons (Rep.to ((R.step s1).toS s2) r1) r2)⟩
theorem rbN : RfAB K tNil dNil := ⟨fun R q k => k _ _ _ q (stp_refl R) .nil⟩
theorem rbC {te : TE} {ta : TA} {de : Ev → (D → Prop) → Prop} {da : Ev → (List D → Prop) → Prop} (h : RfB K te de) (hs : RfAB K ta da) : RfAB K (tCons te ta) (dCons de da) := ⟨fun R q k =>
  h.run R q fun d v H1 q1 s1 r1 => hs.run (R.step s1) q1 fun ds vs H2 q2 s2 r2 => k (d :: ds) (v :: vs) H2 q2 (s1.trans s2) (.cons ((R.step s1).stepB s2 r1) r2)⟩
theorem Stp.none {st : Option (Addr × Addr)} {H H' : Hp} (s : Stp st H H') {p : Addr} (n : H' p = none) : H p = none := by
  cases e : H p with
  | none => rfl
  | some o =>
    by_cases hx : p ∈ exs st
    · exact absurd n (s.l.ne p hx)
    · rw [s.k p o e hx] at n; cases n
/-! new things -/
/-- a new list -/
structure RfF (K : PySem.W.Frag) (t : TE) (df : Ev → (List D → Prop) → Prop) : Prop where
  run : ∀ {A : Addr → Prop} {st : Option (Addr × Addr)} {ow : Nat → Option Addr} {σ : L2.St} {H : Hp} {env : Ev} {Qd : List D → Prop} {Q : VK},
  RE K A st ow σ H env → df env Qd → (∀ ds a vs H', Qd ds → Stp st H H' → H a = none → H' a = some (.lst vs) → RepL K H' (fun b => Mo A ow b ∨ b = a) ds vs → Q (.ref a) H') → t σ H Q
def dL (df : Ev → (List D → Prop) → Prop) : Ev → (D → Prop) → Prop := fun env Q => df env fun ds => Q (.list ds)
theorem RE.fr0 {A : Addr → Prop} {st : Option (Addr × Addr)} {ow : Nat → Option Addr} {σ : L2.St} {H : Hp} {env : Ev} (R : RE K A st ow σ H env) {a : Addr} (n : H a = none) : ¬ Mo A ow a := R.newM n
theorem RfF.e {t : TE} {df : Ev → (List D → Prop) → Prop} (h : RfF K t df) : RfE K t (dL df) := ⟨fun R q k => h.run R q fun ds a vs H' q' s n e r => k _ _ _ q' s (.lst e (R.newM n) (RepL.to ⟨fun b o x y => ⟨x, fun z => y (.inl z)⟩⟩ r))⟩
def dTup (da : Ev → (List D → Prop) → Prop) : Ev → (D → Prop) → Prop := fun env Q => da env fun xs => Q (.tuple xs)
theorem len_small {n m : Nat} (e : m = n) (h : n ≤ 1000) : m ≤ sizeLine := Nat.le_trans (e ▸ h) (by decide)
theorem re_tup {n : Nat} {t : TA} {da : Ev → (List D → Prop) → Prop} (h : RfN K n t da) (hn : n ≤ 1000 := by decide) : RfE K (tTup t) (dTup da) := ⟨fun R q k => h.run R q fun ds vs H1 q1 e1 s1 r1 =>
  ⟨len_small (r1.len.symm.trans e1) hn, fun p np => k _ _ _ q1 (s1.trans ((R.step s1).new np)) ((R.step s1).mkT np r1)⟩⟩
theorem rf_lst {n : Nat} {t : TA} {da : Ev → (List D → Prop) → Prop} (h : RfN K n t da) (hn : n ≤ 1000 := by decide) : RfF K (tLst t) da := ⟨fun R q k => h.run R q fun ds vs H1 q1 e1 s1 r1 =>
  ⟨len_small (r1.len.symm.trans e1) hn, fun p np => k _ _ _ _ q1 (s1.trans ((R.step s1).new np)) (s1.none np) upd_same (RepL.to (new_to np fun a z => z) r1)⟩⟩
/-! calls of built-in functions -/
def dCB (op : List D → (D → Prop) → Prop) (da : Ev → (List D → Prop) → Prop) : Ev → (D → Prop) → Prop := fun env Q => da env fun xs => op xs Q
theorem re_cb {r : List V → Hp → VK → Prop} {op : List D → (D → Prop) → Prop} {t : TA} {da : Ev → (List D → Prop) → Prop} (ho : RfVL K r op) (ha : RfAB K t da) : RfE K (tCB r t) (dCB op da) := ⟨fun R q k =>
  ha.run R q fun ds vs H1 q1 s1 r1 => ho.run (R.step s1) r1 q1 fun d v H2 q2 s2 r2 => k d v H2 q2 (s1.trans s2) r2⟩
def oAbs : List D → (D → Prop) → Prop := fun xs Q => match xs with | [.int i] => Q (.int (if i < 0 then -i else i)) | _ => False
theorem RepB.int {H : Hp} {A M : Addr → Prop} {i : Int} {v : V} (h : RepB K H A M (.int i) v) : v = .int i := by cases h with | r h => cases h; rfl
theorem RepB.bl {H : Hp} {A M : Addr → Prop} {i : Bool} {v : V} (h : RepB K H A M (.bool i) v) : v = .bl i := by cases h with | r h => cases h; rfl
theorem RepB.str {H : Hp} {A M : Addr → Prop} {i : Str} {v : V} (h : RepB K H A M (.str i) v) : v = .str i := by cases h with | r h => cases h; rfl
theorem RepBL.one {H : Hp} {A M : Addr → Prop} {d : D} {vs : List V} (h : RepBL K H A M [d] vs) : ∃ v, vs = [v] ∧ RepB K H A M d v := by
  cases h with | cons h r => cases r; exact ⟨_, rfl, h⟩
theorem RepBL.two {H : Hp} {A M : Addr → Prop} {d e : D} {vs : List V} (h : RepBL K H A M [d, e] vs) : ∃ v u, vs = [v, u] ∧ RepB K H A M d v ∧ RepB K H A M e u := by
  cases h with | cons h r =>
  obtain ⟨u, rfl, z⟩ := r.one
  exact ⟨_, _, rfl, h, z⟩
theorem ro_abs : RfVL K (fun xs H Q => ∃ i, xs = [.int i] ∧ Q (.int (if i < 0 then -i else i)) H) oAbs := ⟨fun R h q k => by
  unfold oAbs at q
  split at q
  · obtain ⟨v, rfl, z⟩ := h.one
    cases z.int
    exact ⟨_, rfl, k _ _ _ q (stp_refl R) (.int _)⟩
  · exact q.elim⟩
def oI2 (g : Int → Int → Int) : List D → (D → Prop) → Prop := fun xs Q => match xs with | [.int i, .int j] => Q (.int (g i j)) | _ => False
theorem ro_min : RfVL K (fun xs H Q => ∃ i j, xs = [.int i, .int j] ∧ Q (.int (if j < i then j else i)) H) (oI2 fun i j => if j < i then j else i) := ⟨fun R h q k => by
  unfold oI2 at q
  split at q
  · obtain ⟨v, u, rfl, z1, z2⟩ := h.two
    cases z1.int; cases z2.int
    exact ⟨_, _, rfl, k _ _ _ q (stp_refl R) (.int _)⟩
  · exact q.elim⟩
theorem ro_max : RfVL K (fun xs H Q => ∃ i j, xs = [.int i, .int j] ∧ Q (.int (if j > i then j else i)) H) (oI2 fun i j => if j > i then j else i) := ⟨fun R h q k => by
  unfold oI2 at q
  split at q
  · obtain ⟨v, u, rfl, z1, z2⟩ := h.two
    cases z1.int; cases z2.int
    exact ⟨_, _, rfl, k _ _ _ q (stp_refl R) (.int _)⟩
  · exact q.elim⟩
def oLen : List D → (D → Prop) → Prop := fun xs Q => match xs with | [d] => (match seqOf d with | some ds => Q (.int ds.length) | none => False) | _ => False
theorem ro_len : RfVL K (fun xs H Q => ∃ p ys, xs = [.ref p] ∧ (SqL K H p ys ∨ SqT K H p ys) ∧ Q (.int ys.length) H) oLen := ⟨fun {A st ow σ H env ds vs Qd Q} R h q k => by
  unfold oLen at q
  split at q
  · split at q
    · rename_i ds e
      obtain ⟨v, rfl, z⟩ := h.one
      obtain ⟨a, xs, rfl, hs, r⟩ := z.seq e
      exact ⟨_, _, rfl, hs, by rw [← r.len]; exact k _ _ _ q (stp_refl R) (.int _)⟩
    · exact q.elim
  · exact q.elim⟩
def oLenS : List D → (D → Prop) → Prop := fun xs Q => match xs with | [.str z] => z.length ≤ sizeLine ∧ Q (.int z.length) | _ => False
theorem ro_lenS : RfVL K (fun xs H Q => ∃ z, xs = [.str z] ∧ z.length ≤ sizeLine ∧ Q (.int z.length) H) oLenS := ⟨fun R h q k => by
  unfold oLenS at q
  split at q
  · obtain ⟨v, rfl, z⟩ := h.one
    cases z.str
    exact ⟨_, rfl, q.1, k _ _ _ q.2 (stp_refl R) (.int _)⟩
  · exact q.elim⟩
def oInt : List D → (D → Prop) → Prop := fun xs Q => match xs with | [.int i] => Q (.int i) | [.bool k] => Q (.int (if k then 1 else 0)) | _ => False
theorem ro_int : RfVL K (fun xs H Q => (∃ i, xs = [.int i] ∧ Q (.int i) H) ∨ ∃ k, xs = [.bl k] ∧ Q (.int (if k then 1 else 0)) H) oInt := ⟨fun R h q k => by
  unfold oInt at q
  split at q
  · obtain ⟨v, rfl, z⟩ := h.one
    cases z.int
    exact .inl ⟨_, rfl, k _ _ _ q (stp_refl R) (.int _)⟩
  · obtain ⟨v, rfl, z⟩ := h.one
    cases z.bl
    exact .inr ⟨_, rfl, k _ _ _ q (stp_refl R) (.int _)⟩
  · exact q.elim⟩
def intsOf : List D → Option (List Int)
  | [] => some []
  | .int i :: r => (intsOf r).map (i :: ·)
  | _ :: _ => none
def boolsOf : List D → Option (List Bool)
  | [] => some []
  | .bool i :: r => (boolsOf r).map (i :: ·)
  | _ :: _ => none
theorem ints_V {H : Hp} {M : Addr → Prop} : ∀ {ds : List D} {vs : List V} {ns : List Int}, RepL K H M ds vs → intsOf ds = some ns → vs = ns.map V.int
  | [], _, _, .nil, e => by cases e; rfl
  | .int i :: r, _, ns, .cons h t, e => by
    unfold intsOf at e
    cases z : intsOf r with
    | none => rw [z] at e; cases e
    | some ms =>
      rw [z] at e
      cases e
      cases h
      rw [ints_V t z, List.map_cons]
theorem bools_V {H : Hp} {M : Addr → Prop} : ∀ {ds : List D} {vs : List V} {ns : List Bool}, RepL K H M ds vs → boolsOf ds = some ns → vs = ns.map V.bl
  | [], _, _, .nil, e => by cases e; rfl
  | .bool i :: r, _, ns, .cons h t, e => by
    unfold boolsOf at e
    cases z : boolsOf r with
    | none => rw [z] at e; cases e
    | some ms =>
      rw [z] at e
      cases e
      cases h
      rw [bools_V t z, List.map_cons]
def oSum : List D → (D → Prop) → Prop := fun xs Q => match xs with | [.list ds] => (match intsOf ds with | some ns => Q (.int ns.sum) | none => False) | _ => False
theorem ro_sum : RfVL K (rSum K) oSum := ⟨fun R h q k => by
  unfold oSum at q
  split at q
  · split at q
    · rename_i ns e
      obtain ⟨v, rfl, z⟩ := h.one
      obtain ⟨a, xs, rfl, hs, r⟩ := z.lst
      cases ints_V r e
      exact ⟨_, _, rfl, SqL.of hs, k _ _ _ q (stp_refl R) (.int _)⟩
    · exact q.elim
  · exact q.elim⟩
def oBs (g : List Bool → Bool) : List D → (D → Prop) → Prop := fun xs Q => match xs with | [.list ds] => (match boolsOf ds with | some ns => Q (.bool (g ns)) | none => False) | _ => False
theorem ro_all : RfVL K (rAll K) (oBs fun bs => bs.all id) := ⟨fun R h q k => by
  unfold oBs at q
  split at q
  · split at q
    · rename_i ns e
      obtain ⟨v, rfl, z⟩ := h.one
      obtain ⟨a, xs, rfl, hs, r⟩ := z.lst
      cases bools_V r e
      exact ⟨_, _, rfl, SqL.of hs, k _ _ _ q (stp_refl R) (.bl _)⟩
    · exact q.elim
  · exact q.elim⟩
theorem ro_any : RfVL K (rAny K) (oBs fun bs => bs.any id) := ⟨fun R h q k => by
  unfold oBs at q
  split at q
  · split at q
    · rename_i ns e
      obtain ⟨v, rfl, z⟩ := h.one
      obtain ⟨a, xs, rfl, hs, r⟩ := z.lst
      cases bools_V r e
      exact ⟨_, _, rfl, SqL.of hs, k _ _ _ q (stp_refl R) (.bl _)⟩
    · exact q.elim
  · exact q.elim⟩
def oTupOf : List D → (D → Prop) → Prop := fun xs Q => match xs with | [d] => (match seqOf d with | some ds => Q (.tuple ds) | none => False) | _ => False
theorem ro_tupOf : RfVL K (fun xs H Q => ∃ p ys, xs = [.ref p] ∧ ((SqL K H p ys ∧ ∀ l, H l = none → Q (.ref l) (upd H l (.tup ys))) ∨ (SqT K H p ys ∧ Q (.ref p) H))) oTupOf := ⟨fun {A st ow σ H env ds vs Qd Q} R h q k => by
  unfold oTupOf at q
  split at q
  · rename_i d
    split at q
    · rename_i ds e
      obtain ⟨v, rfl, z⟩ := h.one
      cases d with
      | list _ =>
        cases e
        obtain ⟨a, xs, rfl, hs, r⟩ := z.lst
        exact ⟨_, _, rfl, .inl ⟨SqL.of hs, fun p n => k _ _ _ q (R.new n) (R.mkT n r)⟩⟩
      | tuple _ =>
        cases e
        obtain ⟨a, xs, rfl, hs, r⟩ := z.tup
        exact ⟨_, _, rfl, .inr ⟨hs.sq, k _ _ _ q (stp_refl R) (.tup hs r)⟩⟩
      | _ => cases e
    · exact q.elim
  · exact q.elim⟩
def dSeqOf (da : Ev → (D → Prop) → Prop) : Ev → (List D → Prop) → Prop := fun env Q => da env fun d => match seqOf d with | some ds => Q ds | none => False
theorem rf_listOf {ta : TE} {da : Ev → (D → Prop) → Prop} (h : RfB K ta da) : RfF K (tCB (fun xs H Q => ∃ p ys, xs = [.ref p] ∧ (SqL K H p ys ∨ SqT K H p ys) ∧ ∀ l, H l = none → Q (.ref l) (upd H l (.lst ys))) (tCons ta tNil)) (dSeqOf da) := ⟨fun R q k => h.run R q fun d v H1 q1 s1 r1 => by
  split at q1
  · rename_i ds e
    obtain ⟨a, xs, rfl, hs, r⟩ := r1.seq e
    exact ⟨_, _, rfl, hs, fun l n => k _ _ _ _ q1 (s1.trans ((R.step s1).new n)) (s1.none n) upd_same (RepL.to (new_to n fun a z => z) r)⟩
  · exact q1.elim⟩
/-! isinstance -/
def tyN : D → String
  | .none => "NoneType" | .bool _ => "bool" | .int _ => "int" | .str _ => "str" | .list _ => "list" | .tuple _ => "tuple" | .dict _ => "dict"
theorem RepB.ty {H : Hp} {A M : Addr → Prop} {d : D} {v : V} (h : RepB K H A M d v) : TyX K H v (.type (tyN d)) := by
  cases h with
  | r h =>
    cases h with
    | non => exact .base .non
    | bl b => exact .base (.bl b)
    | int b => exact .base (.int b)
    | str b => exact .base (.str b)
    | lst h _ _ => exact .base (.lst h)
    | tup h _ =>
      rcases h with ⟨h | ⟨o, h⟩, _⟩ | ⟨o, its, n, h1, h2, _⟩
      · exact .base (.tup h)
      · exact .fTuple h
      · exact .kTuple h1 h2
    | dct h _ _ => exact .base (.dK h)
  | o h _ _ => exact .base (.lst h)
  | k h _ _ => exact .base (.dK h)
def tys : List String := ["bool", "int", "str", "list", "tuple", "dict"]
def isTy (n : String) : D → Bool
  | .none => false | .bool _ => n == "bool" || n == "int" | .int _ => n == "int" | .str _ => n == "str" | .list _ => n == "list" | .tuple _ => n == "tuple" | .dict _ => n == "dict"
theorem kit_tab : (tys.all fun n => ["NoneType", "bool", "int", "str", "list", "tuple", "dict"].all fun m => kitB m n == some (m == n || (m == "bool" && n == "int"))) = true := by decide +kernel
theorem kit_ty {n : String} (hn : n ∈ tys) (d : D) : PySem.W.kitOne K (.type (tyN d)) (.type n) = some (isTy n d) := by
  have h := kit_tab
  rw [List.all_eq_true] at h
  have h1 := h n hn
  rw [List.all_eq_true] at h1
  have h2 := eq_of_beq (h1 (tyN d) (by cases d <;> simp [tyN]))
  refine (show PySem.W.kitOne K (.type (tyN d)) (.type n) = kitB (tyN d) n from rfl).trans (h2.trans (congrArg some ?_))
  have hn' : n = "bool" ∨ n = "int" ∨ n = "str" ∨ n = "list" ∨ n = "tuple" ∨ n = "dict" := by simpa [tys] using hn
  rcases hn' with rfl | rfl | rfl | rfl | rfl | rfl <;> cases d <;> simp [tyN, isTy]
def dIsi (n : String) (da : Ev → (D → Prop) → Prop) : Ev → (D → Prop) → Prop := fun env Q => da env fun x => Q (.bool (isTy n x))
theorem re_isi {n : String} {ta : TE} {da : Ev → (D → Prop) → Prop} (h : RfB K ta da) (hn : n ∈ tys := by decide) : RfE K (tCB (rIsi K) (tCons ta (tCons (tC (.ty n)) tNil))) (dIsi n da) := ⟨fun R q k => h.run R q fun d v H1 q1 s1 r1 =>
  ⟨_, _, _, _, _, rfl, .ty n, r1.ty, kit_ty hn d, k _ _ _ q1 s1 (.bl _)⟩⟩
/-! slices -/
structure RfO (K : PySem.W.Frag) (t : TO) (dt : Ev → (Option Int → Prop) → Prop) : Prop where
  run : ∀ {A : Addr → Prop} {st : Option (Addr × Addr)} {ow : Nat → Option Addr} {σ : L2.St} {H : Hp} {env : Ev} {Qd : Option Int → Prop} {Q : Option Int → Hp → Prop},
  RE K A st ow σ H env → dt env Qd → (∀ d H', Qd d → Stp st H H' → Q d H') → t σ H Q
def dNoP : Ev → (Option Int → Prop) → Prop := fun _ Q => Q none
def dPart (de : Ev → (D → Prop) → Prop) : Ev → (Option Int → Prop) → Prop := fun env Q => de env fun x => match x with | .int i => Q (some i) | _ => False
theorem rp_no : RfO K tNoPart dNoP := ⟨fun R q k => k _ _ q (stp_refl R)⟩
theorem rp_some {t : TE} {de : Ev → (D → Prop) → Prop} (h : RfE K t de) : RfO K (tPart t) (dPart de) := ⟨fun R q k => h.run R q fun d v H1 q1 s1 r1 => by
  split at q1
  · cases r1
    exact ⟨_, rfl, k _ _ q1 s1⟩
  · exact q1.elim⟩
def dSlT (de : Ev → (D → Prop) → Prop) (dl dh : Ev → (Option Int → Prop) → Prop) : Ev → (D → Prop) → Prop := fun env Q => de env fun x => dl env fun l => dh env fun h => match x with | .tuple ds => Q (.tuple (cutD ds l h)) | _ => False
def dSlL (de : Ev → (D → Prop) → Prop) (dl dh : Ev → (Option Int → Prop) → Prop) : Ev → (List D → Prop) → Prop := fun env Q => de env fun x => dl env fun l => dh env fun h => match x with | .list ds => Q (cutD ds l h) | _ => False
def dSlS (de : Ev → (D → Prop) → Prop) (dl dh : Ev → (Option Int → Prop) → Prop) : Ev → (D → Prop) → Prop := fun env Q => de env fun x => dl env fun l => dh env fun h => match x with | .str z => z.length ≤ sizeLine ∧ Q (.str (cutS z l h)) | _ => False
theorem cut_whole {α : Type} {xs : List α} {lo hi : Option Int} (h : HT.sIx xs.length 0 lo = 0 ∧ HT.sIx xs.length xs.length hi = xs.length) : cutD xs lo hi = xs := by
  unfold cutD
  rw [h.1, h.2, List.drop_zero, Nat.sub_zero, List.take_length]
theorem re_slT {t : TE} {tl th : TO} {de : Ev → (D → Prop) → Prop} {dl dh : Ev → (Option Int → Prop) → Prop} (he : RfB K t de) (hl : RfO K tl dl) (hh : RfO K th dh) : RfE K (tSl (rSlA K) t tl th) (dSlT de dl dh) := ⟨fun R q k =>
  he.run R q fun d v H1 q1 s1 r1 => hl.run (R.step s1) q1 fun l H2 q2 s2 => hh.run ((R.step s1).step s2) q2 fun u H3 q3 s3 => by
    have R3 := ((R.step s1).step s2).step s3
    have s13 := s1.trans (s2.trans s3)
    split at q3
    · have r3 := ((R.step s1).step s2).stepB s3 ((R.step s1).stepB s2 r1)
      obtain ⟨a, xs, rfl, hs, r⟩ := r3.tup
      refine ⟨a, xs, rfl, hs.sq, fun e => ?_, fun _ p n => k _ _ _ q3 (s13.trans (R3.new n)) (R3.mkT n (cut_rep r))⟩
      rw [← r.len] at e
      rw [cut_whole e] at q3
      exact k _ _ _ q3 s13 (.tup hs r)
    · exact q3.elim⟩
theorem rf_slL {t : TE} {tl th : TO} {de : Ev → (D → Prop) → Prop} {dl dh : Ev → (Option Int → Prop) → Prop} (he : RfB K t de) (hl : RfO K tl dl) (hh : RfO K th dh) : RfF K (tSl (rSlL K) t tl th) (dSlL de dl dh) := ⟨fun R q k =>
  he.run R q fun d v H1 q1 s1 r1 => hl.run (R.step s1) q1 fun l H2 q2 s2 => hh.run ((R.step s1).step s2) q2 fun u H3 q3 s3 => by
    have R3 := ((R.step s1).step s2).step s3
    have s13 := s1.trans (s2.trans s3)
    split at q3
    · have r3 := ((R.step s1).step s2).stepB s3 ((R.step s1).stepB s2 r1)
      obtain ⟨a, xs, rfl, hs, r⟩ := r3.lst
      exact ⟨a, xs, rfl, SqL.of hs, fun p n => k _ _ _ _ q3 (s13.trans (R3.new n)) (s13.none n) upd_same (RepL.to (new_to n fun a z => z) (cut_rep r))⟩
    · exact q3.elim⟩
theorem re_slS {t : TE} {tl th : TO} {de : Ev → (D → Prop) → Prop} {dl dh : Ev → (Option Int → Prop) → Prop} (he : RfB K t de) (hl : RfO K tl dl) (hh : RfO K th dh) : RfE K (tSl rSlS t tl th) (dSlS de dl dh) := ⟨fun R q k =>
  he.run R q fun d v H1 q1 s1 r1 => hl.run (R.step s1) q1 fun l H2 q2 s2 => hh.run ((R.step s1).step s2) q2 fun u H3 q3 s3 => by
    have s13 := s1.trans (s2.trans s3)
    split at q3
    · cases r1.str
      exact ⟨_, rfl, q3.1, k _ _ _ q3.2 s13 (.str _)⟩
    · exact q3.elim⟩
/-! calls of defs -/
def spD (K : PySem.W.Frag) (f : List D → (D → Prop) → Prop) : Sp := fun vs H Q _ => ∃ (A : Addr → Prop) (ds : List D) (Qd : D → Prop), (∀ a, A a → H a ≠ none) ∧ RepL K H A ds vs ∧ f ds Qd ∧ ∀ d v H', Qd d → Same H H' → Rep K H' A d v → Q v H'
def spS (K : PySem.W.Frag) (f : List D → (D → Prop) → Prop) : Sp := fun vs H Q _ => ∃ (A : Addr → Prop) (q : Addr × Addr) (ds : List D) (ws : List V) (Qd : D → Prop), vs = .ref q.1 :: ws ∧ LS H q.1 q.2 ∧ A q.1 ∧ A q.2 ∧ (∀ a, A a → H a ≠ none) ∧ RepL K H A ds ws ∧ f ds Qd ∧
  ∀ d v H', Qd d → Stp (some q) H H' → Rep K H' A d v → Q v H'
def dCall (f : List D → (D → Prop) → Prop) (da : Ev → (List D → Prop) → Prop) : Ev → (D → Prop) → Prop := fun env Q => da env fun xs => f xs Q
def dCallS (i : Nat) (f : List D → (D → Prop) → Prop) (da : Ev → (List D → Prop) → Prop) : Ev → (D → Prop) → Prop := fun env Q => match eget env i with | some .st => da env fun xs => f xs Q | _ => False
theorem re_call {n : Nat} {f : List D → (D → Prop) → Prop} {E : XK} {t : TA} {da : Ev → (List D → Prop) → Prop} (h : RfN K n t da) : RfE K (tCall (spD K f) [] E t) (dCall f da) := ⟨fun R q k => h.run R q fun ds vs H1 q1 e1 s1 r1 => by
  have R1 := R.step s1
  exact ⟨_, ds, _, fun a => R1.alM, by rw [List.append_nil]; exact r1, q1, fun d v H2 q2 s2 r2 => k d v H2 q2 (s1.trans (.same s1.l s2)) r2⟩⟩
theorem re_callS {n i : Nat} {f : List D → (D → Prop) → Prop} {E : XK} {t : TA} {da : Ev → (List D → Prop) → Prop} (h : RfN K n t da) : RfE K (tCall (spS K f) [] E (tCons (tVar i) t)) (dCallS i f da) := ⟨fun R q k => by
  unfold dCallS at q
  split at q
  · rename_i e
    obtain ⟨v, hv, z, e1, rfl⟩ := R.sl i _ (eget_some e)
    refine ⟨_, hv, h.run R q fun ds vs H1 q1 _ s1 r1 => ?_⟩
    have R1 := R.step s1
    refine ⟨Mo _ _, z, ds, vs, _, by rw [List.append_nil], s1.l z e1, .inl (R.sta z e1).1, .inl (R.sta z e1).2, fun a => R1.alM, r1, q1, fun d v H2 q2 s2 r2 => ?_⟩
    subst e1
    exact k d v H2 q2 (s1.trans s2) r2
  · exact q.elim⟩
end
section
variable {K : PySem.W.Frag}
/-! what a for walks -/
def ItOk (K : PySem.W.Frag) (J : It) (ds : List D) (M0 : Addr → Prop) (H0 : Hp) : Prop := ∀ (M : Addr → Prop) (H : Hp), To H0 H M0 M → (∀ a, M a → H a ≠ none) → ∀ i,
  (i = ds.length → J.stop i H) ∧ ∀ d, ds[i]? = some d → J.go i H ∧ ∀ x H', J.yld i H x H' → Same H H' ∧ Rep K H' M d x
theorem ItOk.mono {J : It} {ds : List D} {M0 M1 : Addr → Prop} {H0 H1 : Hp} (h : ItOk K J ds M0 H0) (t : To H0 H1 M0 M1) : ItOk K J ds M1 H1 := fun M H t2 a i => h M H (t.trans t2) a i
structure RfI (K : PySem.W.Frag) (t : TI) (di : Ev → (List D → Prop) → Prop) : Prop where
  run : ∀ {A : Addr → Prop} {st : Option (Addr × Addr)} {ow : Nat → Option Addr} {σ : L2.St} {H : Hp} {env : Ev} {Qd : List D → Prop} {R : It → Hp → Prop},
  RE K A st ow σ H env → di env Qd → (∀ ds J H', Qd ds → Stp st H H' → ItOk K J ds (Mo A ow) H' → R J H') → t σ H R
theorem Same.refl' (H : Hp) : Same H H := fun _ _ h => h
theorem RepL.get2 {H : Hp} {M : Addr → Prop} {ds : List D} {vs : List V} (r : RepL K H M ds vs) {i : Nat} {d : D} {v : V} (e : ds[i]? = some d) (e2 : vs[i]? = some v) : Rep K H M d v := by
  obtain ⟨u, h1, h2⟩ := r.get e
  rw [e2] at h1
  cases h1
  exact h2
theorem itl_ok {a : Addr} {xs : List V} {ds : List D} {M : Addr → Prop} {H : Hp} (h : H a = some (.lst xs)) (n : ¬ M a) (r : RepL K H M ds xs) : ItOk K (Itl K a) ds M H := fun M' H' t _ i => by
  have h' := (t.h _ _ h n).1
  refine ⟨fun l => ⟨xs, SqL.of h', by rw [← r.len]; omega⟩, fun d e => ?_⟩
  obtain ⟨v, ev, rv⟩ := r.get e
  exact ⟨⟨xs, v, SqL.of h', ev⟩, fun x H2 ⟨e2, y⟩ => by
    subst e2
    have := y xs (SqL.of h')
    rw [ev] at this
    cases this
    exact ⟨Same.refl' _, Rep.to t rv⟩⟩
theorem itt_ok {a : Addr} {xs : List V} {ds : List D} {M : Addr → Prop} {H : Hp} (h : TupAt K H M a xs) (r : RepL K H M ds xs) : ItOk K (Itt K a) ds M H := fun M' H' t _ i => by
  have h' : SqT K H' a xs := by
    rcases h with ⟨h | ⟨o, h⟩, n⟩ | h
    · exact .inl (.inl (t.h _ _ h n).1)
    · exact .inl (.inr ⟨o, (t.h _ _ h n).1⟩)
    · exact .inr h
  refine ⟨fun l => ⟨xs, h', by rw [← r.len]; omega⟩, fun d e => ?_⟩
  obtain ⟨v, ev, rv⟩ := r.get e
  exact ⟨⟨xs, v, h', ev⟩, fun x H2 ⟨e2, y⟩ => by
    subst e2
    have := y xs h'
    rw [ev] at this
    cases this
    exact ⟨Same.refl' _, Rep.to t rv⟩⟩
def rng (lo : Int) (n : Nat) : List D := (List.range n).map fun i => PyData.int (lo + (i : Nat))
theorem itr_ok {lo : Int} {n : Nat} {M : Addr → Prop} {H : Hp} : ItOk K (Itr lo n) (rng lo n) M H := fun M' H' t _ i => by
  refine ⟨fun l => by unfold rng at l; rw [List.length_map, List.length_range] at l; show n ≤ i; omega, fun d e => ?_⟩
  have hi : i < n := by
    have := (List.getElem?_eq_some_iff.mp e).1
    unfold rng at this
    rw [List.length_map, List.length_range] at this
    exact this
  unfold rng at e
  rw [List.getElem?_map, List.getElem?_range hi] at e
  cases e
  exact ⟨hi, fun x H2 ⟨e2, y⟩ => by
    subst e2 y
    exact ⟨Same.refl' _, .int _⟩⟩
def dItL (de : Ev → (D → Prop) → Prop) : Ev → (List D → Prop) → Prop := fun env Q => de env fun x => match x with | .list ds => Q ds | _ => False
def dItT (de : Ev → (D → Prop) → Prop) : Ev → (List D → Prop) → Prop := fun env Q => de env fun x => match x with | .tuple ds => Q ds | _ => False
theorem ri_list {t : TE} {de : Ev → (D → Prop) → Prop} (h : RfE K t de) : RfI K (iList K t) (dItL de) := ⟨fun R q k => h.run R q fun d v H1 q1 s1 r1 => by
  split at q1
  · cases r1 with | lst h0 n r => exact ⟨_, rfl, ⟨_, SqL.of h0⟩, k _ _ _ q1 s1 (itl_ok h0 n r)⟩
  · exact q1.elim⟩
theorem ri_tup {t : TE} {de : Ev → (D → Prop) → Prop} (h : RfE K t de) : RfI K (iTup K t) (dItT de) := ⟨fun R q k => h.run R q fun d v H1 q1 s1 r1 => by
  split at q1
  · cases r1 with | tup h0 r => exact ⟨_, rfl, ⟨_, h0.sq⟩, k _ _ _ q1 s1 (itt_ok h0 r)⟩
  · exact q1.elim⟩
def dR1 (da : Ev → (List D → Prop) → Prop) : Ev → (List D → Prop) → Prop := fun env Q => da env fun xs => match xs with | [.int j] => -(2 ^ 62) ≤ j ∧ j < 2 ^ 62 ∧ Q (rng 0 j.toNat) | _ => False
def dR2 (da : Ev → (List D → Prop) → Prop) : Ev → (List D → Prop) → Prop := fun env Q => da env fun xs => match xs with | [.int i, .int j] => (-(2 ^ 62) ≤ i ∧ i < 2 ^ 62 ∧ -(2 ^ 62) ≤ j ∧ j < 2 ^ 62) ∧ Q (rng i (j - i).toNat) | _ => False
theorem ri_r1 {t : TA} {da : Ev → (List D → Prop) → Prop} (h : RfAB K t da) : RfI K (iRng1 t) (dR1 da) := ⟨fun R q k => h.run R q fun ds vs H1 q1 s1 r1 => by
  split at q1
  · obtain ⟨v, rfl, z⟩ := r1.one
    cases z.int
    exact ⟨_, rfl, q1.1, q1.2.1, k _ _ _ q1.2.2 s1 itr_ok⟩
  · exact q1.elim⟩
theorem ri_r2 {t : TA} {da : Ev → (List D → Prop) → Prop} (h : RfAB K t da) : RfI K (iRng2 t) (dR2 da) := ⟨fun R q k => h.run R q fun ds vs H1 q1 s1 r1 => by
  split at q1
  · obtain ⟨v, u, rfl, z1, z2⟩ := r1.two
    cases z1.int; cases z2.int
    exact ⟨_, _, rfl, q1.1, k _ _ _ q1.2 s1 itr_ok⟩
  · exact q1.elim⟩
def chars (z : Str) : List D := z.cps.toList.map fun c => PyData.str ⟨#[c]⟩
def dItS (de : Ev → (D → Prop) → Prop) : Ev → (List D → Prop) → Prop := fun env Q => de env fun x => match x with | .str z => Q (chars z) | _ => False
theorem its_ok {z : Str} {M : Addr → Prop} {H : Hp} : ItOk K (Its z) (chars z) M H := fun M' H' t _ i => by
  refine ⟨fun l => by unfold chars at l; rw [List.length_map] at l; show z.cps.size ≤ i; rw [← Array.length_toList]; omega, fun d e => ?_⟩
  unfold chars at e
  rw [List.getElem?_map] at e
  cases g : z.cps.toList[i]? with
  | none => rw [g] at e; cases e
  | some c =>
    rw [g] at e
    cases e
    have hi := (List.getElem?_eq_some_iff.mp g).1
    refine ⟨by simpa [Its] using hi, fun x H2 ⟨e2, c2, y1, y2⟩ => ?_⟩
    subst e2 y2
    rw [Array.getElem?_toList] at g
    rw [g] at y1
    cases y1
    exact ⟨Same.refl' _, .str _⟩
theorem ri_str {t : TE} {de : Ev → (D → Prop) → Prop} (h : RfE K t de) : RfI K (iStr t) (dItS de) := ⟨fun R q k => h.run R q fun d v H1 q1 s1 r1 => by
  split at q1
  · cases r1
    exact ⟨_, rfl, k _ _ _ q1 s1 its_ok⟩
  · exact q1.elim⟩
def zipD : List D → List D → List D
  | a :: r, b :: s => .tuple [a, b] :: zipD r s
  | _, _ => []
theorem zipD_get : ∀ {as bs : List D} {i : Nat} {d : D}, (zipD as bs)[i]? = some d → ∃ a b, as[i]? = some a ∧ bs[i]? = some b ∧ d = .tuple [a, b]
  | a :: r, b :: s, 0, d, e => by
    unfold zipD at e
    rw [List.getElem?_cons_zero] at e
    cases e
    exact ⟨a, b, rfl, rfl, rfl⟩
  | a :: r, b :: s, i + 1, d, e => by
    unfold zipD at e
    rw [List.getElem?_cons_succ] at e
    rw [List.getElem?_cons_succ, List.getElem?_cons_succ]
    exact zipD_get e
  | [], _, i, d, e => by simp [zipD] at e
  | _ :: _, [], i, d, e => by simp [zipD] at e
theorem zipD_len : ∀ {as bs : List D}, (zipD as bs).length = min as.length bs.length
  | a :: r, b :: s => by
    unfold zipD
    rw [List.length_cons, List.length_cons, List.length_cons, zipD_len]
    omega
  | [], _ => by simp [zipD]
  | _ :: _, [] => by simp [zipD]
theorem TupAt.to {H H' : Hp} {M M' : Addr → Prop} {a : Addr} {xs : List V} (t : To H H' M M') (h : TupAt K H M a xs) : TupAt K H' M' a xs := by
  rcases h with ⟨h | ⟨o, h⟩, n⟩ | h
  · exact .inl ⟨.inl (t.h _ _ h n).1, (t.h _ _ h n).2⟩
  · exact .inl ⟨.inr ⟨o, (t.h _ _ h n).1⟩, (t.h _ _ h n).2⟩
  · exact .inr h
theorem pair_rep {H : Hp} {M : Addr → Prop} {T : Addr} {d e : D} {x y : V} (n : H T = none) (al : ∀ a, M a → H a ≠ none) (h1 : Rep K H M d x) (h2 : Rep K H M e y) : Rep K (upd H T (.tup [x, y])) M (.tuple [d, e]) (.ref T) :=   .tup (.inl ⟨.inl upd_same, fun z => al T z n⟩) (.cons (Rep.to (to_same (same_upd n)) h1) (.cons (Rep.to (to_same (same_upd n)) h2) .nil))
theorem itz_ok {a b : Addr} {xs ys : List V} {ds es : List D} {M : Addr → Prop} {H : Hp} (h : H a = some (.lst xs)) (n : ¬ M a) (r : RepL K H M ds xs) (h2 : H b = some (.lst ys)) (n2 : ¬ M b) (r2 : RepL K H M es ys) : ItOk K (Itz K a b) (zipD ds es) M H := fun M' H' t al i => by
  have g1 := SqL.of (K := K) (t.h _ _ h n).1
  have g2 := SqL.of (K := K) (t.h _ _ h2 n2).1
  refine ⟨fun l => ⟨xs, ys, g1, g2, by rw [zipD_len, r.len, r2.len] at l; omega⟩, fun d e => ?_⟩
  obtain ⟨x, y, e1, e2, rfl⟩ := zipD_get e
  obtain ⟨v, ev, rv⟩ := r.get e1
  obtain ⟨u, eu, ru⟩ := r2.get e2
  refine ⟨⟨xs, ys, v, u, g1, g2, ev, eu⟩, fun x' H2 ⟨T, x1, y1, z1, z2, z3, z4, z5⟩ => ?_⟩
  subst z1 z3
  have w1 := z4 xs g1
  have w2 := z5 ys g2
  rw [ev] at w1; rw [eu] at w2
  cases w1; cases w2
  exact ⟨same_upd z2, pair_rep z2 al (Rep.to t rv) (Rep.to t ru)⟩
theorem itzT_ok {a b : Addr} {xs ys : List V} {ds es : List D} {M : Addr → Prop} {H : Hp} (h : TupAt K H M a xs) (r : RepL K H M ds xs) (h2 : TupAt K H M b ys) (r2 : RepL K H M es ys) : ItOk K (RZ.ItzT K a b) (zipD ds es) M H := fun M' H' t al i => by
  have g1 := (h.to t).sq
  have g2 := (h2.to t).sq
  refine ⟨fun l => ⟨xs, ys, g1, g2, by rw [zipD_len, r.len, r2.len] at l; omega⟩, fun d e => ?_⟩
  obtain ⟨x, y, e1, e2, rfl⟩ := zipD_get e
  obtain ⟨v, ev, rv⟩ := r.get e1
  obtain ⟨u, eu, ru⟩ := r2.get e2
  refine ⟨⟨xs, ys, v, u, g1, g2, ev, eu⟩, fun x' H2 ⟨T, x1, y1, z1, z2, z3, z4, z5⟩ => ?_⟩
  subst z1 z3
  have w1 := z4 xs g1
  have w2 := z5 ys g2
  rw [ev] at w1; rw [eu] at w2
  cases w1; cases w2
  exact ⟨same_upd z2, pair_rep z2 al (Rep.to t rv) (Rep.to t ru)⟩
def dZip (da : Ev → (List D → Prop) → Prop) : Ev → (List D → Prop) → Prop := fun env Q => da env fun xs => match xs with | [.list a, .list b] => Q (zipD a b) | [.tuple a, .tuple b] => Q (zipD a b) | _ => False
theorem ri_zip {n : Nat} {t : TA} {da : Ev → (List D → Prop) → Prop} (h : RfN K n t da) : RfI K (RZ.iZipA K t) (dZip da) := ⟨fun R q k => h.run R q fun ds vs H1 q1 _ s1 r1 => by
  split at q1
  · cases r1 with | cons h1 r1 => cases r1 with | cons h2 r2 =>
    cases r2
    cases h1 with | lst h1 n1 r1 => cases h2 with | lst h2 n2 r2 =>
    exact ⟨_, _, _, _, rfl, .inl ⟨SqL.of h1, SqL.of h2, k _ _ _ q1 s1 (itz_ok h1 n1 r1 h2 n2 r2)⟩⟩
  · cases r1 with | cons h1 r1 => cases r1 with | cons h2 r2 =>
    cases r2
    cases h1 with | tup h1 r1 => cases h2 with | tup h2 r2 =>
    exact ⟨_, _, _, _, rfl, .inr ⟨h1.sq, h2.sq, k _ _ _ q1 s1 (itzT_ok h1 r1 h2 r2)⟩⟩
  · exact q1.elim⟩
def enumD (n : Nat) : List D → List D
  | [] => []
  | a :: r => .tuple [.int (n : Nat), a] :: enumD (n + 1) r
theorem enumD_len : ∀ {as : List D} {n : Nat}, (enumD n as).length = as.length
  | [], _ => rfl
  | a :: r, n => congrArg (· + 1) enumD_len
theorem enumD_get : ∀ {as : List D} {n i : Nat} {d : D}, (enumD n as)[i]? = some d → ∃ a, as[i]? = some a ∧ d = .tuple [.int ((n + i : Nat) : Int), a]
  | [], n, i, d, e => by simp [enumD] at e
  | a :: r, n, 0, d, e => by
    unfold enumD at e
    rw [List.getElem?_cons_zero] at e
    cases e
    exact ⟨a, rfl, rfl⟩
  | a :: r, n, i + 1, d, e => by
    unfold enumD at e
    rw [List.getElem?_cons_succ] at e ⊢
    obtain ⟨x, h1, h2⟩ := enumD_get e
    exact ⟨x, h1, by rw [h2, Nat.add_right_comm, Nat.add_assoc]⟩
theorem ite_ok {a : Addr} {xs : List V} {ds : List D} {M : Addr → Prop} {H : Hp} (h : H a = some (.lst xs)) (n : ¬ M a) (r : RepL K H M ds xs) : ItOk K (Ite K a) (enumD 0 ds) M H := fun M' H' t al i => by
  have g1 := SqL.of (K := K) (t.h _ _ h n).1
  refine ⟨fun l => ⟨xs, g1, by rw [enumD_len, r.len] at l; omega⟩, fun d e => ?_⟩
  obtain ⟨x, e1, rfl⟩ := enumD_get e
  obtain ⟨v, ev, rv⟩ := r.get e1
  refine ⟨⟨xs, v, g1, ev⟩, fun x' H2 ⟨T, x1, z1, z2, z3, z4⟩ => ?_⟩
  subst z1 z3
  have w1 := z4 xs g1
  rw [ev] at w1
  cases w1
  rw [Nat.zero_add]
  exact ⟨same_upd z2, pair_rep z2 al (.int _) (Rep.to t rv)⟩
def dEnum (da : Ev → (List D → Prop) → Prop) : Ev → (List D → Prop) → Prop := fun env Q => da env fun xs => match xs with | [.list a] => Q (enumD 0 a) | _ => False
theorem ri_enum {n : Nat} {t : TA} {da : Ev → (List D → Prop) → Prop} (h : RfN K n t da) : RfI K (iEnum K t) (dEnum da) := ⟨fun R q k => h.run R q fun ds vs H1 q1 _ s1 r1 => by
  split at q1
  · cases r1 with | cons h1 r1 =>
    cases r1
    cases h1 with | lst h1 n1 r1 =>
    exact ⟨_, _, rfl, SqL.of h1, k _ _ _ q1 s1 (ite_ok h1 n1 r1)⟩
  · exact q1.elim⟩
/-! targets -/
structure RfG (K : PySem.W.Frag) (is : List Nat) (g : TG) (dg : D → Ev → (Ev → Prop) → Prop) : Prop where
  run : ∀ {A : Addr → Prop} {st : Option (Addr × Addr)} {ow : Nat → Option Addr} {σ : L2.St} {H : Hp} {env : Ev} {d : D} {v : V} {Qd : Ev → Prop} {Q : L2.St → Hp → Prop},
  RE K A st ow σ H env → Rep K H (Mo A ow) d v → dg d env Qd → (∀ env' ow' σ', Qd env' → RE K A st ow' σ' H env' → (∀ j a, ow' j = some a → ow j = some a) → (∀ js, (∀ i ∈ is, i ∈ js) → wipe σ' js = wipe σ js ∧ ∀ j, j ∉ js → ow' j = ow j) → Q σ' H) → g v σ H Q
structure RfGs (K : PySem.W.Frag) (is : List Nat) (g : TGs) (dg : List D → Ev → (Ev → Prop) → Prop) : Prop where
  run : ∀ {A : Addr → Prop} {st : Option (Addr × Addr)} {ow : Nat → Option Addr} {σ : L2.St} {H : Hp} {env : Ev} {ds : List D} {vs : List V} {Qd : Ev → Prop} {Q : L2.St → Hp → Prop},
  RE K A st ow σ H env → RepL K H (Mo A ow) ds vs → dg ds env Qd → (∀ env' ow' σ', Qd env' → RE K A st ow' σ' H env' → (∀ j a, ow' j = some a → ow j = some a) → (∀ js, (∀ i ∈ is, i ∈ js) → wipe σ' js = wipe σ js ∧ ∀ j, j ∉ js → ow' j = ow j) → Q σ' H) → g vs σ H Q
def eset (env : Ev) (i : Nat) (e : Option En) : Ev := env.set i e
def owDel (ow : Nat → Option Addr) (i : Nat) : Nat → Option Addr := fun j => if j = i then none else ow j
theorem owDel_sub {ow : Nat → Option Addr} {i j : Nat} {a : Addr} (h : owDel ow i j = some a) : ow j = some a ∧ j ≠ i := by
  unfold owDel at h
  split at h
  · cases h
  · exact ⟨h, by assumption⟩
theorem Mo.sub {A : Addr → Prop} {ow ow' : Nat → Option Addr} (h : ∀ j a, ow' j = some a → ow j = some a) {a : Addr} (m : Mo A ow' a) : Mo A ow a := m.imp id fun ⟨i, e⟩ => ⟨i, h i a e⟩
theorem to_less {H : Hp} {M M' : Addr → Prop} (h : ∀ a, M' a → M a) : To H H M M' := ⟨fun b o e n => ⟨e, fun z => n (h b z)⟩⟩
theorem SR.less {A : Addr → Prop} {st : Option (Addr × Addr)} {ow ow' : Nat → Option Addr} {H : Hp} {i : Nat} {e : En} {v : V} (h : ∀ j a, ow' j = some a → ow j = some a) (hi : ow' i = ow i) (r : SR K A st ow H i e v) : SR K A st ow' H i e v := by
  have t : To H H (Mo A ow) (Mo A ow') := to_less fun a => Mo.sub h
  cases e with
  | d x => exact Rep.to t r
  | own ds =>
    obtain ⟨a, vs, h1, h2, h3, h4⟩ := r
    exact ⟨a, vs, hi.trans h1, h2, h3, RepL.to t h4⟩
  | odk ds =>
    obtain ⟨a, vs, h1, h2, h3, h4⟩ := r
    exact ⟨a, vs, hi.trans h1, h2, h3, RepK.to t h4⟩
  | st => exact r
/-- a slot is written -/
theorem RE.put {A : Addr → Prop} {st : Option (Addr × Addr)} {ow : Nat → Option Addr} {σ : L2.St} {H : Hp} {env : Ev} (R : RE K A st ow σ H env) (i : Nat) {d : D} {v : V} (r : Rep K H (Mo A ow) d v) : RE K A st (owDel ow i) (σ.set i (some v)) H (eset env i (some (.d d))) := by
  have sub : ∀ j a, owDel ow i j = some a → ow j = some a := fun j a h => (owDel_sub h).1
  have t : To H H (Mo A ow) (Mo A (owDel ow i)) := to_less fun a => Mo.sub sub
  refine ⟨R.ls, R.dom, R.sta, fun j a h => R.al j a (sub j a h), fun j a h => R.na j a (sub j a h), fun j k a h1 h2 => R.inj j k a (sub j a h1) (sub k a h2), fun j a h => ?_, by unfold eset; rw [List.length_set, List.length_set]; exact R.len, fun j e he => ?_⟩
  · have hj := (owDel_sub h).2
    unfold eset
    rw [List.getElem?_set_ne fun z => hj z.symm]
    exact R.tie j a (sub j a h)
  unfold eset at he
  by_cases hj : i = j
  · subst hj
    have hl : i < env.length := by
      have := (List.getElem?_eq_some_iff.mp he).1
      rwa [List.length_set] at this
    rw [List.getElem?_set_self hl] at he
    cases he
    exact ⟨v, List.getElem?_set_self (by rw [R.len]; exact hl), Rep.to t r⟩
  · rw [List.getElem?_set_ne hj] at he
    obtain ⟨u, hu, s⟩ := R.sl j e he
    exact ⟨u, by rw [List.getElem?_set_ne hj]; exact hu, s.less sub (by unfold owDel; rw [if_neg (fun z => hj z.symm)])⟩
theorem wipe_get {σ : L2.St} : ∀ {vs : List Nat} {j : Nat}, j ∈ vs → j < σ.length → (wipe σ vs)[j]? = some none
  | v :: vs, j, h, hl => by
    unfold wipe
    by_cases e : v = j
    · subst e
      exact List.getElem?_set_self (by rw [wipe_length]; exact hl)
    · rw [List.getElem?_set_ne e]
      exact wipe_get ((List.mem_cons.mp h).resolve_left fun z => e z.symm) hl
theorem wipe_set {σ : L2.St} {i : Nat} {x : Option V} {js : List Nat} (h : i ∈ js) : wipe (σ.set i x) js = wipe σ js := by
  refine List.ext_getElem? fun j => ?_
  by_cases hj : j < σ.length
  · by_cases hm : j ∈ js
    · rw [wipe_get hm (by rw [List.length_set]; exact hj), wipe_get hm hj]
    · rw [wipe_out hm, wipe_out hm, List.getElem?_set_ne fun (z : i = j) => hm (z ▸ h)]
  · rw [List.getElem?_eq_none (by rw [wipe_length, List.length_set]; omega), List.getElem?_eq_none (by rw [wipe_length]; omega)]
def gN (i : Nat) : D → Ev → (Ev → Prop) → Prop := fun d env Q => Q (eset env i (some (.d d)))
theorem rg_name (i : Nat) : RfG K [i] (gName i) (gN i) := ⟨fun R r q k => k _ _ _ q (R.put i r) (fun j a h => (owDel_sub h).1) fun js h => ⟨wipe_set (h i (by simp)), fun j hj => by unfold owDel; rw [if_neg (fun (z : j = i) => hj (z.symm ▸ h i (by simp)))]⟩⟩
def gNi : List D → Ev → (Ev → Prop) → Prop := fun ds env Q => match ds with | [] => Q env | _ => False
def gCo (g : D → Ev → (Ev → Prop) → Prop) (gs : List D → Ev → (Ev → Prop) → Prop) : List D → Ev → (Ev → Prop) → Prop := fun ds env Q => match ds with | d :: r => g d env fun env1 => gs r env1 Q | [] => False
def gT (n : Nat) (gs : List D → Ev → (Ev → Prop) → Prop) : D → Ev → (Ev → Prop) → Prop := fun d env Q => match d with | .tuple ds => ds.length = n ∧ gs ds env Q | _ => False
theorem rg_nil : RfGs K [] gNil gNi := ⟨fun {A st ow σ H env ds vs Qd Q} R r q k => by
  unfold gNi at q
  split at q
  · cases r
    exact ⟨rfl, k _ _ _ q R (fun _ _ h => h) fun _ _ => ⟨rfl, fun _ _ => rfl⟩⟩
  · exact q.elim⟩
theorem rg_cons {is js : List Nat} {t : TG} {u : TGs} {g : D → Ev → (Ev → Prop) → Prop} {gs : List D → Ev → (Ev → Prop) → Prop} (h : RfG K is t g) (hs : RfGs K js u gs) : RfGs K (is ++ js) (gCons t u) (gCo g gs) := ⟨fun {A st ow σ H env ds vs Qd Q} R r q k => by
  unfold gCo at q
  split at q
  · cases r with | cons r1 r2 =>
    refine ⟨_, _, rfl, h.run R r1 q fun env1 ow1 σ1 q1 R1 sub1 w1 => hs.run R1 (RepL.to (to_less fun a => Mo.sub sub1) r2) q1 fun env2 ow2 σ2 q2 R2 sub2 w2 => k env2 ow2 σ2 q2 R2 (fun j a e => sub1 j a (sub2 j a e)) fun ks hk => ?_⟩
    have a2 := w2 ks fun i hi => hk i (List.mem_append_right _ hi)
    have a1 := w1 ks fun i hi => hk i (List.mem_append_left _ hi)
    exact ⟨a2.1.trans a1.1, fun j hj => (a2.2 j hj).trans (a1.2 j hj)⟩
  · exact q.elim⟩
theorem rg_tup {is : List Nat} {n : Nat} {u : TGs} {gs : List D → Ev → (Ev → Prop) → Prop} (h : RfGs K is u gs) : RfG K is (gTup K n u) (gT n gs) := ⟨fun {A st ow σ H env d v Qd Q} R r q k => by
  unfold gT at q
  split at q
  · cases r with | tup r1 r2 =>
    exact ⟨_, _, rfl, r1.sq, by rw [← r2.len]; exact q.1, h.run R r2 q.2 k⟩
  · exact q.elim⟩
/-! comprehensions -/
def wipeE (env : Ev) : List Nat → Ev
  | [] => env
  | v :: vs => eset (wipeE env vs) v none
theorem wipe_idem {σ : L2.St} {js : List Nat} : wipe (wipe σ js) js = wipe σ js := by
  refine List.ext_getElem? fun j => ?_
  by_cases hj : j < σ.length
  · by_cases hm : j ∈ js
    · rw [wipe_get hm (by rw [wipe_length]; exact hj), wipe_get hm hj]
    · rw [wipe_out hm]
  · rw [List.getElem?_eq_none (by rw [wipe_length, wipe_length]; omega), List.getElem?_eq_none (by rw [wipe_length]; omega)]
theorem RE.wipe1 {A : Addr → Prop} {st : Option (Addr × Addr)} {ow : Nat → Option Addr} {σ : L2.St} {H : Hp} {env : Ev} (R : RE K A st ow σ H env) (i : Nat) (hi : ow i = none) : RE K A st ow (σ.set i none) H (eset env i none) := by
  refine ⟨R.ls, R.dom, R.sta, R.al, R.na, R.inj, fun j a h => ?_, by unfold eset; rw [List.length_set, List.length_set]; exact R.len, fun j e he => ?_⟩
  · have hj : i ≠ j := fun z => by subst z; rw [hi] at h; cases h
    unfold eset
    rw [List.getElem?_set_ne hj]
    exact R.tie j a h
  unfold eset at he
  by_cases hj : i = j
  · subst hj
    have hl : i < env.length := by
      have := (List.getElem?_eq_some_iff.mp he).1
      rwa [List.length_set] at this
    rw [List.getElem?_set_self hl] at he
    cases he
  · rw [List.getElem?_set_ne hj] at he
    obtain ⟨u, hu, s⟩ := R.sl j e he
    exact ⟨u, by rw [List.getElem?_set_ne hj]; exact hu, s⟩
theorem RE.wipes {A : Addr → Prop} {st : Option (Addr × Addr)} {ow : Nat → Option Addr} {σ : L2.St} {H : Hp} {env : Ev} (R : RE K A st ow σ H env) : ∀ vs : List Nat, (∀ i ∈ vs, ow i = none) → RE K A st ow (wipe σ vs) H (wipeE env vs)
  | [], _ => R
  | v :: vs, h => (R.wipes vs fun i hi => h i (List.mem_cons_of_mem _ hi)).wipe1 v (h v List.mem_cons_self)
theorem RE.noOwn {A : Addr → Prop} {st : Option (Addr × Addr)} {ow : Nat → Option Addr} {σ : L2.St} {H : Hp} {env : Ev} (R : RE K A st ow σ H env) {vs : List Nat} (h : noOwn vs env = true) : ∀ i ∈ vs, ow i = none := fun i hi => by
  cases e : ow i with
  | none => rfl
  | some a =>
    unfold Toy.noOwn at h
    rw [List.all_eq_true] at h
    have h1 := h i hi
    unfold isOwn at h1
    rcases R.tie i a e with ⟨ds, z⟩ | ⟨ds, z⟩
    · rw [some_eget z] at h1; cases h1
    · rw [some_eget z] at h1; cases h1
def lcD (g : D → Ev → (Ev → Prop) → Prop) (c : Ev → (Bool → Prop) → Prop) (e : Ev → (D → Prop) → Prop) : List D → Ev → (List D → Prop) → Prop
  | [], _, Q => Q []
  | d :: r, env, Q => g d env fun env1 => c env1 fun b => if b = true then e env1 fun x => lcD g c e r env fun xs => Q (x :: xs) else lcD g c e r env Q
/-- at most 100000 turns, said ahead -/
def dLc (vs : List Nat) (di : Ev → (List D → Prop) → Prop) (g : D → Ev → (Ev → Prop) → Prop) (c : Ev → (Bool → Prop) → Prop) (e : Ev → (D → Prop) → Prop) : Ev → (List D → Prop) → Prop :=
  fun env Q => noOwn vs env = true ∧ di env fun ds => ds.length ≤ 100000 ∧ lcD g c e ds (wipeE env vs) Q
theorem drop_get {α : Type} {xs : List α} {i : Nat} {x : α} (h : xs[i]? = some x) : xs.drop i = x :: xs.drop (i + 1) := by
  obtain ⟨h1, h2⟩ := List.getElem?_eq_some_iff.mp h
  rw [← h2]
  exact List.drop_eq_getElem_cons h1
theorem rf_lc {vs is : List Nat} {wi : TI} {tg : TG} {tt : TT} {te : TE} {di : Ev → (List D → Prop) → Prop} {g : D → Ev → (Ev → Prop) → Prop} {c : Ev → (Bool → Prop) → Prop} {e : Ev → (D → Prop) → Prop}
    (hi : RfI K wi di) (hg : RfG K is tg g) (hc : RfT K tt c) (he : RfE K te e) (his : ∀ i ∈ is, i ∈ vs := by decide) : RfF K (tLc wi tg tt te vs) (dLc vs di g c e) := ⟨fun {A st ow σ H env Qd Q} R q0 k =>
  hi.run R q0.2 fun ds J H1 ⟨hl, q1⟩ s1 J1 L hL => by
    have hno := R.noOwn q0.1
    have R1 := R.step s1
    have nM := R1.newM hL
    let A' : Addr → Prop := fun a => A a ∨ a = L
    have toA : ∀ {H' : Hp}, To H1 (upd H1 L (.lst [])) (Mo A ow) (Mo A' ow) := new_to hL fun a z => by
      rcases z with (z | z) | z
      · exact .inl (.inl z)
      · exact .inr z
      · exact .inl (.inr z)
    have bk : ∀ a, Mo A' ow a → Mo A ow a ∨ a = L := fun a z => by
      rcases z with (z | z) | z
      · exact .inl (.inl z)
      · exact .inr z
      · exact .inl (.inr z)
    have fw : ∀ a, Mo A ow a → Mo A' ow a := fun a z => z.elim (fun z => .inl (.inl z)) .inr
    have fwL : Mo A' ow L := .inl (.inr rfl)
    -- the turns
    refine ⟨fun i m H' => m = ds.length - i ∧ i ≤ ds.length ∧ ∃ acc xs, H' L = some (.lst xs) ∧ xs.length ≤ i ∧ RepL K H' (Mo A' ow) acc xs ∧ RE K A' st ow (wipe σ vs) H' (wipeE env vs) ∧ Keep (exs st) H H' ∧ To H1 H' (Mo A ow) (Mo A' ow) ∧ LSo st H' ∧
      lcD g c e (ds.drop i) (wipeE env vs) (fun r => Qd (acc ++ r)), ⟨_, rfl, Nat.zero_le _, [], [], upd_same, Nat.zero_le _, .nil, ?_, ?_, toA (H' := H1), ?_, ?_⟩, ?_⟩
    · have RR := (R1.wipes vs hno)
      have S1 : Stp st H1 (upd H1 L (.lst [])) := R1.new hL
      have RS := RR.step S1
      refine ⟨RS.ls, fun a z => ?_, fun z e => ⟨.inl (RS.sta z e).1, .inl (RS.sta z e).2⟩, RS.al, fun j a e z => ?_, RS.inj, RS.tie, RS.len, fun j e' he' => ?_⟩
      · rcases z with z | rfl
        · exact RS.dom a z
        · rw [upd_same]; intro z; cases z
      · rcases z with z | rfl
        · exact RS.na j a e z
        · exact R1.al j _ e hL
      · obtain ⟨v, hv, r⟩ := RR.sl j e' he'
        refine ⟨v, hv, ?_⟩
        have t : To H1 (upd H1 L (.lst [])) (Mo A ow) (Mo A' ow) := toA (H' := H1)
        cases e' with
        | d x => exact Rep.to t r
        | own ds =>
          obtain ⟨a, vs, h1, h2, h3, h4⟩ := r
          exact ⟨a, vs, h1, h2, same_upd hL _ _ h3, RepL.to t h4⟩
        | odk ds =>
          obtain ⟨a, vs, h1, h2, h3, h4⟩ := r
          exact ⟨a, vs, h1, h2, same_upd hL _ _ h3, RepK.to t h4⟩
        | st => exact r
    · exact s1.k.trans fun b o z n => same_upd hL b o z
    · exact s1.l.same (same_upd hL)
    · exact q1
    · rintro i m H' ⟨rfl, hi, acc, xs, hx, hxl, rx, RR, kk, tt', ll, qq⟩
      have al : ∀ a, Mo A' ow a → H' a ≠ none := fun a z => RR.alM z
      by_cases hlt : i < ds.length
      · have eD : ds[i]? = some ds[i] := List.getElem?_eq_getElem hlt
        rw [drop_get eD] at qq
        obtain ⟨go, yl⟩ := (J1 (Mo A' ow) H' tt' al i).2 _ eD
        refine .inr ⟨go, fun H2 => ∃ acc xs, H2 L = some (.lst xs) ∧ xs.length ≤ i + 1 ∧ RepL K H2 (Mo A' ow) acc xs ∧ RE K A' st ow (wipe σ vs) H2 (wipeE env vs) ∧ Keep (exs st) H H2 ∧ To H1 H2 (Mo A ow) (Mo A' ow) ∧ LSo st H2 ∧
          lcD g c e (ds.drop (i + 1)) (wipeE env vs) (fun r => Qd (acc ++ r)), fun H2 z => ⟨_, by omega, rfl, hlt, z⟩, fun x H2 y => ?_⟩
        obtain ⟨sm, rx1⟩ := yl x H2 y
        have S2 : Stp st H' H2 := .same ll sm
        have RR2 := RR.step S2
        refine hg.run RR2 rx1 qq fun env3 ow3 σ3 q3 R3 sub3 w3 => ⟨(w3 vs his).1.trans wipe_idem, ?_⟩
        have eo : ow = ow3 := funext fun j => by
          by_cases hj : j ∈ vs
          · cases e : ow3 j with
            | none => exact hno j hj
            | some a => exact sub3 j a e
          · exact ((w3 vs his).2 j hj).symm
        subst eo
        refine hc.run R3 q3 fun b H4 q4 s4 => ?_
        have R4 := R3.step s4
        have L4 : H4 L = some (.lst xs) := s4.k L _ (sm L _ hx) fun z => by
          obtain ⟨z1, e1, z2⟩ := exs_mem z
          have w := RR.sta z1 e1
          obtain ⟨kk', ns, l1, l2, l3⟩ := R1.ls z1 e1
          rcases z2 with z2 | z2
          · rw [z2, l1] at hL; cases hL
          · rw [z2, l2] at hL; cases hL
        have exL : ∀ a ∈ exs st, a ≠ L := fun a z e' => by
          subst e'
          exact R1.ls.ne _ z hL
        have S4 : Stp st H' H4 := ⟨S2.k.trans s4.k, s4.l⟩
        have RR4 := RR.step S4
        have t4 : To H' H4 (Mo A' ow) (Mo A' ow) := RR.toS S4
        have kH4 : Keep (exs st) H H4 := kk.trans S4.k
        have tH4 : To H1 H4 (Mo A ow) (Mo A' ow) := tt'.trans t4
        cases b with
        | false =>
          rw [if_neg Bool.false_ne_true] at q4 ⊢
          exact ⟨acc, xs, L4, Nat.le_succ_of_le hxl, RepL.to t4 rx, RR4, kH4, tH4, s4.l, q4⟩
        | true =>
          rw [if_pos rfl] at q4 ⊢
          refine he.run R4 q4 fun d v H5 q5 s5 r5 => ?_
          have L5 : H5 L = some (.lst xs) := s5.k L _ L4 fun z => exL L z rfl
          have S5 : Stp st H' H5 := ⟨S4.k.trans s5.k, s5.l⟩
          have RR5 := RR.step S5
          have t5 : To H' H5 (Mo A' ow) (Mo A' ow) := RR.toS S5
          have len5 : xs.length < sizeLine := Nat.lt_of_le_of_lt hxl (Nat.lt_of_lt_of_le hlt (Nat.le_trans hl (by decide)))
          have nL5 : ∀ {b : Addr} {o : HO}, H5 b = some o → ¬ Mo A' ow b → b ≠ L := fun _ n z => n (z ▸ fwL)
          have t6 : To H5 (upd H5 L (.lst (xs ++ [v]))) (Mo A' ow) (Mo A' ow) := ⟨fun b o e' n => ⟨by rw [upd_ne (nL5 e' n)]; exact e', n⟩⟩
          have l6 : LSo st (upd H5 L (.lst (xs ++ [v]))) := fun z e' => by
            obtain ⟨kk', ns, l1, l2, l3⟩ := s5.l z e'
            have m1 : z.1 ≠ L := exL _ (by subst e'; simp [exs])
            have m2 : z.2 ≠ L := exL _ (by subst e'; simp [exs])
            exact ⟨kk', ns, by rw [upd_ne m1]; exact l1, by rw [upd_ne m2]; exact l2, l3⟩
          have k6 : Keep [L] H5 (upd H5 L (.lst (xs ++ [v]))) := fun b o e' n => by
            rw [upd_ne (fun z => n (by rw [z]; simp))]
            exact e'
          refine ⟨xs, L5, len5, acc ++ [d], xs ++ [v], upd_same, by rw [List.length_append]; exact Nat.succ_le_succ hxl, RepL.to t6 ((RepL.to t5 rx).snoc r5), ?_, fun b o e' n => ?_, (tt'.trans t5).trans t6, l6, ?_⟩
          · refine RR5.keep (ex := [L]) (fun a ha => .inr (by simpa using ha)) k6 l6 fun a ha => ?_
            have : a = L := by simpa using ha
            subst this
            rw [upd_same]; intro z; cases z
          · rw [upd_ne (fun z => by rw [z, s1.none hL] at e'; cases e')]
            exact S5.k b o (kk b o e' n) n
          · have : (fun r => Qd (acc ++ [d] ++ r)) = fun r => Qd (acc ++ (d :: r)) := funext fun r => by rw [List.append_assoc]; rfl
            rw [this]
            exact q5
      · have e' : i = ds.length := by omega
        subst e'
        rw [List.drop_length] at qq
        refine .inl ⟨(J1 (Mo A' ow) H' tt' al _).1 rfl, ?_⟩
        have q9 : Qd (acc ++ []) := qq
        rw [List.append_nil] at q9
        exact k acc L xs H' q9 ⟨kk, ll⟩ (s1.none hL) hx (RepL.to (to_less fun a z => z.elim (fw a) fun y => y ▸ fwL) rx)⟩
end
/-! statements -/
structure Dd where
  nx : Ev → Prop
  rt : D → Prop
  bk : Ev → Prop := fun _ => False
  ct : Ev → Prop := fun _ => False
structure BE (K : PySem.W.Frag) (A : Addr → Prop) (st : Option (Addr × Addr)) (H0 : Hp) (ow : Nat → Option Addr) (σ : L2.St) (H : Hp) (env : Ev) : Prop where
  r : RE K A st ow σ H env
  kp : Keep (exs st) H0 H
  fr : ∀ i a, ow i = some a → H0 a = none
structure EOk (K : PySem.W.Frag) (A : Addr → Prop) (st : Option (Addr × Addr)) (H0 : Hp) (ow : Nat → Option Addr) (H : Hp) (Ed : Dd) (E : Ends) : Prop where
  nx : ∀ env' ow' σ' H', Ed.nx env' → BE K A st H0 ow' σ' H' env' → To H H' (Mo A ow) (Mo A ow') → E.nx σ' H'
  rt : ∀ d v H', Ed.rt d → Stp st H0 H' → Rep K H' A d v → E.rt v H'
  bk : ∀ env' ow' σ' H', Ed.bk env' → BE K A st H0 ow' σ' H' env' → To H H' (Mo A ow) (Mo A ow') → E.bk σ' H'
  ct : ∀ env' ow' σ' H', Ed.ct env' → BE K A st H0 ow' σ' H' env' → To H H' (Mo A ow) (Mo A ow') → E.ct σ' H'
abbrev DS := Dd → Ev → Prop
structure RfS (K : PySem.W.Frag) (t : TS) (ds : DS) : Prop where
  run : ∀ {A : Addr → Prop} {st : Option (Addr × Addr)} {H0 : Hp} {ow : Nat → Option Addr} {σ : L2.St} {H : Hp} {env : Ev} {Ed : Dd} {E : Ends},
  BE K A st H0 ow σ H env → ds Ed env → EOk K A st H0 ow H Ed E → t E σ H
section
variable {K : PySem.W.Frag}
section
variable {A : Addr → Prop} {st : Option (Addr × Addr)} {H0 H H' : Hp} {ow ow' : Nat → Option Addr} {σ : L2.St} {env : Ev} {Ed : Dd} {E : Ends}
theorem EOk.to (k : EOk K A st H0 ow H Ed E) (t : To H H' (Mo A ow) (Mo A ow')) : EOk K A st H0 ow' H' Ed E :=   ⟨fun env' ow' σ' H' q b t2 => k.nx env' ow' σ' H' q b (t.trans t2), k.rt, fun env' ow' σ' H' q b t2 => k.bk env' ow' σ' H' q b (t.trans t2), fun env' ow' σ' H' q b t2 => k.ct env' ow' σ' H' q b (t.trans t2)⟩
theorem BE.step (B : BE K A st H0 ow σ H env) (s : Stp st H H') : BE K A st H0 ow σ H' env := ⟨B.r.step s, B.kp.trans s.k, B.fr⟩
theorem to_del (H : Hp) (A : Addr → Prop) (ow : Nat → Option Addr) (i : Nat) : To H H (Mo A ow) (Mo A (owDel ow i)) := to_less fun b => Mo.sub fun j a h => (owDel_sub h).1
theorem BE.put (B : BE K A st H0 ow σ H env) (i : Nat) {d : D} {v : V} (r : Rep K H (Mo A ow) d v) : BE K A st H0 (owDel ow i) (σ.set i (some v)) H (eset env i (some (.d d))) :=   ⟨B.r.put i r, B.kp, fun j a h => B.fr j a (owDel_sub h).1⟩
end
def dNext : DS := fun Ed env => Ed.nx env
def dSeq (a b : DS) : DS := fun Ed env => a { Ed with nx := b Ed } env
def dRet (de : Ev → (D → Prop) → Prop) : DS := fun Ed env => de env Ed.rt
def dRetN : DS := fun Ed _ => Ed.rt .none
def dIf (c : Ev → (Bool → Prop) → Prop) (a b : DS) : DS := fun Ed env => c env fun k => if k = true then a Ed env else b Ed env
def dAsg (de : Ev → (D → Prop) → Prop) (g : D → Ev → (Ev → Prop) → Prop) : DS := fun Ed env => de env fun x => g x env Ed.nx
def dDrop (de : Ev → (D → Prop) → Prop) : DS := fun Ed env => de env fun _ => Ed.nx env
def dBreak : DS := fun Ed env => Ed.bk env
def dCont : DS := fun Ed env => Ed.ct env
theorem rs_next : RfS K tNext dNext := ⟨fun B q k => k.nx _ _ _ _ q B (To.refl _ _)⟩
theorem rs_break : RfS K tBreak dBreak := ⟨fun B q k => k.bk _ _ _ _ q B (To.refl _ _)⟩
theorem rs_cont : RfS K tCont dCont := ⟨fun B q k => k.ct _ _ _ _ q B (To.refl _ _)⟩
theorem rs_seq {t u : TS} {a b : DS} (h1 : RfS K t a) (h2 : RfS K u b) : RfS K (tSeq t u) (dSeq a b) := ⟨fun B q k =>
  h1.run B q ⟨fun env' ow' σ' H' q' b' t' => h2.run b' q' (k.to t'), k.rt, k.bk, k.ct⟩⟩
theorem rs_ret {t : TE} {de : Ev → (D → Prop) → Prop} (h : RfE K t de) : RfS K (tRet t) (dRet de) := ⟨fun B q k => h.run B.r q fun d v H' q' s r => k.rt d v H' q' ⟨B.kp.trans s.k, s.l⟩ (Rep.to (to_less fun _ z => .inl z) r)⟩
theorem rs_retN : RfS K tRetN dRetN := ⟨fun B q k => k.rt _ _ _ q ⟨B.kp, B.r.ls⟩ .non⟩
theorem rs_if {c : TT} {t u : TS} {dc : Ev → (Bool → Prop) → Prop} {a b : DS} (hc : RfT K c dc) (h1 : RfS K t a) (h2 : RfS K u b) : RfS K (tIfS c t u) (dIf dc a b) := ⟨fun B q k => hc.run B.r q fun c H1 q1 s1 => by
  have k1 := k.to (B.r.toS s1)
  cases c with
  | true =>
    rw [if_pos rfl] at q1 ⊢
    exact h1.run (B.step s1) q1 k1
  | false =>
    rw [if_neg Bool.false_ne_true] at q1 ⊢
    exact h2.run (B.step s1) q1 k1⟩
theorem rs_drop {t : TE} {de : Ev → (D → Prop) → Prop} (h : RfE K t de) : RfS K (tDrop t) (dDrop de) := ⟨fun B q k => h.run B.r q fun d v H' q' s r => k.nx _ _ _ _ q' (B.step s) (B.r.toS s)⟩
theorem rs_asg {is : List Nat} {t : TE} {g : TG} {de : Ev → (D → Prop) → Prop} {dg : D → Ev → (Ev → Prop) → Prop} (h : RfE K t de) (hg : RfG K is g dg) : RfS K (tAsg t g) (dAsg de dg) := ⟨fun B q k => h.run B.r q fun d v H' q' s r =>
  hg.run (B.r.step s) r q' fun env' ow' σ' q2 R2 sub _ => k.nx _ _ _ _ q2 ⟨R2, (B.step s).kp, fun j a e => B.fr j a (sub j a e)⟩ ((B.r.toS s).trans (to_less fun a => Mo.sub sub))⟩
/-! a slot that owns a list -/
def owPut (ow : Nat → Option Addr) (i : Nat) (a : Addr) : Nat → Option Addr := fun j => if j = i then some a else ow j
theorem owPut_sub {A : Addr → Prop} {ow : Nat → Option Addr} {i : Nat} {L : Addr} {b : Addr} (m : Mo A (owPut ow i L) b) : Mo A ow b ∨ b = L := by
  rcases m with m | ⟨j, m⟩
  · exact .inl (.inl m)
  · unfold owPut at m
    split at m
    · cases m; exact .inr rfl
    · exact .inl (.inr ⟨j, m⟩)
theorem own_to {A : Addr → Prop} {st : Option (Addr × Addr)} {ow : Nat → Option Addr} {σ : L2.St} {H H' : Hp} {env : Ev} (R : RE K A st ow σ H env) (s : Stp st H H') (i : Nat) {L : Addr} (n : H L = none) : To H H' (Mo A ow) (Mo A (owPut ow i L)) :=   ⟨fun b o e m => ⟨((R.toS s).h b o e m).1, fun z => (owPut_sub z).elim m fun y => by rw [y, n] at e; cases e⟩⟩
theorem RE.own {A : Addr → Prop} {st : Option (Addr × Addr)} {ow : Nat → Option Addr} {σ : L2.St} {H H' : Hp} {env : Ev} (R : RE K A st ow σ H env) (s : Stp st H H') (i : Nat) {L : Addr} {o : HO} (n : H L = none) (hL : H' L = some o) {en : En}
    (hen : SR K A st (owPut ow i L) H' i en (.ref L)) (he : (∃ ds, en = .own ds) ∨ ∃ ds, en = .odk ds) (hi : i < env.length) : RE K A st (owPut ow i L) (σ.set i (some (.ref L))) H' (eset env i (some en)) := by
  have R' := R.step s
  have t := own_to R s i n
  refine ⟨R'.ls, R'.dom, R'.sta, fun j a h => ?_, fun j a h => ?_, fun j k a h1 h2 => ?_, fun j a h => ?_, by unfold eset; rw [List.length_set, List.length_set]; exact R.len, fun j e he => ?_⟩
  · unfold owPut at h
    split at h
    · cases h; rw [hL]; intro z; cases z
    · exact R'.al j a h
  · unfold owPut at h
    split at h
    · cases h; exact fun z => R.dom _ z n
    · exact R'.na j a h
  · unfold owPut at h1 h2
    split at h1 <;> split at h2
    · simp_all
    · cases h1; exact absurd n (R.al k _ h2)
    · cases h2; exact absurd n (R.al j _ h1)
    · exact R.inj j k a h1 h2
  · unfold owPut at h
    unfold eset
    split at h
    · rename_i hj
      subst hj
      rw [List.getElem?_set_self hi]
      rcases he with ⟨ds, rfl⟩ | ⟨ds, rfl⟩
      · exact .inl ⟨ds, rfl⟩
      · exact .inr ⟨ds, rfl⟩
    · rename_i hj
      rw [List.getElem?_set_ne fun z => hj z.symm]
      exact R.tie j a h
  · unfold eset at he
    by_cases hj : i = j
    · subst hj
      rw [List.getElem?_set_self hi] at he
      cases he
      exact ⟨_, List.getElem?_set_self (by rw [R.len]; exact hi), hen⟩
    · rw [List.getElem?_set_ne hj] at he
      obtain ⟨u, hu, r⟩ := R.sl j e he
      refine ⟨u, by rw [List.getElem?_set_ne hj]; exact hu, ?_⟩
      have oj : owPut ow i L j = ow j := by unfold owPut; rw [if_neg fun z => hj z.symm]
      cases e with
      | d x => exact Rep.to t r
      | own ds =>
        obtain ⟨a, vs, h1, h2, h3, h4⟩ := r
        exact ⟨a, vs, oj.trans h1, h2, s.k a _ h3 fun z => R.na j a h1 (R.exA a z), RepL.to t h4⟩
      | odk ds =>
        obtain ⟨a, vs, h1, h2, h3, h4⟩ := r
        exact ⟨a, vs, oj.trans h1, h2, s.k a _ h3 fun z => R.na j a h1 (R.exA a z), RepK.to t h4⟩
      | st => exact r
/-- x = a new list -/
def dOwn (i : Nat) (df : Ev → (List D → Prop) → Prop) : DS := fun Ed env => df env fun ds => i < env.length ∧ Ed.nx (eset env i (some (.own ds)))
theorem rs_own (i : Nat) {t : TE} {df : Ev → (List D → Prop) → Prop} (h : RfF K t df) : RfS K (tAsg t (gName i)) (dOwn i df) := ⟨fun {A st H0 ow σ H env Ed E} B q k => h.run B.r q fun ds L vs H' ⟨hi, q'⟩ s n e r => by
  have t := own_to B.r s i n
  refine k.nx _ _ _ _ q' ⟨B.r.own s i n e (en := .own ds) ⟨L, vs, by unfold owPut; rw [if_pos rfl], rfl, e, RepL.to (to_less fun b z => owPut_sub z) r⟩ (.inl ⟨ds, rfl⟩) hi, B.kp.trans s.k, fun j a h => ?_⟩ t
  unfold owPut at h
  split at h
  · cases h
    cases z : H0 L with
    | none => rfl
    | some o =>
      by_cases hx : L ∈ exs st
      · exact absurd n (B.r.ls.ne L hx)
      · rw [B.kp L o z hx] at n; cases n
  · exact B.fr j a h⟩
/-- what a slot owns becomes another thing of its kind -/
theorem BE.mut {A : Addr → Prop} {st : Option (Addr × Addr)} {H0 H : Hp} {ow : Nat → Option Addr} {σ : L2.St} {env : Ev} (B : BE K A st H0 ow σ H env) (i : Nat) {L : Addr} {o o' : HO} (hi : ow i = some L) (hL : H L = some o) (hs : σ[i]? = some (some (.ref L))) {en : En}
    (hen : SR K A st ow (upd H L o') i en (.ref L)) (he : (∃ ds, en = .own ds) ∨ ∃ ds, en = .odk ds) : BE K A st H0 ow σ (upd H L o') (eset env i (some en)) ∧ To H (upd H L o') (Mo A ow) (Mo A ow) := by
  have R := B.r
  have mL : Mo A ow L := .inr ⟨i, hi⟩
  have t : To H (upd H L o') (Mo A ow) (Mo A ow) := ⟨fun b x e n => ⟨by rw [upd_ne (fun (z : b = L) => n (z ▸ mL))]; exact e, n⟩⟩
  have exL : ∀ a ∈ exs st, a ≠ L := fun a z e => R.na i L hi (e ▸ R.exA a z)
  have nn : ∀ {a : Addr}, H a ≠ none → upd H L o' a ≠ none := fun {a} h => by
    by_cases e : a = L
    · subst e; rw [upd_same]; intro z; cases z
    · rw [upd_ne e]; exact h
  refine ⟨⟨⟨fun z e => ?_, fun a z => nn (R.dom a z), R.sta, fun j a e => nn (R.al j a e), R.na, R.inj, fun j a e => ?_, by unfold eset; rw [List.length_set]; exact R.len, fun j e he' => ?_⟩, fun b x e n => ?_, B.fr⟩, t⟩
  · obtain ⟨kk, ns, l1, l2, l3⟩ := R.ls z e
    have m1 : z.1 ≠ L := exL _ (by subst e; simp [exs])
    have m2 : z.2 ≠ L := exL _ (by subst e; simp [exs])
    exact ⟨kk, ns, by rw [upd_ne m1]; exact l1, by rw [upd_ne m2]; exact l2, l3⟩
  · unfold eset
    by_cases hj : i = j
    · subst hj
      have hl : i < env.length := by rw [← R.len]; exact (List.getElem?_eq_some_iff.mp hs).1
      rw [List.getElem?_set_self hl]
      rcases he with ⟨ds, rfl⟩ | ⟨ds, rfl⟩
      · exact .inl ⟨ds, rfl⟩
      · exact .inr ⟨ds, rfl⟩
    · rw [List.getElem?_set_ne hj]
      exact R.tie j a e
  · unfold eset at he'
    by_cases hj : i = j
    · subst hj
      have hl : i < env.length := by rw [← R.len]; exact (List.getElem?_eq_some_iff.mp hs).1
      rw [List.getElem?_set_self hl] at he'
      cases he'
      exact ⟨_, hs, hen⟩
    · rw [List.getElem?_set_ne hj] at he'
      obtain ⟨u, hu, r⟩ := R.sl j e he'
      refine ⟨u, hu, ?_⟩
      cases e with
      | d x => exact Rep.to t r
      | own ds =>
        obtain ⟨a, vs, h1, h2, h3, h4⟩ := r
        exact ⟨a, vs, h1, h2, by rw [upd_ne (fun (z : a = L) => hj (R.inj i j L hi (z ▸ h1)))]; exact h3, RepL.to t h4⟩
      | odk ds =>
        obtain ⟨a, vs, h1, h2, h3, h4⟩ := r
        exact ⟨a, vs, h1, h2, by rw [upd_ne (fun (z : a = L) => hj (R.inj i j L hi (z ▸ h1)))]; exact h3, RepK.to t h4⟩
      | st => exact r
  · have : b ≠ L := fun z => by rw [z, B.fr i L hi] at e; cases e
    rw [upd_ne this]
    exact B.kp b x e n
/-- x.append(e) -/
def dApp (i : Nat) (de : Ev → (D → Prop) → Prop) : DS := fun Ed env => match eget env i with
  | some (.own ds) => de env fun x => ds.length ≤ 100000 ∧ Ed.nx (eset env i (some (.own (ds ++ [x]))))
  | _ => False
theorem rs_app (i : Nat) {te : TE} {de : Ev → (D → Prop) → Prop} (h : RfE K te de) : RfS K (tDrop (tBM K "list" rAppend (tVar i) (tCons te tNil))) (dApp i de) := ⟨fun {A st H0 ow σ H env Ed E} B q k => by
  unfold dApp at q
  split at q
  · rename_i ds e
    obtain ⟨v, hv, L, vs, h1, rfl, h3, h4⟩ := B.r.sl i _ (eget_some e)
    refine ⟨_, hv, .inl ⟨rfl, vs, SqL.of h3⟩, h.run B.r q fun d v H' ⟨hl, q'⟩ s r => ?_⟩
    have B1 := B.step s
    have h3' : H' L = some (.lst vs) := s.k L _ h3 fun z => B.r.na i L h1 (B.r.exA L z)
    refine ⟨L, vs, v, rfl, rfl, h3', Nat.lt_of_le_of_lt (by rw [← h4.len]; exact hl) (by decide), ?_⟩
    have mL : Mo A ow L := .inr ⟨i, h1⟩
    have t : To H' (upd H' L (.lst (vs ++ [v]))) (Mo A ow) (Mo A ow) := ⟨fun b x e n => ⟨by rw [upd_ne (fun (z : b = L) => n (z ▸ mL))]; exact e, n⟩⟩
    have := B1.mut i (o' := .lst (vs ++ [v])) h1 h3' hv (en := .own (ds ++ [d])) ⟨L, _, h1, rfl, upd_same, RepL.to t ((RepL.to (B.r.toS s) h4).snoc r)⟩ (.inl ⟨_, rfl⟩)
    exact k.nx _ _ _ _ q' this.1 ((B.r.toS s).trans this.2)
  · exact q.elim⟩
/-- x[i] = e -/
def dSetIx (i : Nat) (de di : Ev → (D → Prop) → Prop) : DS := fun Ed env => de env fun x => match eget env i with
  | some (.own ds) => di env fun y => (match y with | .int k => ∃ j, ixN ds.length k = some j ∧ Ed.nx (eset env i (some (.own (ds.set j x)))) | _ => False)
  | _ => False
theorem rs_setIx (i : Nat) {te ti : TE} {de di : Ev → (D → Prop) → Prop} (h : RfE K te de) (hi : RfE K ti di) : RfS K (tAsg te (gSub (tVar i) ti rSetL)) (dSetIx i de di) := ⟨fun {A st H0 ow σ H env Ed E} B q k => h.run B.r q fun d v H1 q1 s1 r1 => by
  have B1 := B.step s1
  split at q1
  · rename_i ds e
    obtain ⟨w, hw, L, vs, h1, rfl, h3, h4⟩ := B1.r.sl i _ (eget_some e)
    refine ⟨_, hw, hi.run B1.r q1 fun y u H2 q2 s2 r2 => ?_⟩
    have B2 := B1.step s2
    have h3' : H2 L = some (.lst vs) := s2.k L _ h3 fun z => B1.r.na i L h1 (B1.r.exA L z)
    split at q2
    · cases r2
      obtain ⟨j, ej, q3⟩ := q2
      refine ⟨L, vs, _, j, rfl, rfl, h3', by rw [← h4.len]; exact ej, ?_⟩
      have mL : Mo A ow L := .inr ⟨i, h1⟩
      have t : To H2 (upd H2 L (.lst (vs.set j v))) (Mo A ow) (Mo A ow) := ⟨fun b x e n => ⟨by rw [upd_ne (fun (z : b = L) => n (z ▸ mL))]; exact e, n⟩⟩
      have := B2.mut i (o' := .lst (vs.set j v)) h1 h3' hw (en := .own (ds.set j d)) ⟨L, _, h1, rfl, upd_same, RepL.to t ((RepL.to (B1.r.toS s2) h4).set j (Rep.to (B1.r.toS s2) r1))⟩ (.inl ⟨_, rfl⟩)
      exact k.nx _ _ _ _ q3 this.1 (((B.r.toS s1).trans (B1.r.toS s2)).trans this.2)
    · exact q2.elim
  · exact q1.elim⟩
/-- what a slot owns is not changed any more -/
def frz (env : Ev) (i : Nat) : Ev := match eget env i with
  | some (.own ds) => eset env i (some (.d (.list ds)))
  | some (.odk ds) => eset env i (some (.d (.dict ds)))
  | _ => env
def dFrz (i : Nat) (a : DS) : DS := fun Ed env => a Ed (frz env i)
theorem set_self {α : Type} {xs : List α} {i : Nat} {x : α} (h : xs[i]? = some x) : xs.set i x = xs := by
  refine List.ext_getElem? fun j => ?_
  by_cases e : i = j
  · subst e
    rw [List.getElem?_set_self (List.getElem?_eq_some_iff.mp h).1, h]
  · rw [List.getElem?_set_ne e]
theorem rs_frz (i : Nat) {t : TS} {a : DS} (h : RfS K t a) : RfS K t (dFrz i a) := ⟨fun {A st H0 ow σ H env Ed E} B q k => by
  have less : To H H (Mo A ow) (Mo A (owDel ow i)) := to_less fun b => Mo.sub fun j a e => (owDel_sub e).1
  have nm : ∀ L, ow i = some L → ¬ Mo A (owDel ow i) L := fun L e z => by
    rcases z with z | ⟨j, z⟩
    · exact B.r.na i L e z
    · obtain ⟨z1, z2⟩ := owDel_sub z
      exact z2 (B.r.inj j i L z1 e)
  have put : ∀ d v, Rep K H (Mo A (owDel ow i)) d v → σ[i]? = some (some v) → BE K A st H0 (owDel ow i) σ H (eset env i (some (.d d))) := fun d v r hv => by
    have R := B.r
    have sub : ∀ j a, owDel ow i j = some a → ow j = some a := fun j a e => (owDel_sub e).1
    refine ⟨⟨R.ls, R.dom, R.sta, fun j a e => R.al j a (sub j a e), fun j a e => R.na j a (sub j a e), fun j k a h1 h2 => R.inj j k a (sub j a h1) (sub k a h2), fun j a h => ?_, by unfold eset; rw [List.length_set]; exact R.len, fun j e he => ?_⟩, B.kp, fun j a h => B.fr j a (sub j a h)⟩
    · have hj := (owDel_sub h).2
      unfold eset
      rw [List.getElem?_set_ne fun z => hj z.symm]
      exact R.tie j a (sub j a h)
    unfold eset at he
    by_cases hj : i = j
    · subst hj
      have hl : i < env.length := by rw [← R.len]; exact (List.getElem?_eq_some_iff.mp hv).1
      rw [List.getElem?_set_self hl] at he
      cases he
      exact ⟨v, hv, r⟩
    · rw [List.getElem?_set_ne hj] at he
      obtain ⟨u, hu, s⟩ := R.sl j e he
      exact ⟨u, hu, s.less sub (by unfold owDel; rw [if_neg (fun z => hj z.symm)])⟩
  unfold dFrz frz at q
  split at q
  · rename_i ds e
    obtain ⟨v, hv, L, vs, h1, rfl, h3, h4⟩ := B.r.sl i _ (eget_some e)
    exact h.run (put _ _ (.lst h3 (nm L h1) (RepL.to less h4)) hv) q (k.to less)
  · rename_i ds e
    obtain ⟨v, hv, L, vs, h1, rfl, h3, h4⟩ := B.r.sl i _ (eget_some e)
    exact h.run (put _ _ (.dct h3 (nm L h1) (RepK.to less h4)) hv) q (k.to less)
  · exact h.run B q k⟩
/-! two names at once -/
def dPar (i j : Nat) (da : Ev → (List D → Prop) → Prop) : DS := fun Ed env => da env fun xs => match xs with
  | [x, y] => Ed.nx (eset (eset env i (some (.d x))) j (some (.d y)))
  | _ => False
theorem rs_par {n : Nat} (i j : Nat) {t : TA} {da : Ev → (List D → Prop) → Prop} (h : RfN K n t da) : RfS K (tPar i j t) (dPar i j da) := ⟨fun {A st H0 ow σ H env Ed E} B q k => h.run B.r q fun ds vs H1 q1 _ s1 r1 => by
  split at q1
  · cases r1 with | cons h1 r1 => cases r1 with | cons h2 r2 =>
    cases r2
    have B1 := B.step s1
    have B2 := B1.put i h1
    have t2 := to_del H1 A ow i
    have B3 := B2.put j (Rep.to t2 h2)
    exact ⟨_, _, rfl, k.nx _ _ _ _ q1 B3 (((B.r.toS s1).trans t2).trans (to_del _ _ _ _))⟩
  · exact q1.elim⟩
def dAug (i : Nat) (de : Ev → (D → Prop) → Prop) (g : Int → Int → Int) : DS := fun Ed env => match eget env i with
  | some (.d (.int x)) => de env fun y => (match y with | .int z => Ed.nx (eset env i (some (.d (.int (g x z))))) | _ => False)
  | _ => False
theorem rs_aug (i : Nat) {t : TE} {de : Ev → (D → Prop) → Prop} {g : Int → Int → Int} (h : RfE K t de) : RfS K (tAug i t (ipI g)) (dAug i de g) := ⟨fun B q k => by
  unfold dAug at q
  split at q
  · rename_i x e
    obtain ⟨v, hv, r⟩ := B.r.sl i _ (eget_some e)
    cases r
    refine ⟨_, hv, h.run B.r q fun d v H1 q1 s1 r1 => ?_⟩
    split at q1
    · cases r1
      have B1 := B.step s1
      exact ⟨_, _, rfl, rfl, k.nx _ _ _ _ q1 (B1.put i (.int _)) ((B.r.toS s1).trans (to_del _ _ _ _))⟩
    · exact q1.elim
  · exact q.elim⟩
/-! loops -/
def loopD (g : D → Ev → (Ev → Prop) → Prop) (body : DS) (Ed : Dd) : List D → Ev → Prop
  | [], env => Ed.nx env
  | d :: r, env => g d env fun env1 => body { nx := loopD g body Ed r, ct := loopD g body Ed r, bk := Ed.nx, rt := Ed.rt } env1
def dFor (di : Ev → (List D → Prop) → Prop) (g : D → Ev → (Ev → Prop) → Prop) (body : DS) : DS := fun Ed env => di env fun ds => loopD g body Ed ds env
theorem rs_for {is : List Nat} {wi : TI} {tg : TG} {tb : TS} {di : Ev → (List D → Prop) → Prop} {g : D → Ev → (Ev → Prop) → Prop} {body : DS} (hi : RfI K wi di) (hg : RfG K is tg g) (hb : RfS K tb body) : RfS K (tFor wi tg tb) (dFor di g body) := ⟨fun {A st H0 ow σ H env Ed E} B q k =>
  hi.run B.r q fun ds J H1 q1 s1 J1 => by
    have B1 := B.step s1
    have k1 := k.to (B.r.toS s1)
    refine ⟨fun i m σ' H' => m = ds.length - i ∧ i ≤ ds.length ∧ ∃ env' ow', BE K A st H0 ow' σ' H' env' ∧ To H1 H' (Mo A ow) (Mo A ow') ∧ loopD g body Ed (ds.drop i) env', ⟨_, rfl, Nat.zero_le _, env, ow, B1, To.refl _ _, q1⟩, ?_⟩
    rintro i m σ' H' ⟨rfl, hi, env', ow', B', t', q'⟩
    have al : ∀ a, Mo A ow' a → H' a ≠ none := fun a z => B'.r.alM z
    by_cases hlt : i < ds.length
    · have eD : ds[i]? = some ds[i] := List.getElem?_eq_getElem hlt
      rw [drop_get eD] at q'
      obtain ⟨go, yl⟩ := (J1 _ H' t' al i).2 _ eD
      refine .inr ⟨go, fun σ2 H2 => ∃ env2 ow2, BE K A st H0 ow2 σ2 H2 env2 ∧ To H1 H2 (Mo A ow) (Mo A ow2) ∧ loopD g body Ed (ds.drop (i + 1)) env2, fun σ2 H2 z => ⟨_, by omega, rfl, hlt, z⟩, fun x H2 y => ?_⟩
      obtain ⟨sm, rx⟩ := yl x H2 y
      have B2 := B'.step (.same B'.r.ls sm)
      refine hg.run B2.r rx q' fun env3 ow3 σ3 q3 R3 sub3 _ => ?_
      have B3 : BE K A st H0 ow3 σ3 H2 env3 := ⟨R3, B2.kp, fun j a e => B2.fr j a (sub3 j a e)⟩
      have t3 : To H' H2 (Mo A ow') (Mo A ow3) := (to_same sm).trans (to_less fun a => Mo.sub sub3)
      have k3 := k1.to (t'.trans t3)
      exact hb.run B3 q3 ⟨fun env' ow' σ' H' q b t => ⟨env', ow', b, (t'.trans t3).trans t, q⟩, k3.rt, k3.nx, fun env' ow' σ' H' q b t => ⟨env', ow', b, (t'.trans t3).trans t, q⟩⟩
    · have e' : i = ds.length := by omega
      subst e'
      rw [List.drop_length] at q'
      exact .inl ⟨(J1 _ H' t' al _).1 rfl, k1.nx _ _ _ _ q' B' t'⟩⟩
def dWhile (c : Ev → (Bool → Prop) → Prop) (body : DS) : DS := fun Ed env => ∃ W : Nat → Ev → Prop, (∃ m, W m env) ∧ ∀ m env, W m env → c env fun b =>
  if b = true then body { nx := fun e => ∃ m', m' < m ∧ W m' e, ct := fun e => ∃ m', m' < m ∧ W m' e, bk := Ed.nx, rt := Ed.rt } env else Ed.nx env
theorem rs_while {tc : TT} {tb : TS} {c : Ev → (Bool → Prop) → Prop} {body : DS} (hc : RfT K tc c) (hb : RfS K tb body) : RfS K (tWhile tc tb) (dWhile c body) := ⟨fun {A st H0 ow σ H env Ed E} B ⟨W, ⟨m0, w0⟩, turn⟩ k => by
  refine ⟨fun m σ' H' => ∃ env' ow', BE K A st H0 ow' σ' H' env' ∧ To H H' (Mo A ow) (Mo A ow') ∧ W m env', ⟨m0, env, ow, B, To.refl _ _, w0⟩, ?_⟩
  rintro m σ' H' ⟨env', ow', B', t', w'⟩
  refine hc.run B'.r (turn m env' w') fun b H2 q2 s2 => ?_
  have B2 := B'.step s2
  have t2 := t'.trans (B'.r.toS s2)
  have k2 := k.to t2
  cases b with
  | false =>
    rw [if_neg Bool.false_ne_true] at q2 ⊢
    exact k2.nx _ _ _ _ q2 B2 (To.refl _ _)
  | true =>
    rw [if_pos rfl] at q2 ⊢
    exact ⟨fun σ3 H3 => ∃ m', m' < m ∧ ∃ env' ow', BE K A st H0 ow' σ3 H3 env' ∧ To H H3 (Mo A ow) (Mo A ow') ∧ W m' env', fun σ3 H3 z => z,
      hb.run B2 q2 ⟨fun env' ow' σ' H' ⟨m', hm, w⟩ b t => ⟨m', hm, env', ow', b, t2.trans t, w⟩, k2.rt, k2.nx, fun env' ow' σ' H' ⟨m', hm, w⟩ b t => ⟨m', hm, env', ow', b, t2.trans t, w⟩⟩⟩⟩
/-! bodies -/
def ev0 (ds : List D) (n : Nat) : Ev := ds.map (fun d => some (.d d)) ++ List.replicate n none
theorem ev0_get {K : PySem.W.Frag} {H : Hp} {A : Addr → Prop} : ∀ {ds : List D} {vs : List V} {n i : Nat} {e : En}, RepL K H A ds vs → (ev0 ds n)[i]? = some (some e) → ∃ d v, e = .d d ∧ vs[i]? = some v ∧ Rep K H A d v := fun {ds vs n i e} r h => by
  unfold ev0 at h
  by_cases hi : i < ds.length
  · rw [List.getElem?_append_left (by rw [List.length_map]; exact hi), List.getElem?_map, List.getElem?_eq_getElem hi] at h
    cases h
    obtain ⟨v, hv, rv⟩ := r.get (List.getElem?_eq_getElem hi)
    exact ⟨_, v, rfl, hv, rv⟩
  · rw [List.getElem?_append_right (by rw [List.length_map]; omega)] at h
    have := List.mem_of_getElem? h
    rw [List.mem_replicate] at this
    cases this.2
theorem start_get {N : List Str} {vs : List V} {i : Nat} {v : V} (h : vs[i]? = some v) : (L2.start N vs)[i]? = some (some v) := by
  unfold L2.start
  have hi := (List.getElem?_eq_some_iff.mp h).1
  rw [List.getElem?_append_left (by rw [List.length_map]; exact hi), List.getElem?_map, h]
  rfl
theorem fn_pure {t : TS} {b : DS} {f : List D → (D → Prop) → Prop} {N : List Str} {vs : List V} {H : Hp} {Q : VK} {E : XK} (hb : RfS K t b) (h : spD K f vs H Q E) (hn : vs.length ≤ N.length)
    (hf : ∀ ds Qd, f ds Qd → b { nx := fun _ => Qd .none, rt := Qd } (ev0 ds (N.length - ds.length))) : t { nx := fun _ H' => Q .non H', rt := Q } (L2.start N vs) H := by
  obtain ⟨A, ds, Qd, dom, r, hq, k⟩ := h
  have hl := r.len
  refine hb.run (A := A) (st := none) (H0 := H) (ow := fun _ => none) ⟨⟨fun q e => (by cases e), dom, fun q e => (by cases e), fun i a e => (by cases e), fun i a e => (by cases e), fun i j a e => (by cases e), fun i a e => (by cases e), ?_, fun i e he => ?_⟩, Keep.refl _ _, fun i a e => (by cases e)⟩ (hf ds Qd hq) ?_
  · unfold L2.start ev0
    simp only [List.length_append, List.length_map, List.length_replicate]
    omega
  · obtain ⟨d, v, rfl, hv, rv⟩ := ev0_get r he
    exact ⟨v, start_get hv, Rep.to (to_less fun a z => z.elim id fun ⟨i, e⟩ => by cases e) rv⟩
  · exact ⟨fun env' ow' σ' H' q b t => k _ _ _ q (fun b' o e => b.kp b' o e (by simp [exs])) .non, fun d v H' q s r => k _ _ _ q (fun b' o e => s.k b' o e (by simp [exs])) r, fun _ _ _ _ q => q.elim, fun _ _ _ _ q => q.elim⟩
theorem fn_state {t : TS} {b : DS} {f : List D → (D → Prop) → Prop} {N : List Str} {vs : List V} {H : Hp} {Q : VK} {E : XK} (hb : RfS K t b) (h : spS K f vs H Q E) (hn : vs.length ≤ N.length)
    (hf : ∀ ds Qd, f ds Qd → b { nx := fun _ => Qd .none, rt := Qd } (some .st :: ev0 ds (N.length - (ds.length + 1)))) : t { nx := fun _ H' => Q .non H', rt := Q } (L2.start N vs) H := by
  obtain ⟨A, z, ds, ws, Qd, rfl, ls, a1, a2, dom, r, hq, k⟩ := h
  have hl := r.len
  refine hb.run (A := A) (st := some z) (H0 := H) (ow := fun _ => none) ⟨⟨fun q e => (by cases e; exact ls), dom, fun q e => (by cases e; exact ⟨a1, a2⟩), fun i a e => (by cases e), fun i a e => (by cases e), fun i j a e => (by cases e), fun i a e => (by cases e), ?_, fun i e he => ?_⟩, Keep.refl _ _, fun i a e => (by cases e)⟩ (hf ds Qd hq) ?_
  · unfold L2.start ev0
    simp only [List.length_append, List.length_map, List.length_replicate, List.length_cons] at hn ⊢
    omega
  · cases i with
    | zero =>
      rw [List.getElem?_cons_zero] at he
      cases he
      exact ⟨_, start_get (i := 0) rfl, z, rfl, rfl⟩
    | succ i =>
      rw [List.getElem?_cons_succ] at he
      obtain ⟨d, v, rfl, hv, rv⟩ := ev0_get r he
      exact ⟨v, start_get (i := i + 1) (by rw [List.getElem?_cons_succ]; exact hv), Rep.to (to_less fun a z => z.elim id fun ⟨i, e⟩ => by cases e) rv⟩
  · exact ⟨fun env' ow' σ' H' q b t => k _ _ _ q ⟨b.kp, b.r.ls⟩ .non, fun d v H' q s r => k _ _ _ q s r, fun _ _ _ _ q => q.elim, fun _ _ _ _ q => q.elim⟩
theorem spD_len {f : List D → (D → Prop) → Prop} {n : Nat} (hf : ∀ ds Qd, f ds Qd → ds.length = n) {vs : List V} {H : Hp} {Q : VK} {E : XK} (h : spD K f vs H Q E) : vs.length = n := by
  obtain ⟨A, ds, Qd, dom, r, hq, k⟩ := h
  rw [← r.len]
  exact hf ds Qd hq
theorem spS_len {f : List D → (D → Prop) → Prop} {n : Nat} (hf : ∀ ds Qd, f ds Qd → ds.length = n) {vs : List V} {H : Hp} {Q : VK} {E : XK} (h : spS K f vs H Q E) : vs.length = n + 1 := by
  obtain ⟨A, z, ds, ws, Qd, rfl, ls, a1, a2, dom, r, hq, k⟩ := h
  rw [List.length_cons, ← r.len, hf ds Qd hq]
end
section
variable {K : PySem.W.Frag}
def dUn (op : D → (D → Prop) → Prop) (da : Ev → (D → Prop) → Prop) : Ev → (D → Prop) → Prop := fun env Q => da env fun x => op x Q
structure RfV1 (K : PySem.W.Frag) (r : V → Hp → VK → Prop) (op : D → (D → Prop) → Prop) : Prop where
  run : ∀ {A : Addr → Prop} {st : Option (Addr × Addr)} {ow : Nat → Option Addr} {σ : L2.St} {H : Hp} {env : Ev} {a : D} {x : V} {Qd : D → Prop} {Q : VK},
  RE K A st ow σ H env → RepB K H A (Mo A ow) a x → op a Qd → (∀ d v H', Qd d → Stp st H H' → Rep K H' (Mo A ow) d v → Q v H') → r x H Q
theorem ru {r : V → Hp → VK → Prop} {op : D → (D → Prop) → Prop} {ta : TE} {da : Ev → (D → Prop) → Prop} (ho : RfV1 K r op) (ha : RfB K ta da) : RfE K (tUn r ta) (dUn op da) := ⟨fun R q k =>
  ha.run R q fun d v H1 q1 s1 r1 => ho.run (R.step s1) r1 q1 fun d v H2 q2 s2 r2 => k d v H2 q2 (s1.trans s2) r2⟩
def oNeg : D → (D → Prop) → Prop := fun x Q => match x with | .int i => Q (.int (-i)) | _ => False
theorem rv_neg : RfV1 K (rU fun i => .int (-i)) oNeg := ⟨fun R h q k => by
  unfold oNeg at q
  split at q
  · cases h.int
    exact ⟨_, rfl, k _ _ _ q (stp_refl R) (.int _)⟩
  · exact q.elim⟩
theorem rv_ninS : RfV2 K (fun x y H Q => ∃ (c : Nat) (z : Str), x = .str ⟨#[c]⟩ ∧ y = .str z ∧ Q (.bl (!decide (c ∈ z.cps.toList))) H) (oInS true) := ⟨fun R h1 h2 q k => by
  unfold oInS at q
  split at q
  · cases h1.str; cases h2.str
    obtain ⟨c, rfl, q⟩ := q
    exact ⟨_, _, rfl, rfl, k _ _ _ q (stp_refl R) (.bl _)⟩
  · exact q.elim⟩
def CDivW' (_ j : Int) : Prop := 0 < j ∧ j.natAbs < 2 ^ 64
/-! promises by their arguments -/
def F0 (P : (D → Prop) → Prop) : List D → (D → Prop) → Prop := fun ds Q => match ds with | [] => P Q | _ => False
def F1 (P : D → (D → Prop) → Prop) : List D → (D → Prop) → Prop := fun ds Q => match ds with | [a] => P a Q | _ => False
def F2 (P : D → D → (D → Prop) → Prop) : List D → (D → Prop) → Prop := fun ds Q => match ds with | [a, b] => P a b Q | _ => False
def F3 (P : D → D → D → (D → Prop) → Prop) : List D → (D → Prop) → Prop := fun ds Q => match ds with | [a, b, c] => P a b c Q | _ => False
def F4 (P : D → D → D → D → (D → Prop) → Prop) : List D → (D → Prop) → Prop := fun ds Q => match ds with | [a, b, c, d] => P a b c d Q | _ => False
def F5 (P : D → D → D → D → D → (D → Prop) → Prop) : List D → (D → Prop) → Prop := fun ds Q => match ds with | [a, b, c, d, e] => P a b c d e Q | _ => False
def F6 (P : D → D → D → D → D → D → (D → Prop) → Prop) : List D → (D → Prop) → Prop := fun ds Q => match ds with | [a, b, c, d, e, f] => P a b c d e f Q | _ => False
theorem F0_len {P} (ds : List D) (Q : D → Prop) (h : F0 P ds Q) : ds.length = 0 := by unfold F0 at h; split at h; rfl; exact h.elim
theorem F1_len {P} (ds : List D) (Q : D → Prop) (h : F1 P ds Q) : ds.length = 1 := by unfold F1 at h; split at h; rfl; exact h.elim
theorem F2_len {P} (ds : List D) (Q : D → Prop) (h : F2 P ds Q) : ds.length = 2 := by unfold F2 at h; split at h; rfl; exact h.elim
theorem F3_len {P} (ds : List D) (Q : D → Prop) (h : F3 P ds Q) : ds.length = 3 := by unfold F3 at h; split at h; rfl; exact h.elim
theorem F4_len {P} (ds : List D) (Q : D → Prop) (h : F4 P ds Q) : ds.length = 4 := by unfold F4 at h; split at h; rfl; exact h.elim
theorem F5_len {P} (ds : List D) (Q : D → Prop) (h : F5 P ds Q) : ds.length = 5 := by unfold F5 at h; split at h; rfl; exact h.elim
theorem F6_len {P} (ds : List D) (Q : D → Prop) (h : F6 P ds Q) : ds.length = 6 := by unfold F6 at h; split at h; rfl; exact h.elim
theorem F0_in {P} {G : List D → (D → Prop) → Prop} (h : ∀ Qd, P Qd → G [] Qd) : ∀ ds Qd, F0 P ds Qd → G ds Qd := fun ds Qd q => by unfold F0 at q; split at q; exact h _ q; exact q.elim
theorem F1_in {P} {G : List D → (D → Prop) → Prop} (h : ∀ a Qd, P a Qd → G [a] Qd) : ∀ ds Qd, F1 P ds Qd → G ds Qd := fun ds Qd q => by unfold F1 at q; split at q; exact h _ _ q; exact q.elim
theorem F2_in {P} {G : List D → (D → Prop) → Prop} (h : ∀ a b Qd, P a b Qd → G [a, b] Qd) : ∀ ds Qd, F2 P ds Qd → G ds Qd := fun ds Qd q => by unfold F2 at q; split at q; exact h _ _ _ q; exact q.elim
theorem F3_in {P} {G : List D → (D → Prop) → Prop} (h : ∀ a b c Qd, P a b c Qd → G [a, b, c] Qd) : ∀ ds Qd, F3 P ds Qd → G ds Qd := fun ds Qd q => by unfold F3 at q; split at q; exact h _ _ _ _ q; exact q.elim
theorem F4_in {P} {G : List D → (D → Prop) → Prop} (h : ∀ a b c d Qd, P a b c d Qd → G [a, b, c, d] Qd) : ∀ ds Qd, F4 P ds Qd → G ds Qd := fun ds Qd q => by unfold F4 at q; split at q; exact h _ _ _ _ _ q; exact q.elim
theorem F5_in {P} {G : List D → (D → Prop) → Prop} (h : ∀ a b c d e Qd, P a b c d e Qd → G [a, b, c, d, e] Qd) : ∀ ds Qd, F5 P ds Qd → G ds Qd := fun ds Qd q => by unfold F5 at q; split at q; exact h _ _ _ _ _ _ q; exact q.elim
theorem F6_in {P} {G : List D → (D → Prop) → Prop} (h : ∀ a b c d e f Qd, P a b c d e f Qd → G [a, b, c, d, e, f] Qd) : ∀ ds Qd, F6 P ds Qd → G ds Qd := fun ds Qd q => by unfold F6 at q; split at q; exact h _ _ _ _ _ _ _ q; exact q.elim
/-! the law's own run -/
def spState (K : PySem.W.Frag) : Sp := fun vs H Q _ => ∃ (a : Addr) (ns : List Int), vs = [.ref a] ∧ SqL K H a (ns.map V.int) ∧ ns.length ≤ 63 ∧
  ∀ (p c : Addr) (H' : Hp), LS H' p c → Same H H' → H p = none → H c = none → Q (.ref p) H'
def spLaw (K : PySem.W.Frag) : Sp := fun vs H Q _ => ∃ (a : Addr) (ns : List Int), vs = [.ref a] ∧ SqL K H a (ns.map V.int) ∧ ns.length ≤ 63 ∧ ∀ H', Q (.bl true) H'
theorem spLaw_len {vs : List V} {H : Hp} {Q : VK} {E : XK} (h : spLaw K vs H Q E) : vs.length = 1 := by
  obtain ⟨a, ns, rfl, _⟩ := h
  rfl
theorem law_run {i : Nat} {u : TS} {b : DS} {N : List Str} {vs : List V} {H : Hp} {Q : VK} {E E' : XK} (hb : RfS K u b) (h : spLaw K vs H Q E) (hi : 0 < i) (hN : i < N.length)
    (hf : b { nx := fun _ => False, rt := fun d => d = .bool true } ((List.replicate N.length none).set i (some .st))) :
    tSeq (tAsg (tCall (spState K) [] E' (tCons (tVar 0) tNil)) (gName i)) u { nx := fun _ H' => Q .non H', rt := Q } (L2.start N vs) H := by
  obtain ⟨a, ns, rfl, hS, hlen, q⟩ := h
  refine ⟨_, start_get (i := 0) rfl, a, ns, rfl, hS, hlen, fun p c H1 ls sm np nc => ?_⟩
  refine hb.run (A := fun x => x = p ∨ x = c) (st := some (p, c)) (H0 := H1) (ow := fun _ => none) ⟨⟨fun q e => (by cases e; exact ls), fun a ha => ?_, fun q e => (by cases e; exact ⟨.inl rfl, .inr rfl⟩), fun i a e => (by cases e), fun i a e => (by cases e), fun i j a e => (by cases e), fun i a e => (by cases e), ?_, fun j e he => ?_⟩, Keep.refl _ _, fun i a e => (by cases e)⟩ hf ?_
  · obtain ⟨k, ns, h1, h2, _⟩ := ls
    rcases ha with rfl | rfl
    · rw [h1]; intro z; cases z
    · rw [h2]; intro z; cases z
  · unfold L2.start
    simp only [List.length_set, List.length_append, List.length_map, List.length_replicate, List.length_cons, List.length_nil]
    omega
  · by_cases hj : i = j
    · subst hj
      rw [List.getElem?_set_self (by rw [List.length_replicate]; exact hN)] at he
      cases he
      refine ⟨_, List.getElem?_set_self ?_, (p, c), rfl, rfl⟩
      unfold L2.start
      simp only [List.length_append, List.length_map, List.length_replicate, List.length_cons, List.length_nil]
      omega
    · rw [List.getElem?_set_ne hj] at he
      have := List.mem_of_getElem? he
      rw [List.mem_replicate] at this
      cases this.2
  · exact ⟨fun env' ow' σ' H' q => q.elim, fun d v H' e s r => by subst e; cases r; exact q H', fun _ _ _ _ q => q.elim, fun _ _ _ _ q => q.elim⟩
/-! draws -/
def sTake : D → (D → Prop) → Prop := fun m Q => match m with | .int m => 0 < m ∧ m < 2 ^ 64 ∧ ∀ r, 0 ≤ r → r < m → Q (.int r) | _ => False
def sTake0 : D → (D → Prop) → Prop := fun m Q => match m with | .int m => m < 2 ^ 64 ∧ ∀ r, 0 ≤ r → (r < m ∨ r < 1) → Q (.int r) | _ => False
def spTake : Sp := fun vs H Q _ => ∃ (p c : Addr) (m : Int), vs = [.ref p, .int m] ∧ LS H p c ∧ 0 < m ∧ m < 2 ^ 64 ∧
  ∀ (r : Int) (H' : Hp), 0 ≤ r → r < m → LS H' p c → Keep [p, c] H H' → Q (.int r) H'
def spTake0 : Sp := fun vs H Q _ => ∃ (p c : Addr) (m : Int), vs = [.ref p, .int m] ∧ LS H p c ∧ m < 2 ^ 64 ∧
  ∀ (r : Int) (H' : Hp), 0 ≤ r → (r < m ∨ r < 1) → LS H' p c → Keep [p, c] H H' → Q (.int r) H'
theorem take_of (vs : List V) (H : Hp) (Q : VK) (E : XK) (h : spS K (F1 sTake) vs H Q E) : spTake vs H Q E := by
  obtain ⟨A, z, ds, ws, Qd, rfl, ls, a1, a2, dom, r, hq, k⟩ := h
  unfold F1 at hq
  split at hq
  · unfold sTake at hq
    split at hq
    · cases r with | cons r1 r2 =>
      cases r2
      cases r1
      exact ⟨z.1, z.2, _, rfl, ls, hq.1, hq.2.1, fun r H' h0 h1 l kk => k _ _ _ (hq.2.2 r h0 h1) ⟨kk, fun q e => by cases e; exact l⟩ (.int _)⟩
    · exact hq.elim
  · exact hq.elim
theorem take0_of (vs : List V) (H : Hp) (Q : VK) (E : XK) (h : spS K (F1 sTake0) vs H Q E) : spTake0 vs H Q E := by
  obtain ⟨A, z, ds, ws, Qd, rfl, ls, a1, a2, dom, r, hq, k⟩ := h
  unfold F1 at hq
  split at hq
  · unfold sTake0 at hq
    split at hq
    · cases r with | cons r1 r2 =>
      cases r2
      cases r1
      exact ⟨z.1, z.2, _, rfl, ls, hq.1, fun r H' h0 h1 l kk => k _ _ _ (hq.2 r h0 h1) ⟨kk, fun q e => by cases e; exact l⟩ (.int _)⟩
    · exact hq.elim
  · exact hq.elim
theorem emod_rng (x : Int) {m : Int} (h : 0 < m) : 0 ≤ x % m ∧ x % m < m := ⟨Int.emod_nonneg _ (by omega), Int.emod_lt_of_pos _ h⟩
theorem at_mod {α : Type} {xs : List α} (h : xs ≠ []) (k : Int) : ∃ (j : Nat) (v : α), k % (xs.length : Int) = (j : Int) ∧ j < xs.length ∧ xs[j]? = some v := by
  have hl : 0 < xs.length := by
    cases xs with
    | nil => exact absurd rfl h
    | cons _ _ => exact Nat.zero_lt_succ _
  have e := emod_rng k (m := (xs.length : Int)) (by omega)
  refine ⟨(k % (xs.length : Int)).toNat, xs[(k % (xs.length : Int)).toNat]'(by omega), by omega, by omega, List.getElem?_eq_getElem _⟩
theorem LS.ne {H : Hp} {p c : Addr} (h : LS H p c) : p ≠ c := by
  obtain ⟨k, ns, h1, h2, h3⟩ := h
  intro e
  subst e
  rw [h1] at h2
  cases ns with
  | nil => exact h3 rfl
  | cons x r =>
    cases r with
    | nil => cases h2
    | cons y r =>
      cases r with
      | nil => cases h2
      | cons _ _ => cases h2
theorem cut63 (xs : List V) (h : xs.length ≤ 63) : cutV xs none (some 63) = xs := by
  unfold cutV
  rw [HT.sIx_none, show HT.sIx xs.length xs.length (some 63) = min 63 xs.length from HT.sIx_nat xs.length xs.length 63]
  rw [List.drop_zero, Nat.min_eq_right h, Nat.sub_zero, List.take_length]
/-! rows that are drawn from -/
def sPick : D → (D → Prop) → Prop := fun m Q => match seqOf m with | some ds => ds ≠ [] ∧ ds.length ≤ 100000 ∧ ∀ d ∈ ds, Q d | none => False
def sNumber : D → D → (D → Prop) → Prop := fun a b Q => match a, b with | .int lo, .int hi => lo ≤ hi ∧ (-(2 ^ 63) ≤ lo ∧ hi < 2 ^ 63) ∧ ∀ r, lo ≤ r → r ≤ hi → Q (.int r) | _, _ => False
end
/-! defs that show data: no repr runs around them -/
structure FnG (P : Program) (w : World) (K : PySem.W.Frag) (mg : Str → Option Value) (base : Heap) (k : Nat) (f : Addr) (fd : FuncData) (ps : List Str) (sp : Sp) : Prop where
  len : ∀ us H Q E, sp us H Q E → us.length = ps.length
  go : ∀ (A : Around) (outer : List Env) (s : Shared) (H : Hp) (args : Args) (us : List Value) (vs : List V) (Q : VK) (E : XK), Room k A → A.guards = some [] → Env0 P w K mg base A outer s H → BindsTo s fd args (ps.zip us) → Vals vs us → sp vs H Q E →
    codeAny (model P w) A (.call (.ref f) args) (CR CX0 outer P w H s Q E) s
theorem FnG.of {P : Program} {w : World} {K : PySem.W.Frag} {mg : Str → Option Value} {base : Heap} {k : Nat} {f : Addr} {fd : FuncData} {ps : List Str} {sp : Sp} (F : FnOk P w K mg base CX0 k f fd ps sp) : FnG P w K mg base k f fd ps sp :=   ⟨F.len, fun A outer s H args us vs Q E hr _ => F.run A outer s H args us vs Q E hr⟩
section
variable {X : Cx} {k : Nat} {f : Addr} {fd : FuncData} {ps : List Str} {sp : Sp} {x : Str} {p pos : Pos} {e : Expr} {es : List Expr} {t : TA}
theorem go_fnG {pins : List (Addr × Obj)} {σ : L2.St} {H : Hp} {s : Shared} {Q : VK} {us : List Value} {vs : List V} (F : FnG X.prog X.w X.K X.mg X.base k f fd ps sp) (hr : Room k X.A) (gd : X.A.guards = some []) (hb : Binds X.K fd ps [])
    (J : Inv X pins σ H s) (r : Vals vs us) (h : sp vs H Q E0) : wpAny (model X.prog X.w) X.A (call (.ref f) us) (EP X pins σ Q) X.xe s := by
  have hl : (us ++ []).length = ps.length := by rw [List.append_nil, ← r.length]; exact F.len _ _ _ _ h
  have bb := hb s us J.kIn hl
  rw [List.append_nil] at bb
  refine wpAny_call (codeAny_mono (F.go X.A X.stack s H ⟨us, []⟩ us vs Q E0 hr gd J.env0 bb r h) fun rr s' hq => ?_)
  match rr, hq with
  | .error e, hq => exact False.elim hq
  | .ok (.ret u), hq => exact J.after hq
  | .ok .next, hq => cases hq
  | .ok .brk, hq => cases hq
  | .ok .cont, hq => cases hq
theorem pe_callG (F : FnG X.prog X.w X.K X.mg X.base k f fd ps sp) (hr : Room k X.A) (gd : X.A.guards = some []) (hg : Gl X x) (hm : X.mg x = some (.ref f)) (hk : PySem.W.keepIn X.K (.ref f) = true) (hb : Binds X.K fd ps [])
    (ha : PA X (e :: es) t) (hdb : (x == ("__debug__" : Str)) = false := by decide) (he : starEach (e :: es) X.env = (false, eval e X.env) :: starEach es X.env := by rfl) (hpl : (backTo pos (starEach es X.env)).any (·.1) = false := by rfl) :
    PE X (.Call (.Name x p) (e :: es) [] pos) (tCall sp [] E0 t) := ⟨fun pins s σ H Q J h => by
  refine wpAny_Call_Name_kw (ld_glob J hg hm ?_ hdb)
  refine PySem.W.callWith_K (h₀ := X.base) J.ok.mod.kin hk (thn (ha.run pos pins s σ H _ J h) fun us s2 ⟨vs, H2, J2, r2, q2⟩ => ⟨J2.kIn, ?_⟩) he hpl
  have q3 : sp (vs ++ []) H2 Q E0 := q2
  rw [List.append_nil] at q3
  exact go_fnG F hr gd hb J2 r2 q3⟩
end
section
variable {P : Program} {w : World} {K : PySem.W.Frag} {mg : Str → Option Value} {base : Heap}
theorem okG {x qual : Str} {st : Stmt} {f : Addr} {fd : FuncData} {N ps : List Str} {k : Nat} {sp : Sp} (F : Fun K x qual st f fd) (S : FnScope N ps (defScope st)) (len : ∀ us H Q E, sp us H Q E → us.length = ps.length)
    (hbody : ∀ (cdv : Value) (A : Around) (outer : List Env) (s : Shared) (H : Hp) (vs : List V) (Q : VK) (E : XK), Room k (A.deeper (envOfC qual (defScope st) s.heap.objs.size f cdv)) → A.guards = some [] → sp vs H Q E →
      ∃ t, PSs (cxOf CX0 P w K mg base N qual (defScope st) f cdv A outer s H E).nox (defBody st) t ∧ t { nx := fun _ H' => Q .non H', rt := Q } (L2.start N vs) H) : FnG P w K mg base (k + 1) f fd ps sp := by
  obtain ⟨oc, od, kV, doc, pm, an, cdv, ct, osl, rfl, lk, hcd⟩ := F.ex
  refine ⟨len, fun A outer s H args us vs Q E hr gd ee hb r hsp => ?_⟩
  have hl := len _ _ _ _ hsp
  have kin : K.In s.heap := ee.mod.kin.keeps fun b o e => (ee.bs b o e).1
  have nol : s.heap.NoLimit := ee.mod.nolimit.keeps fun b o e => (ee.bs b o e).1
  have kinds : ∀ y ∈ ps.zip us, (defScope st).names.lookup y.1 = some .local ∨ ((defScope st).names.lookup y.1 = some .cell ∧ ((cellsFrom (s.heap.objs.size + 1) (defScope st).names []).lookup y.1).isSome = true) := fun ⟨n, v⟩ hy => by
    rcases S.par n (List.of_mem_zip hy).1 with z | z
    · exact .inl z
    · exact .inr ⟨z, PySem.W.cellsFrom_some _ _ _ (.inl z)⟩
  refine codeAny_call_function hr.depth (kin _ _ lk) rfl S.co S.gen rfl (PySem.W.codeRec_of kin hcd) (hb _ _ _ _ ?_)
  refine wpAny_newFunctionEnv_cells S.kind kinds fun env he s2 y => ?_
  subst he
  refine ⟨nol.keeps y.toInCall.keep, codeAny_func ?_⟩
  obtain ⟨t, ht, hq⟩ := hbody cdv A outer s H vs Q E (hr.deeper _) gd hsp
  have J : Inv (cxOf CX0 P w K mg base N qual (defScope st) f cdv A outer s H E) [] (L2.start N vs) H s2 := inv_start S hr.hd ee hl r y
  refine wpAny_mono (ht.nox.run [] s2 (L2.start N vs) H _ J hq) (fun fl s' hs => ?_) fun e s' hs => hs
  match fl, hs with
  | .ret u, ⟨v, σ', H', J', rv, q⟩ => exact ⟨v, H', J'.os, J'.bare, J'.base, J'.hok, rv, q⟩
  | .next, ⟨σ', H', J', q⟩ => exact ⟨.non, H', J'.os, J'.bare, J'.base, J'.hok, rfl, q⟩
  | .brk, ⟨_, _, _, q⟩ => cases q
  | .cont, ⟨_, _, _, q⟩ => cases q
end
/-- the law's call, where no repr runs around it -/
theorem callG {P : Program} {w : World} {K : PySem.W.Frag} {mg mb : Str → Option Value} {k : Nat} {fa a : Addr} {fd : FuncData} {x : Str} {sp : Sp} {sA : Shared} {us : List Value} {zs : List Int}
    (kin : K.In sA.heap) (hns : sA.heap.Ns mainGlobals mg) (hb : sA.heap.Ns builtinsNs mb) (hbb : ∀ x : Str, x ≠ "__name__" → mb x = bootBuiltins x) (nol : sA.heap.NoLimit) (hg : sA.gens = #[])
    (ha : sA.heap.get? a = some { cls := .type "list", data := .seq us.toArray }) (hi : IntsAre us zs) (hl : zs.length ≤ sizeLine) (hr : Room k callerA)
    (F : ∀ base : Heap, K.In base → base.Ns mainGlobals mg → FnG P w K mg base k fa fd [x] sp) (bnd : ∀ (s : Shared) (u : Value), BindsTo s fd ⟨[u], []⟩ [(x, u)])
    (hsp : ∀ H : Hp, SqL K H a (zs.map V.int) → sp [.ref a] H (fun v _ => v = .bl true) E0) :
    codeAny (model P w) callerA (.call (.ref fa) ⟨[.ref a], []⟩) (fun r s' => r = .ok (.ret (.bool true)) ∧ OldK sA.heap s'.heap ∧ s'.os = sA.os ∧ AllBare s'.gens) sA := by
  have rv := vals_ints hi
  have key : ∀ Hh : Hp, Only Hh → SqL K Hh a (zs.map V.int) → HOk P w Hh sA.heap → (∀ b, Hh b ≠ none → b = a) → (Hh a ≠ none → K.lookup a = none) →
      codeAny (model P w) callerA (.call (.ref fa) ⟨[.ref a], []⟩) (fun r s' => r = .ok (.ret (.bool true)) ∧ OldK sA.heap s'.heap ∧ s'.os = sA.os ∧ AllBare s'.gens) sA := by
    intro Hh hO hS hok hA hK
    have under : ∀ {b : Addr} {o : Obj}, sA.heap.get? b = some o → Hh b = none → (hidT sA.heap Hh).get? b = some o := fun e n => hidT_get e n
    have dictN : ∀ {b : Addr} {o : Obj} {es : Array DictEntry} {ep : Nat}, sA.heap.get? b = some o → o.data = .dict es ep → Hh b = none := fun {b o es ep} e d => Decidable.byContradiction fun z => by
      have e' : b = a := hA b z
      rw [e', ha] at e
      cases e
      cases (show Data.seq us.toArray _ = Data.dict es ep from d)
    have nsU : ∀ {b : Addr} {m : Str → Option Value}, sA.heap.Ns b m → (hidT sA.heap Hh).Ns b m := fun {b m} ⟨o, es, ep, e, d, r⟩ => ⟨o, es, ep, under e (dictN e d), d, r⟩
    have kinU : K.In (hidT sA.heap Hh) := fun b o e => under (kin b o e) (Decidable.byContradiction fun z => by
      have e' : b = a := hA b z
      rw [e', hK (e' ▸ z)] at e
      cases e)
    have md : Mod K mg (hidT sA.heap Hh) := ⟨kinU, nsU hns, ⟨mb, nsU hb, hbb⟩, let ⟨mc, h1, h2⟩ := nol; ⟨mc, nsU h1, h2⟩⟩
    have ee : Env0 P w K mg (hidT sA.heap Hh) callerA [] sA Hh := ⟨rfl, md, fun b o e => of_hidT e, Nat.le_of_eq (hidT_size _ _), trivial, fun b hb => absurd hb (by simp [frs]), hok, .of_eq hg⟩
    refine codeAny_mono ((F _ kinU (nsU hns)).go callerA [] sA Hh ⟨[.ref a], []⟩ [.ref a] [.ref a] _ _ hr rfl ee (bnd sA (.ref a)) (.cons rfl .nil) (hsp Hh hS)) fun r s' h => ?_
    match r, h with
    | .error e, h => cases h
    | .ok .next, h => cases h
    | .ok .brk, h => cases h
    | .ok .cont, h => cases h
    | .ok (.ret u), ⟨v, H', os, bare, un, hok', r', q⟩ =>
      subst q
      obtain rfl : u = Value.bool true := r'
      refine ⟨rfl, OldK.of_keep fun b o e => ?_, os, bare⟩
      cases q : Hh b with
      | none => exact un.keep b o e q (by simp [frs]) (by simp)
      | some u =>
        rcases hO b with z | ⟨ob, xs, z⟩
        · rw [q] at z; cases z
        · have z2 := un.frzs b ob _ z
          obtain ⟨e1, _⟩ := hok b _ z
          obtain ⟨e2, _⟩ := hok' b _ z2
          rw [e] at e1; cases e1
          exact e2
  cases hk : K.lookup a with
  | some o =>
    have e := kin a o hk
    rw [ha] at e
    cases e
    exact key (fun _ => none) (fun _ => .inl rfl) (.inr ⟨_, us.toArray, _, hk, rfl, rfl, rfl, by rw [List.size_toArray, hi.length]; exact hl, by simpa using rv⟩) (fun b u z => by cases (show (none : Option HO) = some u from z)) (fun b z => absurd rfl z) fun z => absurd rfl z
  | none =>
    let Hs : Hp := fun b => if b = a then some (.frz { cls := .type "list", data := .seq us.toArray } (.lst (zs.map V.int))) else none
    have at_a : Hs a = some (.frz { cls := .type "list", data := .seq us.toArray } (.lst (zs.map V.int))) := if_pos rfl
    have off : ∀ {b : Addr}, b ≠ a → Hs b = none := fun h => if_neg h
    refine key Hs (fun b => ?_) (.inl (.inr ⟨_, at_a⟩)) (fun b u z => ?_) (fun b z => Decidable.byContradiction fun h => z (off h)) fun _ => hk
    · by_cases h : b = a
      · exact .inr ⟨_, _, by rw [h]; exact at_a⟩
      · exact .inl (off h)
    · by_cases h : b = a
      · subst h
        rw [at_a] at z
        cases z
        exact ⟨ha, by rw [List.length_map]; exact hl, us, _, rv, ha⟩
      · rw [off h] at z
        cases z
theorem walkG {l : PySem.W.OpenLaw} {k : Nat} {q : Program} {loose : List Str} {XP : (Str → Option Value) → Heap → Prop} {YP : World → Heap → Prop} {d : DefRec} {K : Params → PySem.W.Frag} {x : Str}
    (hn : l.most = some 63) (hdf : d.params.defaults = []) (hr : Room k callerA)
    (hY : ∀ (w : World) (h : Heap), YP w h → (K w.params).In h)
    (F : ∀ (w : World) (mg : Str → Option Value) (fa : Addr) (h : Heap), (K w.params).In h → h.Ns mainGlobals mg → mg d.name = some (.ref fa) →
      ∃ fd : FuncData, (∀ (s : Shared) (u : Value), BindsTo s fd ⟨[u], []⟩ [(x, u)]) ∧
        ∀ base : Heap, (K w.params).In base → base.Ns mainGlobals mg → FnG l.prog w (K w.params) mg base k fa fd [x] (spLaw (K w.params))) :
    PySem.W.WalkO q loose XP YP l.row.toRowW d [] (fun f vs => PySem.call f vs) := by
  refine Att.attach_call hn hdf fun w s0 sA mg mb fa o pm cd doc a us zs G Y ho hd hcd hmg hobj hints hlen hg => ?_
  have kin := hY w _ Y
  obtain ⟨fd, hb, hF⟩ := F w mg fa _ kin G.T.g hmg
  exact callG kin G.T.g G.T.b G.T.builtins G.T.nolimit hg hobj hints (Nat.le_trans hlen (by decide)) hr hF hb fun H hS => ⟨a, zs, rfl, hS, hlen, fun _ => rfl⟩

/-! repr -/
def rRepr (K : PySem.W.Frag) : List V → Hp → VK → Prop := fun xs H Q => ∃ x d, xs = [x] ∧ Dp K H x d ∧ d.showable = true ∧ d.hasDict = false ∧ d.depth ≤ 60 ∧ d.shown.length ≤ sizeLine ∧ Q (.str d.shown) H
theorem cr_repr {X : Cx} (gd : X.A.guards = some []) (hu : X.A.units + 64 < cLine) : CallR X (.builtin "repr") (rRepr X.K) := fun pins s σ H xs us Q J r h => by
  obtain ⟨x, d, rfl, hd, hs, hn, hdep, hsz, q⟩ := h
  obtain ⟨u, rfl, ru⟩ := vals1 r
  have hd' := hd
  cases hd with
  | non => cases (show u = Value.none from ru); exact P.repr_of_none ⟨.str PyData.none.shown, H, J.tok _, ⟨_, rfl⟩, q⟩
  | bl b => cases (show u = Value.bool b from ru); exact P.repr_of_bool ⟨.str (PyData.bool b).shown, H, J.tok _, ⟨_, by cases b <;> rfl⟩, q⟩
  | int i =>
    obtain ⟨t, rfl⟩ := ru
    exact P.repr_of_int (by simpa [PyData.showable] using hs) ⟨.str (PyData.int i).shown, H, J.tok _, ⟨_, rfl⟩, q⟩
  | str z =>
    obtain ⟨t, rfl⟩ := ru
    exact P.repr_of_str ⟨.str (PyData.str z).shown, H, J.tok _, ⟨_, rfl⟩, q⟩ hsz
  | @lst a xs ds hq ha =>
    obtain ⟨as, rd⟩ := Dp.reads J _ _ u hd' ru
    cases (show u = Value.ref a from ru)
    exact repr_of_reads' rd hs (fun z => by rw [hn] at z; cases z) gd (by omega) (fun b o e => e) (fun h' u tk k => ⟨.str (PyData.list ds).shown, H, J.kept k, ⟨_, rfl⟩, q⟩) hsz
  | @tup a xs ds hq ha =>
    obtain ⟨as, rd⟩ := Dp.reads J _ _ u hd' ru
    cases (show u = Value.ref a from ru)
    exact repr_of_reads' rd hs (fun z => by rw [hn] at z; cases z) gd (by omega) (fun b o e => e) (fun h' u tk k => ⟨.str (PyData.tuple ds).shown, H, J.kept k, ⟨_, rfl⟩, q⟩) hsz
/-! the size of data -/
structure Sz (d : D) (k w : Nat) : Prop where
  lay : d.canLay0 = true
  sml : d.intsShort 13 = true
  shw : d.showable = true
  dep : d.depth ≤ k
  wt : d.weight ≤ w
theorem Sz.mono {d : D} {k w k' w' : Nat} (h : Sz d k w) (hk : k ≤ k') (hw : w ≤ w') : Sz d k' w' := ⟨h.lay, h.sml, h.shw, Nat.le_trans h.dep hk, Nat.le_trans h.wt hw⟩
theorem Sz.none : Sz .none 0 0 := ⟨rfl, rfl, rfl, Nat.le_refl _, Nat.le_refl _⟩
theorem Sz.bool (b : Bool) : Sz (.bool b) 0 0 := ⟨rfl, rfl, rfl, Nat.le_refl _, Nat.le_refl _⟩
theorem log2_small {n : Nat} (h : n < 10 ^ 12) : n.log2 < 40 := by
  by_cases hz : n = 0
  · subst hz; decide
  · exact (Nat.log2_lt hz).mpr (Nat.lt_of_lt_of_le h (by decide))
theorem Sz.int {i : Int} (h : i.natAbs < 10 ^ 12) : Sz (.int i) 0 40 := by
  have l := log2_small h
  refine ⟨rfl, by simp only [PyData.intsShort, decide_eq_true_eq]; exact PyData.shown_int_le h, by simp only [PyData.showable, decide_eq_true_eq]; omega, Nat.le_refl _, ?_⟩
  simp only [PyData.weight]
  split <;> omega
theorem Sz.str {z : Str} {n : Nat} (h : PyData.strOk z = true) (hn : z.cps.size ≤ n) : Sz (.str z) 0 n := ⟨by simpa only [PyData.canLay0] using h, rfl, rfl, Nat.le_refl _, by simpa only [PyData.weight] using hn⟩
theorem Sz.all {k w : Nat} : ∀ {ds : List D}, (∀ d ∈ ds, Sz d k w) → PyData.canLayAll0 ds = true ∧ PyData.intsShortAll 13 ds = true ∧ PyData.showableAll ds = true ∧ PyData.depthAll ds ≤ k ∧ PyData.weightAll ds ≤ ds.length * (w + 1)
  | [], _ => ⟨rfl, rfl, rfl, Nat.zero_le _, Nat.zero_le _⟩
  | d :: r, h => by
    obtain ⟨a1, a2, a3, a4, a5⟩ := h d List.mem_cons_self
    obtain ⟨b1, b2, b3, b4, b5⟩ := Sz.all (ds := r) fun e he => h e (List.mem_cons_of_mem _ he)
    refine ⟨by simp only [PyData.canLayAll0, a1, b1, Bool.and_self], by simp only [PyData.intsShortAll, a2, b2, Bool.and_self], by simp only [PyData.showableAll, a3, b3, Bool.and_self], ?_, ?_⟩
    · simp only [PyData.depthAll]; omega
    · simp only [PyData.weightAll, List.length_cons, Nat.add_mul]; omega
theorem Sz.tup {k w n : Nat} {ds : List D} (h : ∀ d ∈ ds, Sz d k w) (hn : ds.length ≤ n) : Sz (.tuple ds) (k + 1) (n * (w + 1)) := by
  obtain ⟨b1, b2, b3, b4, b5⟩ := Sz.all h
  exact ⟨by simpa only [PyData.canLay0] using b1, by simpa only [PyData.intsShort] using b2, by simpa only [PyData.showable] using b3, by simp only [PyData.depth]; omega, by simp only [PyData.weight]; exact Nat.le_trans b5 (Nat.mul_le_mul_right _ hn)⟩
theorem Sz.list {k w n : Nat} {ds : List D} (h : ∀ d ∈ ds, Sz d k w) (hn : ds.length ≤ n) : Sz (.list ds) (k + 1) (n * (w + 1)) := by
  obtain ⟨b1, b2, b3, b4, b5⟩ := Sz.all h
  exact ⟨by simpa only [PyData.canLay0] using b1, by simpa only [PyData.intsShort] using b2, by simpa only [PyData.showable] using b3, by simp only [PyData.depth]; omega, by simp only [PyData.weight]; exact Nat.le_trans b5 (Nat.mul_le_mul_right _ hn)⟩
theorem Sz.ok {d : D} {k w : Nat} (h : Sz d k w) (hk : k ≤ 60 := by decide) : okD d = true := by
  unfold okD SeqAt.shaped
  rw [h.lay, decide_eq_true (show d.depth ≤ 64 from Nat.le_trans h.dep (by omega))]
  rfl
def repOK (d : D) : Prop := ∃ k w, Sz d k w ∧ k ≤ 60 ∧ w ≤ 1048576
theorem Sz.rep {d : D} {k w : Nat} (h : Sz d k w) (hk : k ≤ 60 := by decide) (hw : w ≤ 1048576 := by decide) : repOK d := ⟨k, w, h, hk, hw⟩
theorem repOK.short {d : D} (h : repOK d) : d.shown.length ≤ sizeLine := by
  obtain ⟨k, w, h, hk, hw⟩ := h
  refine PyData.shown_fits_of_layable0 (B := 13) (by decide) (by decide) ?_ h.sml
  show (PyData.canLay0 d && decide (PyData.depth d ≤ 64) && decide (PyData.weight d ≤ 2 ^ 20)) = true
  rw [h.lay, decide_eq_true (show PyData.depth d ≤ 64 from Nat.le_trans h.dep (by omega)), decide_eq_true (show PyData.weight d ≤ 2 ^ 20 from Nat.le_trans h.wt (by omega))]
  rfl
/-- what is shown of data -/
def oRepr : List D → (D → Prop) → Prop := fun xs Q => match xs with | [d] => repOK d ∧ Q (.str d.shown) | _ => False
theorem ro_repr {K : PySem.W.Frag} : RfVL K (rRepr K) oRepr := ⟨fun R h q k => by
  unfold oRepr at q
  split at q
  · rename_i d
    obtain ⟨v, rfl, z⟩ := h.one
    obtain ⟨r, q⟩ := q
    have sh := r.short
    obtain ⟨dp, w, hz, hk, hw⟩ := r
    exact ⟨v, d, rfl, z.dp hz.lay, hz.shw, PyData.hasDict_of_canLay d hz.lay, Nat.le_trans hz.dep hk, sh, k _ _ _ q (stp_refl R) (.str _)⟩
  · exact q.elim⟩
theorem eqv_same {d : D} (h : okD d = true) : PyData.eqv d d = true := SeqAt.eqv_refl d (okD_lay h)
/-! how comprehensions and loops go -/
/-- one turn of a comprehension gives T -/
def Turns (g : D → Ev → (Ev → Prop) → Prop) (c : Ev → (Bool → Prop) → Prop) (e : Ev → (D → Prop) → Prop) (env : Ev) (d : D) (T : Option D → Prop) : Prop :=
  ∀ R : Option D → Prop, (∀ o, T o → R o) → g d env fun env1 => c env1 fun b => if b = true then e env1 fun x => R (some x) else R none
theorem lc_any {g : D → Ev → (Ev → Prop) → Prop} {c : Ev → (Bool → Prop) → Prop} {e : Ev → (D → Prop) → Prop} {env : Ev} (T : D → Option D → Prop) : ∀ {ds : List D} {Q : List D → Prop}, (∀ d ∈ ds, Turns g c e env d (T d)) →
    (∀ os : List (Option D), Paired T ds os → Q (os.filterMap id)) → lcD g c e ds env Q
  | [], Q, _, q => q [] .nil
  | d :: r, Q, h, q => h d List.mem_cons_self (fun o => match o with | some x => lcD g c e r env fun xs => Q (x :: xs) | none => lcD g c e r env Q) fun o t => by
    have ih : ∀ {Q' : List D → Prop}, (∀ os : List (Option D), Paired T r os → Q' (os.filterMap id)) → lcD g c e r env Q' := fun {Q'} q' => lc_any T (fun d' h' => h d' (List.mem_cons_of_mem _ h')) q'
    cases o with
    | some x => exact ih fun os hp => q (some x :: os) (.cons t hp)
    | none => exact ih fun os hp => q (none :: os) (.cons t hp)
theorem lc_fun {α : Type} {g : D → Ev → (Ev → Prop) → Prop} {c : Ev → (Bool → Prop) → Prop} {e : Ev → (D → Prop) → Prop} {env : Ev} (enc : α → D) (f : α → Option D) : ∀ {as : List α} {Q : List D → Prop},
    (∀ a ∈ as, ∀ R : Option D → Prop, R (f a) → g (enc a) env fun env1 => c env1 fun b => if b = true then e env1 fun x => R (some x) else R none) → Q (as.filterMap f) → lcD g c e (as.map enc) env Q
  | [], Q, _, q => q
  | a :: r, Q, h, q => h a List.mem_cons_self (fun o => match o with | some x => lcD g c e (r.map enc) env fun xs => Q (x :: xs) | none => lcD g c e (r.map enc) env Q) (by
    have ih : ∀ {Q' : List D → Prop}, Q' (r.filterMap f) → lcD g c e (r.map enc) env Q' := fun {Q'} q' => lc_fun enc f (fun d' h' => h d' (List.mem_cons_of_mem _ h')) q'
    cases hf : f a with
    | some x =>
      rw [List.filterMap_cons, hf] at q
      exact ih q
    | none =>
      rw [List.filterMap_cons, hf] at q
      exact ih q)
/-- a loop by what holds ahead of each turn -/
theorem loop_by {g : D → Ev → (Ev → Prop) → Prop} {body : DS} {Ed : Dd} (I : List D → Ev → Prop) (hd : ∀ env, I [] env → Ed.nx env)
    (hs : ∀ d r env (N : Ev → Prop), I (d :: r) env → (∀ env', I r env' → N env') → g d env fun env1 => body { nx := N, ct := N, bk := Ed.nx, rt := Ed.rt } env1) : ∀ ds env, I ds env → loopD g body Ed ds env
  | [], env, h => hd env h
  | d :: r, env, h => hs d r env _ h fun env' h' => loop_by I hd hs r env' h'
theorem zip_map {α β : Type} (f : α → D) (h : β → D) : ∀ (as : List α) (bs : List β), zipD (as.map f) (bs.map h) = (as.zip bs).map fun p => PyData.tuple [f p.1, h p.2]
  | [], _ => by simp [zipD]
  | _ :: _, [] => by simp [zipD]
  | a :: r, b :: s => by
    rw [List.map_cons, List.map_cons, List.zip_cons_cons, List.map_cons, zipD, zip_map f h r s]
theorem bools_map {α : Type} (f : α → Bool) : ∀ as : List α, boolsOf (as.map fun a => PyData.bool (f a)) = some (as.map f)
  | [] => rfl
  | a :: r => by
    rw [List.map_cons, boolsOf, bools_map f r]
    rfl
theorem ints_map {α : Type} (f : α → Int) : ∀ as : List α, intsOf (as.map fun a => PyData.int (f a)) = some (as.map f)
  | [] => rfl
  | a :: r => by
    rw [List.map_cons, intsOf, ints_map f r]
    rfl
theorem fm_some {α β : Type} (f : α → β) : ∀ as : List α, as.filterMap (fun a => some (f a)) = as.map f
  | [] => rfl
  | a :: r => by rw [List.filterMap_cons, List.map_cons, fm_some f r]
/-! enumerate of a tuple -/
def IteT (K : PySem.W.Frag) (a : Addr) : It :=
  ⟨fun i H => ∃ (zs : List V) (x : V), SqT K H a zs ∧ zs[i]? = some x, fun i H v H' => ∃ T x, v = .ref T ∧ H T = none ∧ H' = upd H T (.tup [.int (i : Nat), x]) ∧ ∀ zs, SqT K H a zs → zs[i]? = some x, fun i H => ∃ zs : List V, SqT K H a zs ∧ i = zs.length⟩
theorem tupne {h : Heap} {a it : Addr} {i : Nat} {us : Array Value} (p : h.IsTuple a us) (q : h.IsTupleIter it a i) : a ≠ it := by
  rintro rfl
  obtain ⟨o, e1, c1, _⟩ := p
  obtain ⟨o', e2, c2, _⟩ := q
  rw [e1] at e2
  cases e2
  rw [c1] at c2
  exact absurd c2 (by decide +kernel)
theorem enumne {h : Heap} {a e it : Addr} {k : Int} {old : Value} {us : Array Value} (p : h.IsTuple a us) (q : IsEnum h e it k old) : e ≠ a := by
  rintro rfl
  obtain ⟨o, e1, c1, _⟩ := p
  rw [show h.get? e = _ from q] at e1
  cases e1
  exact absurd (show (Value.type "enumerate") = Value.type "tuple" from c1) (by decide +kernel)
theorem turn_enumT {P : Program} {w : World} {K : PySem.W.Frag} {elts : List Expr} {kk : Nat} {tpos : Pos} (a e it : Addr) :
    Turn P w K (.Tuple elts kk tpos) (IteT K a) [e, it] e (fun i h => (∃ old, IsEnum h e it ((i : Nat) : Int) old) ∧ h.IsTupleIter it a i ∧ e ≠ it) where
  mem := List.mem_cons_self
  obj := fun i h st b hb => by
    obtain ⟨⟨old, he⟩, ⟨o, ho, _, hd⟩, _⟩ := st
    simp only [List.mem_cons, List.not_mem_nil, or_false] at hb
    rcases hb with rfl | rfl
    · exact ⟨_, he, fun v z => nomatch z⟩
    · exact ⟨o, ho, fun v z => by rw [hd] at z; cases z⟩
  keep := fun i h h' ⟨⟨old, he⟩, hi, hne⟩ k => ⟨⟨old, k e (by simp) _ he⟩, hi.at fun o z => k it (by simp) o z, hne⟩
  item := by
    intro X hP hw hK hc i pins s σ H E J hf ⟨⟨old, he⟩, hit, hne⟩ ⟨zs, x, hq, hx⟩
    subst hP hw hK
    obtain ⟨its, rv, p, hz⟩ := J.tuple hq
    have p' : s.heap.IsTuple a its.toArray := p
    obtain ⟨u, hu, ru⟩ := rv.get hx
    have hil : i < its.toArray.size := by rw [List.size_toArray]; exact (List.getElem?_eq_some_iff.mp hu).1
    have lt_e : e < s.heap.objs.size := Heap.lt_size he
    have lt_it : it < s.heap.objs.size := by obtain ⟨_, z, _⟩ := hit; exact Heap.lt_size z
    refine wpAny_pyNext_enum_itemD (PySem.Draws.tuple (prog := X.prog) (w := X.w) (A := X.A.in1) (J.ok.hd hc) it a (tupne p' hit) its.toArray) he ⟨hit, p'⟩ hil hne (by simp only [List.mem_cons, List.not_mem_nil, or_false]; exact fun z => z.elim hne (enumne p' he)) fun x' h1 tk px ho st1 hT hsz hk => ?_
    rw [List.getElem?_toArray, hu] at px
    cases px
    refine ⟨_, rfl, wpAny_letOwnedTupleGo_enum (s := { s with heap := h1, toks := tk + 1 }) ho fun h2 he2 sb => ?_⟩
    have hT2 : h2.get? s.heap.objs.size = some { cls := .type "tuple", data := .seq #[.int i tk, u] } := (sb.2 _ (Nat.ne_of_gt lt_e)).trans hT
    have new : ObjOk X.prog X.w (upd H s.heap.objs.size (.tup [.int (i : Nat), x])) h2 s.heap.objs.size (.tup [.int (i : Nat), x]) := ⟨by show 2 ≤ sizeLine; decide, [.int i tk, u], .cons ⟨_, rfl⟩ (.cons ru .nil), ⟨_, hT2, rfl, _, rfl⟩⟩
    have J2 : Inv X pins σ (upd H s.heap.objs.size (.tup [.int (i : Nat), x])) { s with heap := h2, toks := tk + 1 } :=
      J.turnedNew (ch := [e, it]) (fun b ob hb z => (sb.2 b (fun y => hb (by simp [y]))).trans (hk b ob (fun y => hb (by simp [y])) (fun y => hb (by simp [y])) z)) hf (Nat.le_refl _) new
    refine ⟨.ref s.heap.objs.size, _, J2, rfl, ⟨_, x, rfl, J.hok.fresh (Nat.le_refl _), rfl, fun ys hy => by rw [J.tuple_inj hy hq]; exact hx⟩, ⟨⟨u, ?_⟩, st1.1.at fun o z => (sb.2 it (Ne.symm hne)).trans z, hne⟩, fun b hb => ?_⟩
    · rw [show ((i + 1 : Nat) : Int) = (i : Int) + 1 by omega]
      exact he2
    · have lb : b < s.heap.objs.size := by
        simp only [List.mem_cons, List.not_mem_nil, or_false] at hb
        rcases hb with rfl | rfl
        · exact lt_e
        · exact lt_it
      rw [upd_ne (Nat.ne_of_lt lb)]
      exact (hf b hb).1
  done := by
    intro X hP hw hK hc i pins s σ H E J hf ⟨⟨old, he⟩, hit, hne⟩ ⟨zs, hq, hx⟩
    subst hP hw hK
    obtain ⟨its, rv, p, hz⟩ := J.tuple hq
    have p' : s.heap.IsTuple a its.toArray := p
    obtain ⟨f0, f1, f2, f3, f4, f5⟩ := hf it (by simp)
    have hl := rv.length
    obtain rfl : i = its.toArray.size := by rw [List.size_toArray]; omega
    exact wpAny_pyNext_enum_endD (PySem.Draws.tuple (prog := X.prog) (w := X.w) (A := X.A.in1) (J.ok.hd hc) it a (tupne p' hit) its.toArray) he ⟨hit, p'⟩ fun h1 eb => ⟨rfl, J.turned (t' := s.toks) (fun b o hb z => eb b o hb z) f0 f1 f3 f4 f5⟩
  self := fun A i s Q E st h => let ⟨⟨_, he⟩, _⟩ := st; wpAny_pyIter_enum he h
set_option maxHeartbeats 4000000 in
theorem meets_enumT (a : Addr) (us : Array Value) (o : Obj) (hc : o.cls = .type "tuple") (n : Nat) (hd : o.data = .seq us n) :
    Meets (Builtin.«enumerate.__new__» ⟨[.type "enumerate", .ref a], []⟩) (fun _ R s => s.heap.get? a = some o ∧
      R (.ok (.ret (.ref (s.heap.push { cls := .type "tuple_iterator", data := .fields #[.ref a, .int 0 0] }).objs.size)))
        { s with heap := (s.heap.push { cls := .type "tuple_iterator", data := .fields #[.ref a, .int 0 0] }).push { cls := .type "enumerate", data := .fields #[.none, .bool false, .ref s.heap.objs.size, rawInt 0, .none, .none] } }) :=   .of_wp fun prog w A R s ⟨hl, h⟩ => by
    obtain ⟨hp, g, d, tk, os⟩ := s
    obtain ⟨c, dct, dt, sl⟩ := o
    replace hc : c = .type "tuple" := hc
    replace hd : dt = .seq us n := hd
    subst hc hd
    have hsub := sub_enumerate
    have tp : Heap.IsTuple (Shared.heap ⟨hp, g, d, tk, os⟩) a us := ⟨_, hl, rfl, n, rfl⟩
    wp_walk using AutoSeq1.wpAny_loadPart' hl
    refine wpAny_stack_any fun st => wpAny_pure ?_
    split
    · rename_i c2 _ _ _ _ _
      cases (c2 == Value.type "enumerate") <;> (wp_walk using AutoSeq1.wpAny_loadPart' hl, wpAny_pyIter_tuple tp; exact ⟨_, rfl, h⟩)
    · wp_walk using AutoSeq1.wpAny_loadPart' hl, wpAny_pyIter_tuple tp
      exact ⟨_, rfl, h⟩
theorem call_enumT {prog : Program} {w : World} {A : Around} {E : Value → Shared → Prop} {s : Shared} {a : Addr} {us : Array Value} {Q : Value → Shared → Prop} (hT : s.heap.IsTuple a us)
    (h : ∀ h1, IsEnum h1 (s.heap.objs.size + 1) s.heap.objs.size 0 .none → h1.IsTupleIter s.heap.objs.size a 0 → h1.objs.size = s.heap.objs.size + 2 → (∀ b o, s.heap.get? b = some o → h1.get? b = some o) → Q (.ref (s.heap.objs.size + 1)) { s with heap := h1 }) :
    wpAny (model prog w) A (call (.type "enumerate") [.ref a]) Q E s := by
  obtain ⟨o, hl, hc, n, hd⟩ := hT
  refine callType_new F.called_enumerate (by decide) (F.typeCall_enumerate_1 _) (F.newCall_enumerate_1 _) (fun obj => F.args_object_init_2 obj _) F.entry_enumerate_new (meets_enumT a us o hc n hd) ⟨hl, ?_⟩
  have sz : (s.heap.push { cls := .type "tuple_iterator", data := .fields #[.ref a, .int 0 0] }).objs.size = s.heap.objs.size + 1 := Heap.size_push ..
  show _ ∧ _
  rw [sz]
  have new : IsEnum ((s.heap.push { cls := .type "tuple_iterator", data := .fields #[.ref a, .int 0 0] }).push { cls := .type "enumerate", data := .fields #[.none, .bool false, .ref s.heap.objs.size, rawInt 0, .none, .none] }) (s.heap.objs.size + 1) s.heap.objs.size 0 .none := by
    have z := Heap.get?_push_size (s.heap.push { cls := .type "tuple_iterator", data := .fields #[.ref a, .int 0 0] }) (o := { cls := .type "enumerate", data := .fields #[.none, .bool false, .ref s.heap.objs.size, rawInt 0, .none, .none] }) rfl
    rw [sz] at z
    exact z
  exact ⟨⟨_, new, rfl⟩, h _ new ⟨_, Heap.get?_push_of_some _ (Heap.get?_push_size _ rfl), rfl, rfl⟩ (by rw [Heap.size_push, sz]) fun b o z => Heap.get?_push_of_some _ (Heap.get?_push_of_some _ z)⟩
def iEnumT (K : PySem.W.Frag) (ta : TA) : TI := fun σ H R => ta σ H fun vs H1 => ∃ a zs, vs = [.ref a] ∧ SqT K H1 a zs ∧ R (IteT K a) H1
theorem pi_enumT {X : Cx} {e : Expr} {ta : TA} {p pos tpos : Pos} {elts : List Expr} {kk : Nat} (hg : Gl X "enumerate") (hm : X.mg "enumerate" = none) (ha : PA X [e] ta) (hs : starEach [e] X.env = [(false, eval e X.env)] := by rfl) :
    PI X (.Tuple elts kk tpos) (.Call (.Name "enumerate" p) [e] [] pos) (iEnumT X.K ta) := ⟨fun pins s σ H R J h => by
  refine Call_ (ld_blt J hg hm boot_enumerate (PyProof.Rows.callWith_type1 (thn (ha.run pos pins s σ H _ J h) fun us s2 ⟨vs, H2, J2, r2, a, zs, ex, hq, q⟩ => ?_) hs rfl))
  subst ex
  cases r2 with
  | cons r rr =>
    cases rr
    cases r
    obtain ⟨its, rv, p', hz⟩ := J2.tuple hq
    refine call_enumT p' fun h1 he hit hsz hk => wpAny_pyIter_enum he ?_
    have J3 : Inv X pins σ H2 { s2 with heap := h1 } := J2.kept (t' := s2.toks) hk
    refine ⟨s2.heap.objs.size + 1, [s2.heap.objs.size + 1, s2.heap.objs.size], _, _, H2, rfl, J3, turn_enumT a (s2.heap.objs.size + 1) s2.heap.objs.size, ⟨⟨.none, he⟩, hit, Nat.succ_ne_self _⟩, fun b hb => ?_, q⟩
    have hle : s2.heap.objs.size ≤ b := by
      simp only [List.mem_cons, List.not_mem_nil, or_false] at hb
      rcases hb with rfl | rfl
      · exact Nat.le_succ _
      · exact Nat.le_refl _
    exact J2.fpOk hle (J2.hok.fresh hle)⟩
section
variable {K : PySem.W.Frag}
theorem iteT_ok {a : Addr} {xs : List V} {ds : List D} {M : Addr → Prop} {H : Hp} (h : TupAt K H M a xs) (r : RepL K H M ds xs) : ItOk K (IteT K a) (enumD 0 ds) M H := fun M' H' t al i => by
  have g1 := (h.to t).sq
  refine ⟨fun l => ⟨xs, g1, by rw [enumD_len, r.len] at l; exact l⟩, fun d e => ?_⟩
  obtain ⟨x, e1, rfl⟩ := enumD_get e
  obtain ⟨v, ev, rv⟩ := r.get e1
  refine ⟨⟨xs, v, g1, ev⟩, fun x' H2 ⟨T, x1, z1, z2, z3, z4⟩ => ?_⟩
  subst z1 z3
  have w1 := z4 xs g1
  rw [ev] at w1
  cases w1
  rw [Nat.zero_add]
  exact ⟨same_upd z2, pair_rep z2 al (.int _) (Rep.to t rv)⟩
def dEnumT (da : Ev → (List D → Prop) → Prop) : Ev → (List D → Prop) → Prop := fun env Q => da env fun xs => match xs with | [.tuple a] => Q (enumD 0 a) | _ => False
theorem ri_enumT {n : Nat} {t : TA} {da : Ev → (List D → Prop) → Prop} (h : RfN K n t da) : RfI K (iEnumT K t) (dEnumT da) := ⟨fun R q k => h.run R q fun ds vs H1 q1 _ s1 r1 => by
  split at q1
  · cases r1 with | cons h1 r1 =>
    cases r1
    cases h1 with | tup h1 r1 =>
    exact ⟨_, _, rfl, h1.sq, k _ _ _ q1 s1 (iteT_ok h1 r1)⟩
  · exact q1.elim⟩
/-! two names at once, one of them owning a new list -/
def dParO1 (i j : Nat) (df : Ev → (List D → Prop) → Prop) (de : Ev → (D → Prop) → Prop) : DS := fun Ed env => i < env.length ∧ i ≠ j ∧ df env fun ds => de env fun x => Ed.nx (eset (eset env i (some (.own ds))) j (some (.d x)))
/-- a new list is shut while more is made -/
theorem RE.shut {A : Addr → Prop} {st : Option (Addr × Addr)} {ow : Nat → Option Addr} {σ : L2.St} {H H1 : Hp} {env : Ev} (R : RE K A st ow σ H env) (s1 : Stp st H H1) {L : Addr} {vs : List V} (n : H L = none) (e : H1 L = some (.lst vs)) : RE K (fun b => A b ∨ b = L) st ow σ H1 env := by
  have R1 := R.step s1
  refine ⟨R1.ls, fun a z => z.elim (R1.dom a) fun y => (by rw [y, e]; intro z; cases z), fun q z => ⟨.inl (R1.sta q z).1, .inl (R1.sta q z).2⟩, R1.al, fun j a z y => y.elim (R1.na j a z) fun w => R.al j a z (w ▸ n), R1.inj, R1.tie, R1.len, fun j' e' he' => ?_⟩
  obtain ⟨u, hu, rr⟩ := R.sl j' e' he'
  have t : To H H1 (Mo A ow) (Mo (fun b => A b ∨ b = L) ow) := ⟨fun b o x m => ⟨((R.toS s1).h b o x m).1, fun z => by
    rcases z with (z | z) | z
    · exact m (.inl z)
    · rw [z, n] at x; cases x
    · exact m (.inr z)⟩⟩
  refine ⟨u, hu, ?_⟩
  cases e' with
  | d x => exact Rep.to t rr
  | own ds =>
    obtain ⟨a, vs, h1, h2, h3, h4⟩ := rr
    exact ⟨a, vs, h1, h2, s1.k a _ h3 fun z => R.na j' a h1 (R.exA a z), RepL.to t h4⟩
  | odk ds =>
    obtain ⟨a, vs, h1, h2, h3, h4⟩ := rr
    exact ⟨a, vs, h1, h2, s1.k a _ h3 fun z => R.na j' a h1 (R.exA a z), RepK.to t h4⟩
  | st => exact rr
theorem owPut_fr {A : Addr → Prop} {st : Option (Addr × Addr)} {H0 H : Hp} {ow : Nat → Option Addr} {σ : L2.St} {env : Ev} (B : BE K A st H0 ow σ H env) {i : Nat} {L : Addr} (n : H L = none) : ∀ j a, owPut ow i L j = some a → H0 a = none := fun j a h => by
  unfold owPut at h
  split at h
  · cases h
    cases z : H0 L with
    | none => rfl
    | some o => rw [B.kp L o z fun y => B.r.ls.ne L y n] at n; cases n
  · exact B.fr j a h
theorem rs_parO1 (i j : Nat) {ta tb : TE} {df : Ev → (List D → Prop) → Prop} {de : Ev → (D → Prop) → Prop} (h : RfF K ta df) (hb : RfE K tb de) : RfS K (tPar i j (tCons ta (tCons tb tNil))) (dParO1 i j df de) := ⟨fun {A st H0 ow σ H env Ed E} B ⟨hi, hij, q⟩ k =>
  h.run B.r q fun ds L vs H1 q1 s1 n e r => by
    have nL : L ∉ exs st := fun z => B.r.ls.ne L z n
    have SH := B.r.shut s1 n e
    refine hb.run SH q1 fun x v H2 q2 s2 r2 => ?_
    have e2 : H2 L = some (.lst vs) := s2.k L _ e nL
    have s12 := s1.trans s2
    have t1 := own_to B.r s12 i n
    have sub : ∀ b, Mo A (owPut ow i L) b → Mo (fun b => A b ∨ b = L) ow b := fun b z => (owPut_sub z).elim (fun y => y.elim (fun y => .inl (.inl y)) .inr) fun y => .inl (.inr y)
    have r3 : RepL K H2 (Mo A (owPut ow i L)) ds vs := RepL.to ((to_less (M' := Mo (fun b => A b ∨ b = L) ow) fun b z => by
      rcases z with (z | z) | z
      · exact .inl (.inl z)
      · exact .inr z
      · exact .inl (.inr z)).trans ((SH.toS s2).trans (to_less sub))) r
    have B1 : BE K A st H0 (owPut ow i L) (σ.set i (some (.ref L))) H2 (eset env i (some (.own ds))) :=
      ⟨B.r.own s12 i n e2 (en := .own ds) ⟨L, vs, by unfold owPut; rw [if_pos rfl], rfl, e2, r3⟩ (.inl ⟨ds, rfl⟩) hi, B.kp.trans s12.k, owPut_fr B n⟩
    exact ⟨_, _, rfl, k.nx _ _ _ _ q2 (B1.put j (Rep.to (to_less sub) r2)) (t1.trans (to_del _ _ _ _))⟩⟩
def dParO2 (i j : Nat) (de : Ev → (D → Prop) → Prop) (df : Ev → (List D → Prop) → Prop) : DS := fun Ed env => j < env.length ∧ de env fun x => df env fun ds => Ed.nx (eset (eset env i (some (.d x))) j (some (.own ds)))
theorem rs_parO2 (i j : Nat) {ta tb : TE} {df : Ev → (List D → Prop) → Prop} {de : Ev → (D → Prop) → Prop} (h : RfE K ta de) (hb : RfF K tb df) : RfS K (tPar i j (tCons ta (tCons tb tNil))) (dParO2 i j de df) := ⟨fun {A st H0 ow σ H env Ed E} B ⟨hj, q⟩ k =>
  h.run B.r q fun x v H1 q1 s1 r1 => hb.run (B.r.step s1) q1 fun ds L vs H2 q2 s2 n e r => by
    have s12 := s1.trans s2
    have n0 := s1.none n
    have r1' : Rep K H2 (Mo A ow) x v := Rep.to ((B.r.step s1).toS s2) r1
    -- the slot i first
    have B1 := (B.step s1).put i r1
    have t0 : To H H1 (Mo A ow) (Mo A (owDel ow i)) := (B.r.toS s1).trans (to_del _ _ _ _)
    have t1 := own_to B1.r s2 j n
    have subD : ∀ b, Mo A (owDel ow i) b → Mo A ow b := fun b => Mo.sub fun j a e => (owDel_sub e).1
    refine ⟨_, _, rfl, k.nx _ _ _ _ q2 ⟨B1.r.own s2 j n e (en := .own ds) ⟨L, vs, by unfold owPut; rw [if_pos rfl], rfl, e, RepL.to (to_less fun b z => (owPut_sub z).imp (subD b) id) r⟩ (.inl ⟨ds, rfl⟩) (by unfold eset; rw [List.length_set]; exact hj), B1.kp.trans s2.k, owPut_fr B1 n⟩ (t0.trans t1)⟩⟩
end
theorem enum_map {α : Type} (f : α → D) : ∀ (as : List α) (k : Nat), enumD k (as.map f) = (as.zipIdx k).map fun p => PyData.tuple [.int (p.2 : Nat), f p.1]
  | [], _ => rfl
  | a :: r, k => by
    rw [List.map_cons, List.zipIdx_cons, List.map_cons, enumD, enum_map f r (k + 1)]
section
variable {K : PySem.W.Frag}
/-- a written dict of the top, asked by a text -/
def dKd (tab : List (Str × D)) (db : Ev → (D → Prop) → Prop) : Ev → (D → Prop) → Prop := fun env Q => db env fun y => match y with
  | .str z => (match tab.lookup z with | some d => Q d | none => False)
  | _ => False
theorem look_mem {α : Type} : ∀ {tab : List (Str × α)} {z : Str} {d : α}, tab.lookup z = some d → (z, d) ∈ tab
  | [], _, _, h => by cases h
  | (k, e) :: r, z, d, h => by
    rw [List.lookup_cons] at h
    by_cases c : z = k
    · subst c
      simp at h
      subst h
      exact List.mem_cons_self
    · have : (z == k) = false := by simpa using c
      rw [this] at h
      exact List.mem_cons_of_mem _ (look_mem h)
theorem re_kd {w : World} {a : Addr} {tb : TE} {db : Ev → (D → Prop) → Prop} (tab : List (Str × D)) (ht : ∀ p ∈ tab, ∃ v, KDct K w a p.1 v ∧ Sc p.2 v) (hb : RfB K tb db) : RfE K (tOp (rIxD K w) (tC (.ref a)) tb) (dKd tab db) := ⟨fun R q k =>
  hb.run R q fun y u H1 q1 s1 r1 => by
    split at q1
    · rename_i z
      cases r1.str
      split at q1
      · rename_i d e
        obtain ⟨v, h1, h2⟩ := ht _ (look_mem e)
        exact ⟨a, z, v, rfl, rfl, h1, k d v H1 q1 s1 h2.rep⟩
      · exact q1.elim
    · exact q1.elim⟩
end
theorem cut_lo {α : Type} (xs : List α) {i : Int} (h : 0 ≤ i) : cutD xs none (some i) = xs.take i.toNat := by
  obtain ⟨n, rfl⟩ := Int.eq_ofNat_of_zero_le h
  unfold cutD
  rw [HT.sIx_none, HT.sIx_nat, List.drop_zero, Nat.sub_zero]
  by_cases h2 : n ≤ xs.length
  · rw [Nat.min_eq_left h2]; rfl
  · rw [Nat.min_eq_right (by omega), List.take_length]
    exact (List.take_of_length_le (by omega)).symm
theorem cut_hi {α : Type} (xs : List α) {i : Int} (h : 0 ≤ i) : cutD xs (some i) none = xs.drop i.toNat := by
  obtain ⟨n, rfl⟩ := Int.eq_ofNat_of_zero_le h
  unfold cutD
  rw [HT.sIx_none, HT.sIx_nat]
  by_cases h2 : n ≤ xs.length
  · rw [Nat.min_eq_left h2]
    exact List.take_of_length_le (by rw [List.length_drop]; exact Nat.le_refl _)
  · rw [Nat.min_eq_right (by omega), List.drop_length, Nat.sub_self, List.take_zero]
    exact (List.drop_of_length_le (by omega)).symm
theorem set_cut {α : Type} {xs : List α} {n : Nat} {x : α} (h : n < xs.length) : xs.take n ++ [x] ++ xs.drop (n + 1) = xs.set n x := by
  rw [List.set_eq_take_append_cons_drop, if_pos h, List.append_assoc]
  rfl
theorem decT {p : Prop} [Decidable p] (h : p) : decide p = true := decide_eq_true h
/-- a draw -/
theorem rng_eq (n : Nat) : rng 0 n = (List.range n).map fun i => PyData.int (i : Nat) := by
  unfold rng
  simp
theorem rng_1 : rng 0 (Int.toNat 1) = [.int 0] := rfl
theorem rng_2 : rng 0 (Int.toNat 2) = [.int 0, .int 1] := rfl
theorem rng_3 : rng 0 (Int.toNat 3) = [.int 0, .int 1, .int 2] := rfl
theorem rng_4 : rng 0 (Int.toNat 4) = [.int 0, .int 1, .int 2, .int 3] := rfl
theorem rng_6 : rng 0 (Int.toNat 6) = [.int 0, .int 1, .int 2, .int 3, .int 4, .int 5] := rfl
theorem rng_len (n : Nat) : (rng 0 n).length = n := by unfold rng; rw [List.length_map, List.length_range]
/-- one of a written row -/
theorem dix_all {ds : List D} {r : Int} {Q : D → Prop} (h0 : 0 ≤ r) (h1 : r < ds.length) (h : ∀ d ∈ ds, Q d) : match dix ds r with | some d => Q d | none => False := by
  have hl : r.toNat < ds.length := by omega
  rw [dix_nn h0 (List.getElem?_eq_getElem hl)]
  exact h _ (List.getElem_mem hl)
theorem dix_two {a b : D} {r : Int} {Q : D → Prop} (h0 : 0 ≤ r) (h1 : r < 2) (ha : Q a) (hb : Q b) : match dix [a, b] r with | some d => Q d | none => False :=   dix_all h0 h1 fun d h => by simp at h; rcases h with rfl | rfl <;> assumption
theorem dix_three {a b c : D} {r : Int} {Q : D → Prop} (h0 : 0 ≤ r) (h1 : r < 3) (ha : Q a) (hb : Q b) (hc : Q c) : match dix [a, b, c] r with | some d => Q d | none => False :=   dix_all h0 h1 fun d h => by simp at h; rcases h with rfl | rfl | rfl <;> assumption
/-- one of a written row of numbers -/
theorem dix_ints {ns : List Int} {r : Int} {Q : D → Prop} (h0 : 0 ≤ r) (h1 : r < ns.length) (h : ∀ n ∈ ns, Q (.int n)) : match dix (ns.map PyData.int) r with | some d => Q d | none => False :=   dix_all h0 (by rw [List.length_map]; exact h1) fun d hd => by
    obtain ⟨n, hn, rfl⟩ := List.mem_map.mp hd
    exact h n hn
/-- a row that is drawn item by item -/
theorem lc_draws {g : D → Ev → (Ev → Prop) → Prop} {c : Ev → (Bool → Prop) → Prop} {e : Ev → (D → Prop) → Prop} {env : Ev} (T : D → Prop) {ds : List D} {Q : List D → Prop}
    (h : ∀ d ∈ ds, ∀ R : Option D → Prop, (∀ x, T x → R (some x)) → g d env fun env1 => c env1 fun b => if b = true then e env1 fun x => R (some x) else R none)
    (q : ∀ xs : List D, xs.length = ds.length → (∀ x ∈ xs, T x) → Q xs) : lcD g c e ds env Q := by
  refine lc_any (fun _ o => ∃ x, T x ∧ o = some x) (fun d hd R hR => h d hd R fun x tx => hR _ ⟨x, tx, rfl⟩) fun os hp => ?_
  have key : ∀ {ds : List D} {os : List (Option D)}, Paired (fun (_ : D) o => ∃ x, T x ∧ o = some x) ds os → (os.filterMap id).length = ds.length ∧ ∀ x ∈ os.filterMap id, T x := by
    intro ds os hp
    induction hp with
    | nil => exact ⟨rfl, fun _ h => nomatch h⟩
    | cons t _ ih =>
      obtain ⟨x, tx, rfl⟩ := t
      rw [List.filterMap_cons]
      exact ⟨congrArg (· + 1) ih.1, fun y hy => (List.mem_cons.mp hy).elim (fun z => z ▸ tx) (ih.2 y)⟩
  exact q _ (key hp).1 (key hp).2
/-! sizes of written rows -/
theorem szn {k w : Nat} : ∀ d ∈ ([] : List D), Sz d k w := fun _ h => nomatch h
theorem szc {d : D} {ds : List D} {k w : Nat} (h : Sz d k w) (hs : ∀ d ∈ ds, Sz d k w) : ∀ e ∈ d :: ds, Sz e k w := fun e he => (List.mem_cons.mp he).elim (fun z => z ▸ h) (hs e)
theorem sI {i : Int} {k w : Nat} (h1 : -1000000000000 < i) (h2 : i < 1000000000000) (hw : 40 ≤ w := by decide) : Sz (.int i) k w := (Sz.int (by omega)).mono (Nat.zero_le _) hw
theorem sBl {b : Bool} {k w : Nat} : Sz (.bool b) k w := (Sz.bool b).mono (Nat.zero_le _) (Nat.zero_le _)
theorem sNo {k w : Nat} : Sz .none k w := Sz.none.mono (Nat.zero_le _) (Nat.zero_le _)
theorem sS {z : Str} {k w : Nat} (h : (PyData.strOk z && decide (z.cps.size ≤ 40)) = true) (hw : 40 ≤ w := by decide) : Sz (.str z) k w := by
  rw [Bool.and_eq_true] at h
  exact (Sz.str h.1 (of_decide_eq_true h.2)).mono (Nat.zero_le _) hw
theorem sT {ds : List D} {k w n k' w' : Nat} (h : ∀ d ∈ ds, Sz d k w) (hn : ds.length ≤ n) (hk : k + 1 ≤ k' := by decide) (hw : n * (w + 1) ≤ w' := by decide) : Sz (.tuple ds) k' w' := (Sz.tup h hn).mono hk hw
theorem sL {ds : List D} {k w n k' w' : Nat} (h : ∀ d ∈ ds, Sz d k w) (hn : ds.length ≤ n) (hk : k + 1 ≤ k' := by decide) (hw : n * (w + 1) ≤ w' := by decide) : Sz (.list ds) k' w' := (Sz.list h hn).mono hk hw
/-! isinstance of each kind -/
theorem it_bool_none  : isTy "bool" .none = false := by simp [isTy]
theorem it_bool_bool {x : Bool} : isTy "bool" (.bool x) = true := by simp [isTy]
theorem it_bool_int {x : Int} : isTy "bool" (.int x) = false := by simp [isTy]
theorem it_bool_str {x : Str} : isTy "bool" (.str x) = false := by simp [isTy]
theorem it_bool_list {x : List D} : isTy "bool" (.list x) = false := by simp [isTy]
theorem it_bool_tuple {x : List D} : isTy "bool" (.tuple x) = false := by simp [isTy]
theorem it_bool_dict {x : List (D × D)} : isTy "bool" (.dict x) = false := by simp [isTy]
theorem it_int_none  : isTy "int" .none = false := by simp [isTy]
theorem it_int_bool {x : Bool} : isTy "int" (.bool x) = true := by simp [isTy]
theorem it_int_int {x : Int} : isTy "int" (.int x) = true := by simp [isTy]
theorem it_int_str {x : Str} : isTy "int" (.str x) = false := by simp [isTy]
theorem it_int_list {x : List D} : isTy "int" (.list x) = false := by simp [isTy]
theorem it_int_tuple {x : List D} : isTy "int" (.tuple x) = false := by simp [isTy]
theorem it_int_dict {x : List (D × D)} : isTy "int" (.dict x) = false := by simp [isTy]
theorem it_str_none  : isTy "str" .none = false := by simp [isTy]
theorem it_str_bool {x : Bool} : isTy "str" (.bool x) = false := by simp [isTy]
theorem it_str_int {x : Int} : isTy "str" (.int x) = false := by simp [isTy]
theorem it_str_str {x : Str} : isTy "str" (.str x) = true := by simp [isTy]
theorem it_str_list {x : List D} : isTy "str" (.list x) = false := by simp [isTy]
theorem it_str_tuple {x : List D} : isTy "str" (.tuple x) = false := by simp [isTy]
theorem it_str_dict {x : List (D × D)} : isTy "str" (.dict x) = false := by simp [isTy]
theorem it_list_none  : isTy "list" .none = false := by simp [isTy]
theorem it_list_bool {x : Bool} : isTy "list" (.bool x) = false := by simp [isTy]
theorem it_list_int {x : Int} : isTy "list" (.int x) = false := by simp [isTy]
theorem it_list_str {x : Str} : isTy "list" (.str x) = false := by simp [isTy]
theorem it_list_list {x : List D} : isTy "list" (.list x) = true := by simp [isTy]
theorem it_list_tuple {x : List D} : isTy "list" (.tuple x) = false := by simp [isTy]
theorem it_list_dict {x : List (D × D)} : isTy "list" (.dict x) = false := by simp [isTy]
theorem it_tuple_none  : isTy "tuple" .none = false := by simp [isTy]
theorem it_tuple_bool {x : Bool} : isTy "tuple" (.bool x) = false := by simp [isTy]
theorem it_tuple_int {x : Int} : isTy "tuple" (.int x) = false := by simp [isTy]
theorem it_tuple_str {x : Str} : isTy "tuple" (.str x) = false := by simp [isTy]
theorem it_tuple_list {x : List D} : isTy "tuple" (.list x) = false := by simp [isTy]
theorem it_tuple_tuple {x : List D} : isTy "tuple" (.tuple x) = true := by simp [isTy]
theorem it_tuple_dict {x : List (D × D)} : isTy "tuple" (.dict x) = false := by simp [isTy]
theorem it_dict_none  : isTy "dict" .none = false := by simp [isTy]
theorem it_dict_bool {x : Bool} : isTy "dict" (.bool x) = false := by simp [isTy]
theorem it_dict_int {x : Int} : isTy "dict" (.int x) = false := by simp [isTy]
theorem it_dict_str {x : Str} : isTy "dict" (.str x) = false := by simp [isTy]
theorem it_dict_list {x : List D} : isTy "dict" (.list x) = false := by simp [isTy]
theorem it_dict_tuple {x : List D} : isTy "dict" (.tuple x) = false := by simp [isTy]
theorem it_dict_dict {x : List (D × D)} : isTy "dict" (.dict x) = true := by simp [isTy]
theorem eqv_nf {a b : D} (hb : okD b = true) (e : a = b) : ¬ PyData.eqv a b = false := by
  subst e
  rw [eqv_same hb]
  exact Bool.noConfusion
theorem ite_nf {a b : D} {X Y : Prop} (hb : okD b = true) (e : a = b) (h : Y) : if PyData.eqv a b = false then X else Y := by
  rw [if_neg (eqv_nf hb e)]
  exact h
theorem bool_eqv {a b : D} (hb : okD b = true) (e : a = b) : PyData.bool (PyData.eqv a b) = PyData.bool true := by
  subst e
  rw [eqv_same hb]
/-! a list of two new lists, each of which is changed once, at one place -/
def dTwo (i k f : Nat) (dt : Ev → (D → Prop) → Prop) (b : DS) : DS := fun Ed env => isOwn env i = false ∧ i < env.length ∧ k ≠ i ∧ f ≠ i ∧ (match eget env k, eget env f with
  | some (.d x), some (.d (.int n)) => (match seqOf x with
    | some ds => dt (eset env i none) fun y => (match y with
      | .tuple [p, q] => ∃ j, ixN ds.length n = some j ∧ b Ed (eset env i (some (.d (.list [.list (ds.set j p), .list (ds.set j q)]))))
      | _ => False)
    | none => False)
  | _, _ => False)
section
variable {K : PySem.W.Frag}
theorem rs_two (i k f : Nat) {tt : TE} {u : TS} {dt : Ev → (D → Prop) → Prop} {b : DS} (ht : RfE K tt dt) (hu : RfS K u b) :
    RfS K (tSeq (tAsg (tLst (tCons (tCB (fun xs H Q => ∃ p ys, xs = [.ref p] ∧ (SqL K H p ys ∨ SqT K H p ys) ∧ ∀ l, H l = none → Q (.ref l) (upd H l (.lst ys))) (tCons (tVar k) tNil)) (tCons (tCB (fun xs H Q => ∃ p ys, xs = [.ref p] ∧ (SqL K H p ys ∨ SqT K H p ys) ∧ ∀ l, H l = none → Q (.ref l) (upd H l (.lst ys))) (tCons (tVar k) tNil)) tNil))) (gName i))
      (tSeq (tAsg tt (gTup K 2 (gCons (gSub (tOp (rIx K) (tVar i) (tC (.int 0))) (tVar f) rSetL) (gCons (gSub (tOp (rIx K) (tVar i) (tC (.int 1))) (tVar f) rSetL) gNil)))) u)) (dTwo i k f dt b) := ⟨fun {A st H0 ow σ H env Ed E} B q kk => by
  obtain ⟨q0, qi, qk, qf, q⟩ := q
  have R := B.r
  split at q
  · rename_i x n ek ef
    split at q
    · rename_i ds es
      obtain ⟨v, hv, rk⟩ := R.sl k _ (eget_some ek)
      obtain ⟨w, hw, rf⟩ := R.sl f _ (eget_some ef)
      cases rf
      obtain ⟨a, xs, rfl, hs, rl⟩ := (RepB.r (A := A) rk).seq es
      refine ⟨_, hv, a, xs, rfl, hs, fun L0 n0 => ?_⟩
      have s0 : Same H (upd H L0 (.lst xs)) := same_upd n0
      have hs1 : SqL K (upd H L0 (.lst xs)) a xs ∨ SqT K (upd H L0 (.lst xs)) a xs := by
        rcases hs with (h | h) | (h | h)
        · exact .inl (.inl (h.imp (s0 _ _) fun ⟨o, z⟩ => ⟨o, s0 _ _ z⟩))
        · exact .inl (.inr h)
        · exact .inr (.inl (h.imp (s0 _ _) fun ⟨o, z⟩ => ⟨o, s0 _ _ z⟩))
        · exact .inr (.inr h)
      refine ⟨_, hv, a, xs, rfl, hs1, fun L1 n1 => ?_⟩
      have s1 : Same H (upd (upd H L0 (.lst xs)) L1 (.lst xs)) := fun b o e => same_upd n1 b o (s0 b o e)
      have e01 : L1 ≠ L0 := fun z => by rw [z, upd_same] at n1; cases n1
      have n1' : H L1 = none := by rw [upd_ne e01] at n1; exact n1
      refine ⟨Nat.le_of_ble_eq_true rfl, fun L nL => ?_⟩
      have e0L : L ≠ L1 := fun z => by rw [z, upd_same] at nL; cases nL
      have e1L : L ≠ L0 := fun z => by rw [z, upd_ne e01.symm, upd_same] at nL; cases nL
      have nL' : H L = none := by rw [upd_ne e0L, upd_ne e1L] at nL; exact nL
      have s3 : Same H (upd (upd (upd H L0 (.lst xs)) L1 (.lst xs)) L (.lst [.ref L0, .ref L1])) := fun b o e => same_upd nL b o (s1 b o e)
      have hL3 : (upd (upd (upd H L0 (.lst xs)) L1 (.lst xs)) L (.lst [.ref L0, .ref L1])) L = some (.lst [.ref L0, .ref L1]) := upd_same
      have hA3 : (upd (upd (upd H L0 (.lst xs)) L1 (.lst xs)) L (.lst [.ref L0, .ref L1])) L0 = some (.lst xs) := by rw [upd_ne e1L.symm, upd_ne e01.symm, upd_same]
      have hB3 : (upd (upd (upd H L0 (.lst xs)) L1 (.lst xs)) L (.lst [.ref L0, .ref L1])) L1 = some (.lst xs) := by rw [upd_ne e0L.symm, upd_same]
      generalize upd (upd (upd H L0 (.lst xs)) L1 (.lst xs)) L (.lst [.ref L0, .ref L1]) = H3 at s3 hL3 hA3 hB3
      have st3 : Stp st H H3 := .same R.ls s3
      have owi : ow i = none := by
        cases z : ow i with
        | none => rfl
        | some p =>
          unfold isOwn at q0
          rcases R.tie i p z with ⟨ds, e⟩ | ⟨ds, e⟩ <;> (rw [some_eget e] at q0; cases q0)
      have nx : ∀ c, (c = L0 ∨ c = L1 ∨ c = L) → H c = none := by
        rintro c (rfl | rfl | rfl) <;> assumption
      have tA : To H H3 (Mo A ow) (Mo (fun c => A c ∨ (c = L0 ∨ c = L1 ∨ c = L)) ow) := ⟨fun c o e m => ⟨s3 c o e, fun z => by
        rcases z with (z | z) | z
        · exact m (.inl z)
        · rw [nx c z] at e; cases e
        · exact m (.inr z)⟩⟩
      have R3 : RE K (fun c => A c ∨ (c = L0 ∨ c = L1 ∨ c = L)) st ow (σ.set i (some (.ref L))) H3 (eset env i none) := by
        have Rs := R.step st3
        refine ⟨st3.l, fun c hc => ?_, fun z e => ⟨.inl (R.sta z e).1, .inl (R.sta z e).2⟩, Rs.al, fun j c e hc => ?_, R.inj, fun j c e => ?_, by unfold eset; rw [List.length_set, List.length_set]; exact R.len, fun j e he => ?_⟩
        · rcases hc with hc | rfl | rfl | rfl
          · exact Rs.dom c hc
          · rw [hA3]; intro z; cases z
          · rw [hB3]; intro z; cases z
          · rw [hL3]; intro z; cases z
        · rcases hc with hc | hc
          · exact R.na j c e hc
          · exact R.al j c e (nx c hc)
        · have hj : i ≠ j := fun z => by rw [← z, owi] at e; cases e
          unfold eset
          rw [List.getElem?_set_ne hj]
          exact R.tie j c e
        · unfold eset at he
          by_cases hj : i = j
          · subst hj
            rw [List.getElem?_set_self qi] at he
            cases he
          · rw [List.getElem?_set_ne hj] at he
            obtain ⟨y, hy, r⟩ := R.sl j e he
            refine ⟨y, by rw [List.getElem?_set_ne hj]; exact hy, ?_⟩
            cases e with
            | d x => exact Rep.to tA r
            | own es =>
              obtain ⟨c, vs, h1, h2, h3, h4⟩ := r
              exact ⟨c, vs, h1, h2, s3 c _ h3, RepL.to tA h4⟩
            | odk es =>
              obtain ⟨c, vs, h1, h2, h3, h4⟩ := r
              exact ⟨c, vs, h1, h2, s3 c _ h3, RepK.to tA h4⟩
            | st => exact r
      refine ht.run R3 q fun d v H4 q4 s4 r4 => ?_
      split at q4
      · rename_i y p pq
        obtain ⟨j, ej, q5⟩ := q4
        have ex : ∀ c, H c = none → c ∉ exs st := fun c z m => R.ls.ne c m z
        have hL4 : H4 L = some (.lst [.ref L0, .ref L1]) := s4.k _ _ hL3 (ex _ nL')
        have hA4 : H4 L0 = some (.lst xs) := s4.k _ _ hA3 (ex _ n0)
        have hB4 : H4 L1 = some (.lst xs) := s4.k _ _ hB3 (ex _ n1')
        have ilen : i < σ.length := by rw [R.len]; exact qi
        have vi : (σ.set i (some (V.ref L)))[i]? = some (some (.ref L)) := List.getElem?_set_self ilen
        have vf : (σ.set i (some (V.ref L)))[f]? = some (some (.int n)) := by rw [List.getElem?_set_ne qf.symm]; exact hw
        have ej' : ixN xs.length n = some j := by rw [← rl.len]; exact ej
        cases r4 with
        | tup h r =>
        cases r with | cons rp r =>
        cases r with | cons rq r =>
        cases r
        rename_i c vp vq
        refine ⟨c, _, rfl, h.sq, rfl, vp, _, rfl, ?_⟩
        refine ⟨_, vi, .inl ⟨L, _, 0, .ref L0, rfl, rfl, SqL.of hL4, rfl, ?_⟩⟩
        refine ⟨_, vf, L0, xs, n, j, rfl, rfl, hA4, ej', vq, _, rfl, ?_⟩
        have hL5 : (upd H4 L0 (.lst (xs.set j vp))) L = some (.lst [.ref L0, .ref L1]) := by rw [upd_ne e1L]; exact hL4
        have hB5 : (upd H4 L0 (.lst (xs.set j vp))) L1 = some (.lst xs) := by rw [upd_ne e01]; exact hB4
        refine ⟨_, vi, .inl ⟨L, _, 1, .ref L1, rfl, rfl, SqL.of hL5, rfl, ?_⟩⟩
        refine ⟨_, vf, L1, xs, n, j, rfl, rfl, hB5, ej', rfl, ?_⟩
        have hLf : (upd (upd H4 L0 (.lst (xs.set j vp))) L1 (.lst (xs.set j vq))) L = some (.lst [.ref L0, .ref L1]) := by rw [upd_ne e0L]; exact hL5
        have hAf : (upd (upd H4 L0 (.lst (xs.set j vp))) L1 (.lst (xs.set j vq))) L0 = some (.lst (xs.set j vp)) := by rw [upd_ne e01.symm, upd_same]
        have hBf : (upd (upd H4 L0 (.lst (xs.set j vp))) L1 (.lst (xs.set j vq))) L1 = some (.lst (xs.set j vq)) := upd_same
        have oth : ∀ c, c ≠ L0 → c ≠ L1 → (upd (upd H4 L0 (.lst (xs.set j vp))) L1 (.lst (xs.set j vq))) c = H4 c := fun c h0 h1 => by rw [upd_ne h1, upd_ne h0]
        generalize upd (upd H4 L0 (.lst (xs.set j vp))) L1 (.lst (xs.set j vq)) = Hf at hLf hAf hBf oth
        have st4 : Stp st H H4 := st3.trans s4
        have stf : Stp st H Hf := by
          refine ⟨fun c o e m => ?_, fun z e => ?_⟩
          · rw [oth c (fun w => by rw [w, n0] at e; cases e) (fun w => by rw [w, n1'] at e; cases e)]
            exact st4.k c o e m
          · obtain ⟨kk, ns, l1, l2, l3⟩ := st4.l z e
            have d1 : H z.1 ≠ none := R.ls.ne _ (by subst e; simp [exs])
            have d2 : H z.2 ≠ none := R.ls.ne _ (by subst e; simp [exs])
            exact ⟨kk, ns, by rw [oth _ (fun w => d1 (by rw [w]; exact n0)) (fun w => d1 (by rw [w]; exact n1'))]; exact l1, by rw [oth _ (fun w => d2 (by rw [w]; exact n0)) (fun w => d2 (by rw [w]; exact n1'))]; exact l2, l3⟩
        have t4 : To H4 Hf (Mo (fun c => A c ∨ (c = L0 ∨ c = L1 ∨ c = L)) ow) (Mo A ow) := ⟨fun c o e m => by
          have h0 : c ≠ L0 := fun z => m (.inl (.inr (.inl z)))
          have h1 : c ≠ L1 := fun z => m (.inl (.inr (.inr (.inl z))))
          refine ⟨by rw [oth c h0 h1]; exact e, fun z => ?_⟩
          rcases z with z | z
          · exact m (.inl (.inl z))
          · exact m (.inr z)⟩
        have ra : RepL K Hf (Mo A ow) ds xs := RepL.to (R.toS stf) rl
        have rep : Rep K Hf (Mo A ow) (.list [.list (ds.set j p), .list (ds.set j pq)]) (.ref L) :=
          .lst hLf (R.newM nL') (.cons (.lst hAf (R.newM n0) (ra.set j (Rep.to t4 rp))) (.cons (.lst hBf (R.newM n1') (ra.set j (Rep.to t4 rq))) .nil))
        have Bf := (B.step stf).put i rep
        exact hu.run Bf q5 (kk.to ((R.toS stf).trans (to_del Hf A ow i)))
      · exact q4.elim
    · exact q.elim
  · exact q.elim⟩
end
/-! dicts whose keys are ints and texts -/
def keyOf : D → Option Key
  | .int i => some (.inl i)
  | .str s => some (.inr s)
  | _ => none
theorem KeyD.of {k : D} {q : Key} (h : KeyD k q) : keyOf k = some q := by cases h <;> rfl
theorem keyD_of {k : D} {q : Key} (h : keyOf k = some q) : KeyD k q := by
  unfold keyOf at h
  split at h
  · cases h; exact .int _
  · cases h; exact .str _
  · cases h
def lookD : List (D × D) → Key → Option D
  | [], _ => none
  | (k, d) :: r, q => if keyOf k = some q then some d else lookD r q
def anyD (kvs : List (D × D)) (q : Option Key) : Bool := kvs.any fun p => decide (keyOf p.1 = q)
def putD (kvs : List (D × D)) (k d : D) : List (D × D) := if anyD kvs (keyOf k) = true then kvs.map (fun p => if keyOf p.1 = keyOf k then (p.1, d) else p) else kvs ++ [(k, d)]
section
variable {K : PySem.W.Frag} {H : Hp} {A : Addr → Prop}
theorem RepK.len : ∀ {ds : List (D × D)} {us : List (Key × V)}, RepK K H A ds us → ds.length = us.length
  | _, _, .nil => rfl
  | _, _, .cons _ _ r => congrArg (· + 1) r.len
theorem RepK.app : ∀ {ds es : List (D × D)} {us ws : List (Key × V)}, RepK K H A ds us → RepK K H A es ws → RepK K H A (ds ++ es) (us ++ ws)
  | _, _, _, _, .nil, h => h
  | _, _, _, _, .cons k h r, g => .cons k h (r.app g)
theorem RepK.any : ∀ {ds : List (D × D)} {us : List (Key × V)} (q : Key), RepK K H A ds us → anyD ds (some q) = us.any fun kv => decide (kv.1 = q)
  | _, _, _, .nil => rfl
  | _, _, q, .cons (k := k) (q := q') hk _ r => by
    have ih := r.any q
    unfold anyD at ih ⊢
    rw [List.any_cons, List.any_cons, ih, hk.of]
    congr 1
    simp
theorem RepK.setAll : ∀ {ds : List (D × D)} {us : List (Key × V)} {q : Key} {d : D} {v : V}, RepK K H A ds us → Rep K H A d v →
    RepK K H A (ds.map fun p => if keyOf p.1 = some q then (p.1, d) else p) (us.map fun kv => if kv.1 = q then (kv.1, v) else kv)
  | _, _, _, _, _, .nil, _ => .nil
  | _, _, q, d, v, .cons (k := k) (q := q') hk h r, g => by
    have ih := r.setAll (q := q) g
    rw [List.map_cons, List.map_cons]
    by_cases e : q' = q
    · rw [if_pos (by rw [hk.of, e]), if_pos e]
      exact .cons hk g ih
    · rw [if_neg (by rw [hk.of]; exact fun z => e (Option.some.inj z)), if_neg e]
      exact .cons hk h ih
theorem RepK.put {ds : List (D × D)} {us : List (Key × V)} {k d : D} {q : Key} {v : V} (r : RepK K H A ds us) (hk : KeyD k q) (h : Rep K H A d v) : RepK K H A (putD ds k d) (putK us q v) := by
  unfold putD putK
  rw [hk.of, r.any q]
  split
  · exact r.setAll h
  · exact r.app (.cons hk h .nil)
theorem RepK.look : ∀ {ds : List (D × D)} {us : List (Key × V)} (q : Key), RepK K H A ds us → (∀ d, lookD ds q = some d → ∃ v, valV us q = some v ∧ Rep K H A d v) ∧ (lookD ds q = none → valV us q = none)
  | _, _, _, .nil => ⟨fun _ h => (nomatch h), fun _ => rfl⟩
  | _, _, q, .cons (k := k) (d := d0) (q := q') (v := v0) (ds := ds) (us := us) hk h r => by
    have ih := r.look q
    by_cases e : q' = q
    · have e1 : lookD ((k, d0) :: ds) q = some d0 := by unfold lookD; rw [if_pos (by rw [hk.of, e])]
      rw [e1]
      exact ⟨fun d z => ⟨v0, valV_pos e, (Option.some.inj z) ▸ h⟩, fun z => by cases z⟩
    · have e1 : lookD ((k, d0) :: ds) q = lookD ds q := by rw [lookD, if_neg (by rw [hk.of]; exact fun z => e (Option.some.inj z))]
      rw [e1, valV_neg e]
      exact ih
end
theorem putD_len (kvs : List (D × D)) (k d : D) : (putD kvs k d).length ≤ kvs.length + 1 := by
  unfold putD
  split
  · rw [List.length_map]; omega
  · rw [List.length_append]; exact Nat.le_refl _
/-- a term that makes a new dict -/
structure RfK (K : PySem.W.Frag) (t : TE) (df : Ev → (List (D × D) → Prop) → Prop) : Prop where
  run : ∀ {A : Addr → Prop} {st : Option (Addr × Addr)} {ow : Nat → Option Addr} {σ : L2.St} {H : Hp} {env : Ev} {Qd : List (D × D) → Prop} {Q : VK},
  RE K A st ow σ H env → df env Qd → (∀ ds a us H', Qd ds → Stp st H H' → H a = none → H' a = some (.dK us) → RepK K H' (fun b => Mo A ow b ∨ b = a) ds us → Q (.ref a) H') → t σ H Q
def dK (df : Ev → (List (D × D) → Prop) → Prop) : Ev → (D → Prop) → Prop := fun env Q => df env fun ds => Q (.dict ds)
def dcD (g : D → Ev → (Ev → Prop) → Prop) (c : Ev → (Bool → Prop) → Prop) (ek ev : Ev → (D → Prop) → Prop) : List D → Ev → List (D × D) → (List (D × D) → Prop) → Prop
  | [], _, acc, Q => Q acc
  | d :: r, env, acc, Q => g d env fun env1 => c env1 fun b => if b = true then ek env1 fun kd => (keyOf kd).isSome = true ∧ ev env1 fun x => dcD g c ek ev r env (putD acc kd x) Q else dcD g c ek ev r env acc Q
def dDc (vs : List Nat) (di : Ev → (List D → Prop) → Prop) (g : D → Ev → (Ev → Prop) → Prop) (c : Ev → (Bool → Prop) → Prop) (ek ev : Ev → (D → Prop) → Prop) : Ev → (List (D × D) → Prop) → Prop :=
  fun env Q => noOwn vs env = true ∧ di env fun ds => ds.length ≤ 100000 ∧ dcD g c ek ev ds (wipeE env vs) [] Q
section
variable {K : PySem.W.Frag}
theorem RfK.e {t : TE} {df : Ev → (List (D × D) → Prop) → Prop} (h : RfK K t df) : RfE K t (dK df) := ⟨fun R q k => h.run R q fun ds a us H' q' s n e r => k _ _ _ q' s (.dct e (R.newM n) (RepK.to ⟨fun b o x y => ⟨x, fun z => y (.inl z)⟩⟩ r))⟩
theorem rk_dc {vs is : List Nat} {wi : TI} {tg : TG} {tt : TT} {tk tv : TE} {di : Ev → (List D → Prop) → Prop} {g : D → Ev → (Ev → Prop) → Prop} {c : Ev → (Bool → Prop) → Prop} {ek ev : Ev → (D → Prop) → Prop}
    (hi : RfI K wi di) (hg : RfG K is tg g) (hc : RfT K tt c) (hk : RfE K tk ek) (he : RfE K tv ev) (his : ∀ i ∈ is, i ∈ vs := by decide) : RfK K (tDc wi tg tt tk tv vs) (dDc vs di g c ek ev) := ⟨fun {A st ow σ H env Qd Q} R q0 k =>
  hi.run R q0.2 fun ds J H1 ⟨hl, q1⟩ s1 J1 L hL => by
    have hno := R.noOwn q0.1
    have R1 := R.step s1
    have nM := R1.newM hL
    let A' : Addr → Prop := fun a => A a ∨ a = L
    have toA : ∀ {H' : Hp}, To H1 (upd H1 L (.dK [])) (Mo A ow) (Mo A' ow) := new_to hL fun a z => by
      rcases z with (z | z) | z
      · exact .inl (.inl z)
      · exact .inr z
      · exact .inl (.inr z)
    have fw : ∀ a, Mo A ow a → Mo A' ow a := fun a z => z.elim (fun z => .inl (.inl z)) .inr
    have fwL : Mo A' ow L := .inl (.inr rfl)
    refine ⟨fun i m H' => m = ds.length - i ∧ i ≤ ds.length ∧ ∃ acc xs, H' L = some (.dK xs) ∧ xs.length ≤ i ∧ RepK K H' (Mo A' ow) acc xs ∧ RE K A' st ow (wipe σ vs) H' (wipeE env vs) ∧ Keep (exs st) H H' ∧ To H1 H' (Mo A ow) (Mo A' ow) ∧ LSo st H' ∧
      dcD g c ek ev (ds.drop i) (wipeE env vs) acc Qd, ⟨_, rfl, Nat.zero_le _, [], [], upd_same, Nat.zero_le _, .nil, ?_, ?_, toA (H' := H1), ?_, ?_⟩, ?_⟩
    · have RR := (R1.wipes vs hno)
      have S1 : Stp st H1 (upd H1 L (.dK [])) := R1.new hL
      have RS := RR.step S1
      refine ⟨RS.ls, fun a z => ?_, fun z e => ⟨.inl (RS.sta z e).1, .inl (RS.sta z e).2⟩, RS.al, fun j a e z => ?_, RS.inj, RS.tie, RS.len, fun j e' he' => ?_⟩
      · rcases z with z | rfl
        · exact RS.dom a z
        · rw [upd_same]; intro z; cases z
      · rcases z with z | rfl
        · exact RS.na j a e z
        · exact R1.al j _ e hL
      · obtain ⟨v, hv, r⟩ := RR.sl j e' he'
        refine ⟨v, hv, ?_⟩
        have t : To H1 (upd H1 L (.dK [])) (Mo A ow) (Mo A' ow) := toA (H' := H1)
        cases e' with
        | d x => exact Rep.to t r
        | own ds =>
          obtain ⟨a, vs, h1, h2, h3, h4⟩ := r
          exact ⟨a, vs, h1, h2, same_upd hL _ _ h3, RepL.to t h4⟩
        | odk ds =>
          obtain ⟨a, vs, h1, h2, h3, h4⟩ := r
          exact ⟨a, vs, h1, h2, same_upd hL _ _ h3, RepK.to t h4⟩
        | st => exact r
    · exact s1.k.trans fun b o z n => same_upd hL b o z
    · exact s1.l.same (same_upd hL)
    · exact q1
    · rintro i m H' ⟨rfl, hi, acc, xs, hx, hxl, rx, RR, kk, tt', ll, qq⟩
      have al : ∀ a, Mo A' ow a → H' a ≠ none := fun a z => RR.alM z
      by_cases hlt : i < ds.length
      · have eD : ds[i]? = some ds[i] := List.getElem?_eq_getElem hlt
        rw [drop_get eD] at qq
        obtain ⟨go, yl⟩ := (J1 (Mo A' ow) H' tt' al i).2 _ eD
        refine .inr ⟨go, fun H2 => ∃ acc xs, H2 L = some (.dK xs) ∧ xs.length ≤ i + 1 ∧ RepK K H2 (Mo A' ow) acc xs ∧ RE K A' st ow (wipe σ vs) H2 (wipeE env vs) ∧ Keep (exs st) H H2 ∧ To H1 H2 (Mo A ow) (Mo A' ow) ∧ LSo st H2 ∧
          dcD g c ek ev (ds.drop (i + 1)) (wipeE env vs) acc Qd, fun H2 z => ⟨_, by omega, rfl, hlt, z⟩, fun x H2 y => ?_⟩
        obtain ⟨sm, rx1⟩ := yl x H2 y
        have S2 : Stp st H' H2 := .same ll sm
        have RR2 := RR.step S2
        refine hg.run RR2 rx1 qq fun env3 ow3 σ3 q3 R3 sub3 w3 => ⟨(w3 vs his).1.trans wipe_idem, ?_⟩
        have eo : ow = ow3 := funext fun j => by
          by_cases hj : j ∈ vs
          · cases e : ow3 j with
            | none => exact hno j hj
            | some a => exact sub3 j a e
          · exact ((w3 vs his).2 j hj).symm
        subst eo
        refine hc.run R3 q3 fun b H4 q4 s4 => ?_
        have R4 := R3.step s4
        have exL : ∀ a ∈ exs st, a ≠ L := fun a z e' => by
          subst e'
          exact R1.ls.ne _ z hL
        have L4 : H4 L = some (.dK xs) := s4.k L _ (sm L _ hx) fun z => exL L z rfl
        have S4 : Stp st H' H4 := ⟨S2.k.trans s4.k, s4.l⟩
        have RR4 := RR.step S4
        have t4 : To H' H4 (Mo A' ow) (Mo A' ow) := RR.toS S4
        have kH4 : Keep (exs st) H H4 := kk.trans S4.k
        have tH4 : To H1 H4 (Mo A ow) (Mo A' ow) := tt'.trans t4
        cases b with
        | false =>
          rw [if_neg Bool.false_ne_true] at q4 ⊢
          exact ⟨acc, xs, L4, Nat.le_succ_of_le hxl, RepK.to t4 rx, RR4, kH4, tH4, s4.l, q4⟩
        | true =>
          rw [if_pos rfl] at q4 ⊢
          refine hk.run R4 q4 fun kd vk H5 q5 s5 r5 => ?_
          obtain ⟨qk, q5⟩ := q5
          have R5 := R4.step s5
          refine he.run R5 q5 fun d v H6 q6 s6 r6 => ?_
          have L5 : H6 L = some (.dK xs) := s6.k L _ (s5.k L _ L4 fun z => exL L z rfl) fun z => exL L z rfl
          have S5 : Stp st H' H6 := ⟨S4.k.trans (s5.k.trans s6.k), s6.l⟩
          have RR5 := RR.step S5
          have t5 : To H' H6 (Mo A' ow) (Mo A' ow) := RR.toS S5
          have len5 : xs.length < sizeLine := Nat.lt_of_le_of_lt hxl (Nat.lt_of_lt_of_le hlt (Nat.le_trans hl (by decide)))
          have nL5 : ∀ {b : Addr} {o : HO}, H6 b = some o → ¬ Mo A' ow b → b ≠ L := fun _ n z => n (z ▸ fwL)
          obtain ⟨kq, ekq⟩ := Option.isSome_iff_exists.mp qk
          have hkd := keyD_of ekq
          have evk : vk = kV kq := by
            cases hkd with
            | int i => cases r5; rfl
            | str i => cases r5; rfl
          have t6 : To H6 (upd H6 L (.dK (putK xs kq v))) (Mo A' ow) (Mo A' ow) := ⟨fun b o e' n => ⟨by rw [upd_ne (nL5 e' n)]; exact e', n⟩⟩
          have l6 : LSo st (upd H6 L (.dK (putK xs kq v))) := fun z e' => by
            obtain ⟨kk', ns, l1, l2, l3⟩ := s6.l z e'
            have m1 : z.1 ≠ L := exL _ (by subst e'; simp [exs])
            have m2 : z.2 ≠ L := exL _ (by subst e'; simp [exs])
            exact ⟨kk', ns, by rw [upd_ne m1]; exact l1, by rw [upd_ne m2]; exact l2, l3⟩
          have k6 : Keep [L] H6 (upd H6 L (.dK (putK xs kq v))) := fun b o e' n => by
            rw [upd_ne (fun z => n (by rw [z]; simp))]
            exact e'
          refine ⟨xs, kq, evk, L5, len5, putD acc kd d, putK xs kq v, upd_same, Nat.le_trans (length_putK _ _ _) (Nat.succ_le_succ hxl), RepK.to t6 ((RepK.to t5 rx).put hkd r6), ?_, fun b o e' n => ?_, (tt'.trans t5).trans t6, l6, q6⟩
          · refine RR5.keep (ex := [L]) (fun a ha => .inr (by simpa using ha)) k6 l6 fun a ha => ?_
            have : a = L := by simpa using ha
            subst this
            rw [upd_same]; intro z; cases z
          · rw [upd_ne (fun z => by rw [z, s1.none hL] at e'; cases e')]
            exact S5.k b o (kk b o e' n) n
      · have e' : i = ds.length := by omega
        subst e'
        rw [List.drop_length] at qq
        refine .inl ⟨(J1 (Mo A' ow) H' tt' al _).1 rfl, ?_⟩
        exact k acc L xs H' qq ⟨kk, ll⟩ (s1.none hL) hx (RepK.to (to_less fun a z => z.elim (fw a) fun y => y ▸ fwL) rx)⟩
def oLenD : List D → (D → Prop) → Prop := fun xs Q => match xs with | [.dict kvs] => Q (.int kvs.length) | _ => False
theorem ro_lenD : RfVL K (fun xs H Q => ∃ a kvs, xs = [V.ref a] ∧ H a = some (.dK kvs) ∧ Q (.int kvs.length) H) oLenD := ⟨fun R h q k => by
  unfold oLenD at q
  split at q
  · rename_i kvs
    obtain ⟨v, rfl, z⟩ := h.one
    cases z with
    | r z => cases z with | dct e n r => exact ⟨_, _, rfl, e, by rw [← r.len]; exact k _ _ _ q (stp_refl R) (.int _)⟩
    | k e n r => exact ⟨_, _, rfl, e, by rw [← r.len]; exact k _ _ _ q (stp_refl R) (.int _)⟩
  · exact q.elim⟩
end
/-! what a comprehension of a dict tells -/
theorem dc_fun {α : Type} {g : D → Ev → (Ev → Prop) → Prop} {c : Ev → (Bool → Prop) → Prop} {ek ev : Ev → (D → Prop) → Prop} {env : Ev} (enc : α → D) (f : α → Option (D × D)) : ∀ {as : List α} {acc : List (D × D)} {Q : List (D × D) → Prop},
    (∀ a ∈ as, ∀ R : Option (D × D) → Prop, R (f a) → g (enc a) env fun env1 => c env1 fun b => if b = true then ek env1 fun kd => (keyOf kd).isSome = true ∧ ev env1 fun x => R (some (kd, x)) else R none) →
    Q (as.foldl (fun acc a => match f a with | some p => putD acc p.1 p.2 | none => acc) acc) → dcD g c ek ev (as.map enc) env acc Q
  | [], _, _, _, q => q
  | a :: r, acc, Q, h, q => h a List.mem_cons_self (fun o => match o with | some p => dcD g c ek ev (r.map enc) env (putD acc p.1 p.2) Q | none => dcD g c ek ev (r.map enc) env acc Q) (by
    have ih : ∀ {acc' : List (D × D)} {Q' : List (D × D) → Prop}, Q' (r.foldl (fun acc a => match f a with | some p => putD acc p.1 p.2 | none => acc) acc') → dcD g c ek ev (r.map enc) env acc' Q' := fun {acc' Q'} q' => dc_fun enc f (fun d' h' => h d' (List.mem_cons_of_mem _ h')) q'
    rw [List.foldl_cons] at q
    cases hf : f a with
    | some x =>
      rw [hf] at q
      exact ih q
    | none =>
      rw [hf] at q
      exact ih q)
def dkeys (ks : List D) (acc : List (D × D)) : List (D × D) := ks.foldl (fun acc k => putD acc k (.bool true)) acc
theorem anyD_snoc {acc : List (D × D)} {k d : D} {q : Option Key} : anyD (acc ++ [(k, d)]) q = (anyD acc q || decide (keyOf k = q)) := by
  unfold anyD
  rw [List.any_append, List.any_cons, List.any_nil, Bool.or_false]
theorem dkeys_le : ∀ {ks : List D} {acc : List (D × D)}, (dkeys ks acc).length ≤ acc.length + ks.length
  | [], _ => Nat.le_refl _
  | k :: r, acc => by
    have := dkeys_le (ks := r) (acc := putD acc k (.bool true))
    have := putD_len acc k (.bool true)
    rw [List.length_cons]
    show (dkeys r (putD acc k (.bool true))).length ≤ _
    omega
theorem dkeys_nd : ∀ {ks : List D} {acc : List (D × D)}, (dkeys ks acc).length = acc.length + ks.length ↔ (ks.map keyOf).Nodup ∧ ∀ k ∈ ks, anyD acc (keyOf k) = false
  | [], acc => ⟨fun _ => ⟨List.nodup_nil, fun _ h => nomatch h⟩, fun _ => rfl⟩
  | k :: r, acc => by
    show (dkeys r (putD acc k (.bool true))).length = _ ↔ _
    rw [List.length_cons, List.map_cons, List.nodup_cons]
    cases e : anyD acc (keyOf k) with
    | true =>
      have hl : (putD acc k (.bool true)).length = acc.length := by unfold putD; rw [if_pos e, List.length_map]
      have := dkeys_le (ks := r) (acc := putD acc k (.bool true))
      exact ⟨fun z => by omega, fun z => by rw [z.2 k List.mem_cons_self] at e; cases e⟩
    | false =>
      have hp : putD acc k (.bool true) = acc ++ [(k, .bool true)] := by unfold putD; rw [if_neg (by rw [e]; decide)]
      rw [hp]
      have ih := dkeys_nd (ks := r) (acc := acc ++ [(k, .bool true)])
      rw [List.length_append, List.length_singleton, Nat.add_assoc, Nat.add_comm 1] at ih
      rw [ih]
      refine ⟨fun ⟨h1, h2⟩ => ⟨⟨fun z => ?_, h1⟩, fun x hx => ?_⟩, fun ⟨⟨h1, h2⟩, h3⟩ => ⟨h2, fun x hx => ?_⟩⟩
      · obtain ⟨x, hx, ex⟩ := List.mem_map.mp z
        have := h2 x hx
        rw [anyD_snoc, ex, decide_eq_true rfl, Bool.or_true] at this
        cases this
      · rcases List.mem_cons.mp hx with rfl | hx
        · exact e
        · have := h2 x hx
          rw [anyD_snoc, Bool.or_eq_false_iff] at this
          exact this.1
      · rw [anyD_snoc, h3 x (List.mem_cons_of_mem _ hx), Bool.false_or]
        exact decide_eq_false fun z => h1 (List.mem_map.mpr ⟨x, hx, z.symm⟩)
/-- how many keys stand in the dict of some names -/
theorem dkeys_all {ks : List D} : decide (((dkeys ks []).length : Int) = (ks.length : Int)) = decide ((ks.map keyOf).Nodup) := by
  have h := dkeys_nd (ks := ks) (acc := [])
  rw [List.length_nil, Nat.zero_add] at h
  refine decide_eq_decide.mpr ⟨fun z => (h.mp (by omega)).1, fun z => ?_⟩
  have := h.mpr ⟨z, fun _ _ => rfl⟩
  omega
theorem all_id {α : Type} (f : α → Bool) (as : List α) : (as.map f).all id = as.all f := by rw [List.all_map]; rfl
theorem any_id {α : Type} (f : α → Bool) (as : List α) : (as.map f).any id = as.any f := by rw [List.any_map]; rfl
theorem lc_raw {g : D → Ev → (Ev → Prop) → Prop} {c : Ev → (Bool → Prop) → Prop} {e : Ev → (D → Prop) → Prop} {env : Ev} (f : D → Option D) {ds : List D} {Q : List D → Prop}
    (h : ∀ a ∈ ds, ∀ R : Option D → Prop, R (f a) → g a env fun env1 => c env1 fun b => if b = true then e env1 fun x => R (some x) else R none) (q : Q (ds.filterMap f)) : lcD g c e ds env Q := by
  have := lc_fun (g := g) (c := c) (e := e) (env := env) id f (as := ds) (Q := Q) h q
  rw [List.map_id] at this
  exact this
theorem dc_raw {g : D → Ev → (Ev → Prop) → Prop} {c : Ev → (Bool → Prop) → Prop} {ek ev : Ev → (D → Prop) → Prop} {env : Ev} (f : D → Option (D × D)) {ds : List D} {acc : List (D × D)} {Q : List (D × D) → Prop}
    (h : ∀ a ∈ ds, ∀ R : Option (D × D) → Prop, R (f a) → g a env fun env1 => c env1 fun b => if b = true then ek env1 fun kd => (keyOf kd).isSome = true ∧ ev env1 fun x => R (some (kd, x)) else R none)
    (q : Q (ds.foldl (fun acc a => match f a with | some p => putD acc p.1 p.2 | none => acc) acc)) : dcD g c ek ev ds env acc Q := by
  have := dc_fun (g := g) (c := c) (ek := ek) (ev := ev) (env := env) id f (as := ds) (acc := acc) (Q := Q) h q
  rw [List.map_id] at this
  exact this
theorem enum_raw (as : List D) (k : Nat) : enumD k as = (as.zipIdx k).map fun p => PyData.tuple [.int (p.2 : Nat), p.1] := by
  have := enum_map id as k
  rw [List.map_id] at this
  exact this
theorem bT {b : Bool} (h : ¬ b = false) : b = true := by cases b <;> simp_all
theorem bF {b : Bool} (h : ¬ b = true) : b = false := by cases b <;> simp_all
def ix6 (i : Nat) : List D := ((List.range 6).drop i).map fun j => PyData.int (j : Nat)
theorem ix6_0 : [PyData.int 0, PyData.int 1, PyData.int 2, PyData.int 3, PyData.int 4, PyData.int 5] = ix6 0 := rfl
theorem ix6_cons {i : Nat} {d : D} {r : List D} (h : d :: r = ix6 i) : i < 6 ∧ d = .int (i : Nat) ∧ r = ix6 (i + 1) := by
  unfold ix6 at h
  by_cases c : i < 6
  · rw [List.drop_eq_getElem_cons (by rw [List.length_range]; exact c), List.map_cons, List.getElem_range] at h
    cases h
    exact ⟨c, rfl, rfl⟩
  · rw [List.drop_of_length_le (by rw [List.length_range]; omega)] at h
    cases h
theorem ix6_nil {i : Nat} (hi : i ≤ 6) (h : [] = ix6 i) : i = 6 := by
  have := congrArg List.length h
  unfold ix6 at this
  rw [List.length_map, List.length_drop, List.length_range, List.length_nil] at this
  omega
def ixn (n i : Nat) : List D := ((List.range n).drop i).map fun j => PyData.int (j : Nat)
theorem ixn_cons {n i : Nat} {d : D} {r : List D} (h : d :: r = ixn n i) : i < n ∧ d = .int (i : Nat) ∧ r = ixn n (i + 1) := by
  unfold ixn at h
  by_cases c : i < n
  · rw [List.drop_eq_getElem_cons (by rw [List.length_range]; exact c), List.map_cons, List.getElem_range] at h
    cases h
    exact ⟨c, rfl, rfl⟩
  · rw [List.drop_of_length_le (by rw [List.length_range]; omega)] at h
    cases h
theorem ixn_nil {n i : Nat} (hi : i ≤ n) (h : [] = ixn n i) : i = n := by
  have := congrArg List.length h
  unfold ixn at this
  rw [List.length_map, List.length_drop, List.length_range, List.length_nil] at this
  omega
theorem count6 {α : Type} {p : α → Bool} {xs : List α} (h : xs.length = 6) : decide (((((xs.take 6).countP p) : Nat) : Int) = 6) = xs.all p := by
  rw [List.take_of_length_le (by omega), Bool.eq_iff_iff, decide_eq_true_eq, List.all_eq_true]
  have := List.countP_eq_length (p := p) (l := xs)
  rw [h] at this
  rw [← this]
  omega
theorem zip_get {α β : Type} {as : List α} {bs : List β} {i : Nat} {a : α} {b : β} (h1 : as[i]? = some a) (h2 : bs[i]? = some b) : (as.zip bs)[i]? = some (a, b) := by
  rw [List.getElem?_zip_eq_some]
  exact ⟨h1, h2⟩
theorem countP_next {α : Type} {p : α → Bool} {xs : List α} {i : Nat} {x : α} (h : xs[i]? = some x) : (xs.take (i + 1)).countP p = (xs.take i).countP p + (if p x = true then 1 else 0) := by
  rw [List.take_add_one, h, List.countP_append]
  simp only [Option.toList, List.countP_cons, List.countP_nil]
  omega
/-- a written list -/
def dCL (xs : List D) : Ev → (List D → Prop) → Prop := fun _ Q => Q xs
/-! the readings' equations, told so that the kernel goes step by step -/
def q_sTake := fun a0 a1 => propext (Iff.of_eq (@sTake.eq_1 a0 a1))
def q_sTake0 := fun a0 a1 => propext (Iff.of_eq (@sTake0.eq_1 a0 a1))
def q_sPick := fun a0 a1 => propext (Iff.of_eq (@sPick.eq_1 a0 a1))
def q_sNumber := fun a0 a1 a2 => propext (Iff.of_eq (@sNumber.eq_1 a0 a1 a2))
def q_dKd := fun a0 a1 a2 a3 => propext (Iff.of_eq (@dKd.eq_1 a0 a1 a2 a3))
def q_F0 := fun a0 a1 => propext (Iff.of_eq (@F0.eq_1 a0 a1))
def q_F1 := fun a0 a1 a2 => propext (Iff.of_eq (@F1.eq_1 a0 a1 a2))
def q_F2 := fun a0 a1 a2 a3 => propext (Iff.of_eq (@F2.eq_1 a0 a1 a2 a3))
def q_F3 := fun a0 a1 a2 a3 a4 => propext (Iff.of_eq (@F3.eq_1 a0 a1 a2 a3 a4))
def q_F4 := fun a0 a1 a2 a3 a4 a5 => propext (Iff.of_eq (@F4.eq_1 a0 a1 a2 a3 a4 a5))
def q_F5 := fun a0 a1 a2 a3 a4 a5 a6 => propext (Iff.of_eq (@F5.eq_1 a0 a1 a2 a3 a4 a5 a6))
def q_F6 := fun a0 a1 a2 a3 a4 a5 a6 a7 => propext (Iff.of_eq (@F6.eq_1 a0 a1 a2 a3 a4 a5 a6 a7))
def q_dParO1 := fun a0 a1 a2 a3 a4 a5 => propext (Iff.of_eq (@dParO1.eq_1 a0 a1 a2 a3 a4 a5))
def q_dParO2 := fun a0 a1 a2 a3 a4 a5 => propext (Iff.of_eq (@dParO2.eq_1 a0 a1 a2 a3 a4 a5))
def q_dEnumT := fun a0 a1 a2 => propext (Iff.of_eq (@dEnumT.eq_1 a0 a1 a2))
def q_oRepr := fun a0 a1 => propext (Iff.of_eq (@oRepr.eq_1 a0 a1))
def q_dUn := fun a0 a1 a2 a3 => propext (Iff.of_eq (@dUn.eq_1 a0 a1 a2 a3))
def q_oNeg := fun a0 a1 => propext (Iff.of_eq (@oNeg.eq_1 a0 a1))
def q_dSeq := fun a0 a1 a2 a3 => propext (Iff.of_eq (@dSeq.eq_1 a0 a1 a2 a3))
def q_dRet := fun a0 a1 a2 => propext (Iff.of_eq (@dRet.eq_1 a0 a1 a2))
def q_dRetN := fun a0 a1 => propext (Iff.of_eq (@dRetN.eq_1 a0 a1))
def q_dIf := fun a0 a1 a2 a3 a4 => propext (Iff.of_eq (@dIf.eq_1 a0 a1 a2 a3 a4))
def q_dAsg := fun a0 a1 a2 a3 => propext (Iff.of_eq (@dAsg.eq_1 a0 a1 a2 a3))
def q_dDrop := fun a0 a1 a2 => propext (Iff.of_eq (@dDrop.eq_1 a0 a1 a2))
def q_dBreak := fun a0 a1 => propext (Iff.of_eq (@dBreak.eq_1 a0 a1))
def q_dCont := fun a0 a1 => propext (Iff.of_eq (@dCont.eq_1 a0 a1))
def q_dNext := fun a0 a1 => propext (Iff.of_eq (@dNext.eq_1 a0 a1))
def q_dOwn := fun a0 a1 a2 a3 => propext (Iff.of_eq (@dOwn.eq_1 a0 a1 a2 a3))
def q_dApp := fun a0 a1 a2 a3 => propext (Iff.of_eq (@dApp.eq_1 a0 a1 a2 a3))
def q_dSetIx := fun a0 a1 a2 a3 a4 => propext (Iff.of_eq (@dSetIx.eq_1 a0 a1 a2 a3 a4))
def q_dFrz := fun a0 a1 a2 a3 => propext (Iff.of_eq (@dFrz.eq_1 a0 a1 a2 a3))
def q_dPar := fun a0 a1 a2 a3 a4 => propext (Iff.of_eq (@dPar.eq_1 a0 a1 a2 a3 a4))
def q_dAug := fun a0 a1 a2 a3 a4 => propext (Iff.of_eq (@dAug.eq_1 a0 a1 a2 a3 a4))
def q_dFor := fun a0 a1 a2 a3 a4 => propext (Iff.of_eq (@dFor.eq_1 a0 a1 a2 a3 a4))
def q_dN := fun a0 a1 a2 => propext (Iff.of_eq (@dN.eq_1 a0 a1 a2))
def q_dNB := fun a0 a1 a2 => propext (Iff.of_eq (@dNB.eq_1 a0 a1 a2))
def q_dC := fun a0 a1 a2 => propext (Iff.of_eq (@dC.eq_1 a0 a1 a2))
def q_dOp := fun a0 a1 a2 a3 a4 => propext (Iff.of_eq (@dOp.eq_1 a0 a1 a2 a3 a4))
def q_oI := fun a0 a1 a2 a3 a4 => propext (Iff.of_eq (@oI.eq_1 a0 a1 a2 a3 a4))
def q_oI0 := fun a0 a1 a2 a3 => propext (Iff.of_eq (@oI0.eq_1 a0 a1 a2 a3))
def q_oB := fun a0 a1 a2 a3 => propext (Iff.of_eq (@oB.eq_1 a0 a1 a2 a3))
def q_oEq := fun a0 a1 a2 a3 => propext (Iff.of_eq (@oEq.eq_1 a0 a1 a2 a3))
def q_oEqS := fun a0 a1 a2 a3 => propext (Iff.of_eq (@oEqS.eq_1 a0 a1 a2 a3))
def q_oIsN := fun a0 a1 a2 => propext (Iff.of_eq (@oIsN.eq_1 a0 a1 a2))
def q_oIxS := fun a0 a1 a2 => propext (Iff.of_eq (@oIxS.eq_1 a0 a1 a2))
def q_oCat := fun a0 a1 a2 => propext (Iff.of_eq (@oCat.eq_1 a0 a1 a2))
def q_oCatT := fun a0 a1 a2 => propext (Iff.of_eq (@oCatT.eq_1 a0 a1 a2))
def q_oCatS := fun a0 a1 a2 => propext (Iff.of_eq (@oCatS.eq_1 a0 a1 a2))
def q_oIn := fun a0 a1 a2 a3 => propext (Iff.of_eq (@oIn.eq_1 a0 a1 a2 a3))
def q_oInS := fun a0 a1 a2 a3 => propext (Iff.of_eq (@oInS.eq_1 a0 a1 a2 a3))
def q_dTb := fun a0 a1 a2 => propext (Iff.of_eq (@dTb.eq_1 a0 a1 a2))
def q_dAnd := fun a0 a1 a2 a3 => propext (Iff.of_eq (@dAnd.eq_1 a0 a1 a2 a3))
def q_dOr := fun a0 a1 a2 a3 => propext (Iff.of_eq (@dOr.eq_1 a0 a1 a2 a3))
def q_dNot := fun a0 a1 a2 => propext (Iff.of_eq (@dNot.eq_1 a0 a1 a2))
def q_dYes := fun a0 a1 => propext (Iff.of_eq (@dYes.eq_1 a0 a1))
def q_dAndV := fun a0 a1 a2 a3 => propext (Iff.of_eq (@dAndV.eq_1 a0 a1 a2 a3))
def q_dOrV := fun a0 a1 a2 a3 => propext (Iff.of_eq (@dOrV.eq_1 a0 a1 a2 a3))
def q_dNotV := fun a0 a1 a2 => propext (Iff.of_eq (@dNotV.eq_1 a0 a1 a2))
def q_dIfV := fun a0 a1 a2 a3 a4 => propext (Iff.of_eq (@dIfV.eq_1 a0 a1 a2 a3 a4))
def q_dChain := fun a0 a1 a2 a3 a4 a5 a6 => propext (Iff.of_eq (@dChain.eq_1 a0 a1 a2 a3 a4 a5 a6))
def q_dNil := fun a0 a1 => propext (Iff.of_eq (@dNil.eq_1 a0 a1))
def q_dCons := fun a0 a1 a2 a3 => propext (Iff.of_eq (@dCons.eq_1 a0 a1 a2 a3))
def q_dL := fun a0 a1 a2 => propext (Iff.of_eq (@dL.eq_1 a0 a1 a2))
def q_dTup := fun a0 a1 a2 => propext (Iff.of_eq (@dTup.eq_1 a0 a1 a2))
def q_dCB := fun a0 a1 a2 a3 => propext (Iff.of_eq (@dCB.eq_1 a0 a1 a2 a3))
def q_oAbs := fun a0 a1 => propext (Iff.of_eq (@oAbs.eq_1 a0 a1))
def q_oI2 := fun a0 a1 a2 a3 => propext (Iff.of_eq (@oI2.eq_1 a0 a1 a2 a3))
def q_oLen := fun a0 a1 => propext (Iff.of_eq (@oLen.eq_1 a0 a1))
def q_oLenS := fun a0 a1 => propext (Iff.of_eq (@oLenS.eq_1 a0 a1))
def q_oInt := fun a0 a1 => propext (Iff.of_eq (@oInt.eq_1 a0 a1))
def q_oInt_1 := fun a0 a1 => propext (Iff.of_eq (@oInt.eq_2 a0 a1))
def q_oSum := fun a0 a1 => propext (Iff.of_eq (@oSum.eq_1 a0 a1))
def q_oBs := fun a0 a1 a2 => propext (Iff.of_eq (@oBs.eq_1 a0 a1 a2))
def q_oTupOf := fun a0 a1 => propext (Iff.of_eq (@oTupOf.eq_1 a0 a1))
def q_dSeqOf := fun a0 a1 a2 => propext (Iff.of_eq (@dSeqOf.eq_1 a0 a1 a2))
def q_dIsi := fun a0 a1 a2 a3 => propext (Iff.of_eq (@dIsi.eq_1 a0 a1 a2 a3))
def q_dNoP := fun a0 a1 => propext (Iff.of_eq (@dNoP.eq_1 a0 a1))
def q_dPart := fun a0 a1 a2 => propext (Iff.of_eq (@dPart.eq_1 a0 a1 a2))
def q_dSlT := fun a0 a1 a2 a3 a4 => propext (Iff.of_eq (@dSlT.eq_1 a0 a1 a2 a3 a4))
def q_dSlL := fun a0 a1 a2 a3 a4 => propext (Iff.of_eq (@dSlL.eq_1 a0 a1 a2 a3 a4))
def q_dSlS := fun a0 a1 a2 a3 a4 => propext (Iff.of_eq (@dSlS.eq_1 a0 a1 a2 a3 a4))
def q_dCall := fun a0 a1 a2 a3 => propext (Iff.of_eq (@dCall.eq_1 a0 a1 a2 a3))
def q_dCallS := fun a0 a1 a2 a3 a4 => propext (Iff.of_eq (@dCallS.eq_1 a0 a1 a2 a3 a4))
def q_dItL := fun a0 a1 a2 => propext (Iff.of_eq (@dItL.eq_1 a0 a1 a2))
def q_dItT := fun a0 a1 a2 => propext (Iff.of_eq (@dItT.eq_1 a0 a1 a2))
def q_dItS := fun a0 a1 a2 => propext (Iff.of_eq (@dItS.eq_1 a0 a1 a2))
def q_dR1 := fun a0 a1 a2 => propext (Iff.of_eq (@dR1.eq_1 a0 a1 a2))
def q_dR2 := fun a0 a1 a2 => propext (Iff.of_eq (@dR2.eq_1 a0 a1 a2))
def q_dZip := fun a0 a1 a2 => propext (Iff.of_eq (@dZip.eq_1 a0 a1 a2))
def q_dEnum := fun a0 a1 a2 => propext (Iff.of_eq (@dEnum.eq_1 a0 a1 a2))
def q_gN := fun a0 a1 a2 a3 => propext (Iff.of_eq (@gN.eq_1 a0 a1 a2 a3))
def q_gNi := fun a0 a1 => propext (Iff.of_eq (@gNi.eq_1 a0 a1))
def q_gCo := fun a0 a1 a2 a3 a4 a5 => propext (Iff.of_eq (@gCo.eq_1 a0 a1 a2 a3 a4 a5))
def q_gCo_1 := fun a0 a1 a2 a3 => propext (Iff.of_eq (@gCo.eq_2 a0 a1 a2 a3))
def q_gT := fun a0 a1 a2 a3 a4 => propext (Iff.of_eq (@gT.eq_1 a0 a1 a2 a3 a4))
def q_dLc := fun a0 a1 a2 a3 a4 a5 a6 => propext (Iff.of_eq (@dLc.eq_1 a0 a1 a2 a3 a4 a5 a6))
def q_dDc := fun a0 a1 a2 a3 a4 a5 a6 a7 => propext (Iff.of_eq (@dDc.eq_1 a0 a1 a2 a3 a4 a5 a6 a7))
def q_dK := fun a0 a1 a2 => propext (Iff.of_eq (@dK.eq_1 a0 a1 a2))
def q_oLenD := fun a0 a1 => propext (Iff.of_eq (@oLenD.eq_1 a0 a1))
def q_dCL := fun a0 a1 a2 => propext (Iff.of_eq (@dCL.eq_1 a0 a1 a2))
theorem ix_l (ds : List D) (i : Int) (Q : D → Prop) : oIx (.list ds) (.int i) Q = (match dix ds i with | some d => Q d | none => False) := rfl
theorem ix_t (ds : List D) (i : Int) (Q : D → Prop) : oIx (.tuple ds) (.int i) Q = (match dix ds i with | some d => Q d | none => False) := rfl
def q_oIx := fun ds i Q => propext (Iff.of_eq (ix_l ds i Q))
def q_oIx_1 := fun ds i Q => propext (Iff.of_eq (ix_t ds i Q))
theorem tuple_mul1 (l : Addr) (items : Array Value) (n : Nat) (dd : Option Addr) (sl : Array (Option Value)) (u : Tok) :
    Meets (Builtin.«tuple.__mul__» ⟨[.ref l, .int 1 u], []⟩) (fun _ R s => s.heap.get? l = some { cls := .type "tuple", dict := dd, data := .seq items n, slots := sl } ∧ R (.ok (.ret (Value.ref l))) s) :=
  .of_wp fun prog w A R s h => by
    obtain ⟨hp, g, d, tk, os⟩ := s
    obtain ⟨hl, h⟩ := h
    have f1 := AutoSeq1.idx_int
    have c1 : (items.isEmpty || ((1 : Int) == 1)) = true := by cases items.isEmpty <;> rfl
    wp_walk using wpAny_loadPart' hl
    repeat (first
      | (refine wpAny_ite_true (decide_eq_true (by rw [c1])) ?_; wp_walk using wpAny_loadPart' hl)
      | (refine wpAny_ite_false (decide_eq_false (by decide)) ?_; wp_walk using wpAny_loadPart' hl))
    exact ⟨_, rfl, h⟩
theorem tuple_mul0 (l : Addr) (items : Array Value) (n : Nat) (dd : Option Addr) (sl : Array (Option Value)) (u : Tok) (hi : items.isEmpty = false) :
    Meets (Builtin.«tuple.__mul__» ⟨[.ref l, .int 0 u], []⟩) (fun _ R s => s.heap.get? l = some { cls := .type "tuple", dict := dd, data := .seq items n, slots := sl } ∧
      R (.ok (.ret (Value.ref s.heap.objs.size))) { s with heap := s.heap.push { cls := Value.type "tuple", data := Data.seq #[] }, toks := s.toks }) :=
  .of_wp fun prog w A R s h => by
    obtain ⟨hp, g, d, tk, os⟩ := s
    obtain ⟨hl, h⟩ := h
    have f1 := AutoSeq1.idx_int
    have c1 : (items.isEmpty || ((0 : Int) == 1)) = false := by rw [hi]; rfl
    wp_walk using wpAny_loadPart' hl
    exact ⟨_, rfl, h⟩
/-- t * k, any k up to 10000 -/
def rRep2 (K : PySem.W.Frag) : R2 := fun x y H Q => ∃ l k xs, x = .ref l ∧ y = .int k ∧ SqT K H l xs ∧ xs ≠ [] ∧ 0 ≤ k ∧ k ≤ 10000 ∧ xs.length ≤ 100 ∧
  ((k = 1 ∧ Q (.ref l) H) ∨ (k ≠ 1 ∧ ∀ p, H p = none → Q (.ref p) (upd H p (.tup (List.replicate k.toNat xs).flatten))))
theorem op_rep2 {X : Cx} : OpR X (binaryOp .Mult) (rRep2 X.K) := by
  intro pins s σ H x y v u Q I rx ry h
  obtain ⟨l, k, xs, rfl, rfl, hT, hne, h1, h2, hz, q⟩ := h
  cases rx
  obtain ⟨t, rfl⟩ := ry
  obtain ⟨its, r, ⟨⟨cls, dd, data, sl⟩, ho, hc, n, hd⟩, hs⟩ := I.tuple hT
  simp only at hc hd
  subst hc hd
  have hle : its.length = xs.length := r.length.symm
  have hn : its ≠ [] := fun e => hne (by
    rw [e] at hle
    exact List.eq_nil_of_length_eq_zero hle.symm)
  have hi : its.toArray.isEmpty = false := by
    cases its with
    | nil => exact absurd rfl hn
    | cons a b => rfl
  have hsz0 : its.toArray.size = xs.length := by rw [List.size_toArray, hle]
  have hm : ((its.toArray.size : Nat) : Int) * k ≤ 1000000 := by
    rw [hsz0]
    have a1 : ((xs.length : Nat) : Int) * k ≤ 100 * k := Int.mul_le_mul_of_nonneg_right (by omega) (by omega)
    omega
  have flen : (List.replicate k.toNat its).flatten.length ≤ sizeLine := by
    rw [PyProof.Rows.lm_len_rep_flat, hle, sizeLine_eq]
    have a1 : k.toNat * xs.length ≤ 10000 * 100 := Nat.mul_le_mul (by omega) hz
    omega
  have flen2 : (List.replicate k.toNat xs).flatten.length ≤ sizeLine := by
    rw [PyProof.Rows.lm_len_rep_flat, sizeLine_eq]
    have a1 : k.toNat * xs.length ≤ 10000 * 100 := Nat.mul_le_mul (by omega) hz
    omega
  have road : ∀ {C : Value → Shared → Prop} , wpAny (model X.prog X.w) X.A (call (.builtin "tuple.__mul__") [.ref l, .int k t]) C X.xe s → wpAny (model X.prog X.w) X.A (binaryOp .Mult (.ref l) (.int k t)) C X.xe s := fun hw =>
    wpAny_binaryOp_repeat_ref (T := "tuple") (U := "int") (by decide) ⟨_, ho, rfl⟩ (fun s' => typeIs_int s' k t) noFill_tuple_mul F.fills_int_mul F.slot_int_rmul repeat_tuple F.slot_int_index.lookup
      (call_meets F.slot_int_rmul (typeIs_int s k t) F.entry_int_rmul (F.args_int_rmul_2 _ _) (int_rmul_tuple k t l its.toArray n dd sl) ⟨ho, rfl, ⟨_, ho, rfl⟩, hw⟩)
  rcases q with ⟨rfl, q⟩ | ⟨k1, q⟩
  · exact road (call_meets F.slot_tuple_mul ⟨_, ho, rfl⟩ F.entry_tuple_mul (F.args_tuple_mul_2 _ _) (tuple_mul1 l its.toArray n dd sl t) ⟨ho, .ref l, H, I, rfl, q⟩)
  · by_cases k0 : k = 0
    · subst k0
      refine road (call_meets F.slot_tuple_mul ⟨_, ho, rfl⟩ F.entry_tuple_mul (F.args_tuple_mul_2 _ _) (tuple_mul0 l its.toArray n dd sl t hi) ⟨ho, ?_⟩)
      refine ⟨.ref s.heap.objs.size, _, I.laid (t' := s.toks) (o := .tup []) (fun b ob q => Heap.get?_push_of_some _ q) (Nat.le_refl _) ?_, rfl, q _ (I.hok.fresh (Nat.le_refl _))⟩
      exact ⟨Nat.zero_le _, [], .nil, IsTup.new _ _⟩
    · have c0 : (decide (k < -(2 ^ 63)) || decide (k ≥ 2 ^ 63)) = false := by
        rw [decide_eq_false (by omega), decide_eq_false (by omega)] <;> rfl
      have c1 : (its.toArray.isEmpty || k == 1) = false := by
        rw [hi, Bool.false_or]
        exact beq_eq_false_iff_ne.mpr (by omega)
      have c2 : (decide (k ≤ 0) || its.toArray.isEmpty) = false := by
        rw [hi, Bool.or_false]
        exact decide_eq_false (by omega)
      have c4 : Builtin.Tuple.tupleTooMany (((its.toArray.size : Nat) : Int) * k) = false := by
        unfold Builtin.Tuple.tupleTooMany
        rw [sizeLine_eq]
        exact decide_eq_false (by omega)
      refine road (call_meets F.slot_tuple_mul ⟨_, ho, rfl⟩ F.entry_tuple_mul (F.args_tuple_mul_2 _ _) (tuple_mulW l its.toArray n dd sl k t c0 c1 c2 (by omega) c4 (by rw [size_rep, List.size_toArray]; exact flen)) ⟨ho, ?_⟩)
      rw [size_rep]
      refine ⟨.ref s.heap.objs.size, _, I.laid (t' := s.toks) (o := .tup (List.replicate k.toNat xs).flatten) (fun b ob q => Heap.get?_push_of_some _ q) (Nat.le_refl _) ?_, rfl, q _ (I.hok.fresh (Nat.le_refl _))⟩
      exact ⟨flen2, _, r.rep k.toNat, IsTup.new _ _⟩
section
variable {K : PySem.W.Frag}
theorem RepL.rep {H : Hp} {A : Addr → Prop} {ds : List D} {vs : List V} (r : RepL K H A ds vs) : ∀ k : Nat, RepL K H A (List.replicate k ds).flatten (List.replicate k vs).flatten
  | 0 => .nil
  | k + 1 => by
    rw [List.replicate_succ, List.replicate_succ, List.flatten_cons, List.flatten_cons]
    exact r.app (r.rep k)
def oRep : D → D → (D → Prop) → Prop := fun x y Q => match x, y with
  | .list a, .int k => (-(2 ^ 63) ≤ k ∧ k < 2 ^ 63) ∧ a.length * k.toNat ≤ 16777216 ∧ Q (.list (List.replicate k.toNat a).flatten)
  | _, _ => False
theorem rv_rep : RfV2 K rRep oRep := ⟨fun R h1 h2 q k => by
  unfold oRep at q
  split at q
  · obtain ⟨a, xs, rfl, h3, r3⟩ := h1.lst
    cases h2.int
    exact ⟨a, _, xs, rfl, rfl, h3, q.1.1, q.1.2, by rw [← r3.len]; exact Nat.le_trans q.2.1 (by rw [sizeLine_eq]; exact Nat.le_refl _), fun p n => k _ _ _ q.2.2 (R.new n) (R.mkL n (r3.rep _))⟩
  · exact q.elim⟩
def oRepT : D → D → (D → Prop) → Prop := fun x y Q => match x, y with
  | .tuple a, .int k => a ≠ [] ∧ (0 ≤ k ∧ k ≤ 10000) ∧ a.length ≤ 100 ∧ Q (.tuple (List.replicate k.toNat a).flatten)
  | _, _ => False
theorem rv_repT : RfV2 K (rRep2 K) oRepT := ⟨fun {A st ow σ H env x y v u Qd Q} R h1 h2 q k => by
  unfold oRepT at q
  split at q
  · rename_i ds n
    obtain ⟨a, xs, rfl, h3, r3⟩ := h1.tup
    cases h2.int
    obtain ⟨q1, q2, q3, q4⟩ := q
    refine ⟨a, n, xs, rfl, rfl, h3.sq, fun e => q1 (r3.nil_iff e), q2.1, q2.2, by rw [← r3.len]; exact q3, ?_⟩
    by_cases e : n = 1
    · subst e
      refine .inl ⟨rfl, k _ _ _ q4 (stp_refl R) (.tup h3 ?_)⟩
      show RepL K H (Mo A ow) (ds ++ []) xs
      rw [List.append_nil]
      exact r3
    · exact .inr ⟨e, fun p n => k _ _ _ q4 (R.new n) (R.mkT n (r3.rep _))⟩
  · exact q.elim⟩
end
theorem oRep_l (a : List D) (k : Int) (Q : D → Prop) : oRep (.list a) (.int k) Q = ((-(2 ^ 63) ≤ k ∧ k < 2 ^ 63) ∧ a.length * k.toNat ≤ 16777216 ∧ Q (.list (List.replicate k.toNat a).flatten)) := rfl
theorem oRep_t (a : List D) (k : Int) (Q : D → Prop) : oRepT (.tuple a) (.int k) Q = (a ≠ [] ∧ (0 ≤ k ∧ k ≤ 10000) ∧ a.length ≤ 100 ∧ Q (.tuple (List.replicate k.toNat a).flatten)) := rfl
def q_oRep := fun a k Q => propext (Iff.of_eq (oRep_l a k Q))
def q_oRepT := fun a k Q => propext (Iff.of_eq (oRep_t a k Q))
/-! a part of a block, and what holds behind it -/
theorem seq_mid1 {a r : DS} {Ed : Dd} {env : Ev} (I : Ev → Prop) (h1 : ∀ N : Ev → Prop, (∀ e, I e → N e) → a { Ed with nx := N } env) (h2 : ∀ e, I e → r Ed e) : dSeq a r Ed env := h1 _ h2
theorem seq_mid2 {a b r : DS} {Ed : Dd} {env : Ev} (I : Ev → Prop) (h1 : ∀ N : Ev → Prop, (∀ e, I e → N e) → dSeq a b { Ed with nx := N } env) (h2 : ∀ e, I e → r Ed e) : dSeq a (dSeq b r) Ed env := h1 _ h2
theorem seq_mid3 {a b c r : DS} {Ed : Dd} {env : Ev} (I : Ev → Prop) (h1 : ∀ N : Ev → Prop, (∀ e, I e → N e) → dSeq a (dSeq b c) { Ed with nx := N } env) (h2 : ∀ e, I e → r Ed e) : dSeq a (dSeq b (dSeq c r)) Ed env := h1 _ h2
theorem seq_mid4 {a b c d r : DS} {Ed : Dd} {env : Ev} (I : Ev → Prop) (h1 : ∀ N : Ev → Prop, (∀ e, I e → N e) → dSeq a (dSeq b (dSeq c d)) { Ed with nx := N } env) (h2 : ∀ e, I e → r Ed e) : dSeq a (dSeq b (dSeq c (dSeq d r))) Ed env := h1 _ h2
theorem seq_mid5 {a b c d f r : DS} {Ed : Dd} {env : Ev} (I : Ev → Prop) (h1 : ∀ N : Ev → Prop, (∀ e, I e → N e) → dSeq a (dSeq b (dSeq c (dSeq d f))) { Ed with nx := N } env) (h2 : ∀ e, I e → r Ed e) : dSeq a (dSeq b (dSeq c (dSeq d (dSeq f r)))) Ed env := h1 _ h2
theorem ints_of : ∀ {ds : List D}, (∀ d ∈ ds, ∃ n : Int, d = .int n) → ∃ ns : List Int, ds = ns.map PyData.int
  | [], _ => ⟨[], rfl⟩
  | d :: r, h => by
    obtain ⟨n, rfl⟩ := h d List.mem_cons_self
    obtain ⟨ns, rfl⟩ := ints_of (ds := r) fun e he => h e (List.mem_cons_of_mem _ he)
    exact ⟨n :: ns, rfl⟩
theorem ixN_nat {n i : Nat} (h : i < n) : ixN n (i : Int) = some i := by
  unfold ixN
  rw [if_pos (by omega), if_pos (by omega), Int.toNat_natCast]
/-- None, truths, numbers, texts -/
def flt1 : V → Bool
  | .non => true | .bl _ => true | .int _ => true | .str z => PyData.strOk z | _ => false
/-- x and y are the same data, at most n deep -/
def Sm (K : PySem.W.Frag) (H : Hp) : Nat → V → V → Prop
  | 0, x, y => x = y ∧ flt1 x = true
  | n + 1, x, y => (x = y ∧ flt1 x = true) ∨ ∃ (a b : Addr) (xs ys : List V), x = .ref a ∧ y = .ref b ∧ ((SqL K H a xs ∧ SqL K H b ys) ∨ (SqT K H a xs ∧ SqT K H b ys)) ∧ xs.length = ys.length ∧ xs.length ≤ 100000 ∧
      ∀ (i : Nat) (u v : V), xs[i]? = some u → ys[i]? = some v → Sm K H n u v
theorem sqT_same {K : PySem.W.Frag} {H H' : Hp} {a : Addr} {xs : List V} (e : Same H H') (h : SqT K H a xs) : SqT K H' a xs := by
  rcases h with (h | ⟨o, h⟩) | h
  · exact .inl (.inl (e _ _ h))
  · exact .inl (.inr ⟨o, e _ _ h⟩)
  · exact .inr h
theorem Sm.same {K : PySem.W.Frag} {H H' : Hp} (e : Same H H') : ∀ {n : Nat} {x y : V}, Sm K H n x y → Sm K H' n x y
  | 0, _, _, h => h
  | n + 1, _, _, .inl h => .inl h
  | n + 1, _, _, .inr ⟨a, b, xs, ys, h1, h2, h3, h4, h5, h6⟩ => .inr ⟨a, b, xs, ys, h1, h2, (match h3 with
      | .inl z => .inl ⟨e.seq z.1, e.seq z.2⟩
      | .inr z => .inr ⟨sqT_same e z.1, sqT_same e z.2⟩), h4, h5, fun i u v hu hv => Sm.same e (h6 i u v hu hv)⟩
theorem Sm.flat {K : PySem.W.Frag} {H : Hp} {n : Nat} {x : V} (h : flt1 x = true) : Sm K H n x x := by
  cases n with
  | zero => exact ⟨rfl, h⟩
  | succ n => exact .inl ⟨rfl, h⟩
theorem tyx_L {K : PySem.W.Frag} {H : Hp} {a : Addr} {xs : List V} (h : SqL K H a xs) : TyX K H (.ref a) (.type "list") := by
  rcases h with (h | ⟨o, h⟩) | ⟨o, its, n, h1, h2, h3⟩
  · exact .base (.lst h)
  · exact .base (.frz h)
  · exact .kList h1 h2
theorem tyx_T {K : PySem.W.Frag} {H : Hp} {a : Addr} {xs : List V} (h : SqT K H a xs) : TyX K H (.ref a) (.type "tuple") := by
  rcases h with (h | ⟨o, h⟩) | ⟨o, its, n, h1, h2, h3⟩
  · exact .base (.tup h)
  · exact .fTuple h
  · exact .kTuple h1 h2
theorem kt {K : PySem.W.Frag} (a b : String) {r : Bool} (h : kitB a b = some r) : PySem.W.kitOne K (.type a) (.type b) = some r := h
theorem k_ib {K : PySem.W.Frag} : PySem.W.kitOne K (.type "int") (.type "bool") = some false := kt _ _ (by decide +kernel)
theorem k_is {K : PySem.W.Frag} : PySem.W.kitOne K (.type "int") (.type "str") = some false := kt _ _ (by decide +kernel)
theorem k_ii {K : PySem.W.Frag} : PySem.W.kitOne K (.type "int") (.type "int") = some true := kt _ _ (by decide +kernel)
theorem k_bb {K : PySem.W.Frag} : PySem.W.kitOne K (.type "bool") (.type "bool") = some true := kt _ _ (by decide +kernel)
theorem k_bs {K : PySem.W.Frag} : PySem.W.kitOne K (.type "bool") (.type "str") = some false := kt _ _ (by decide +kernel)
theorem k_sb {K : PySem.W.Frag} : PySem.W.kitOne K (.type "str") (.type "bool") = some false := kt _ _ (by decide +kernel)
theorem k_ss {K : PySem.W.Frag} : PySem.W.kitOne K (.type "str") (.type "str") = some true := kt _ _ (by decide +kernel)
theorem k_lb {K : PySem.W.Frag} : PySem.W.kitOne K (.type "list") (.type "bool") = some false := kt _ _ (by decide +kernel)
theorem k_ls {K : PySem.W.Frag} : PySem.W.kitOne K (.type "list") (.type "str") = some false := kt _ _ (by decide +kernel)
theorem k_li {K : PySem.W.Frag} : PySem.W.kitOne K (.type "list") (.type "int") = some false := kt _ _ (by decide +kernel)
theorem k_ld {K : PySem.W.Frag} : PySem.W.kitOne K (.type "list") (.type "dict") = some false := kt _ _ (by decide +kernel)
theorem k_lt {K : PySem.W.Frag} : PySem.W.kitOne K (.type "list") (.type "tuple") = some false := kt _ _ (by decide +kernel)
theorem k_ll {K : PySem.W.Frag} : PySem.W.kitOne K (.type "list") (.type "list") = some true := kt _ _ (by decide +kernel)
theorem k_tb {K : PySem.W.Frag} : PySem.W.kitOne K (.type "tuple") (.type "bool") = some false := kt _ _ (by decide +kernel)
theorem k_ts {K : PySem.W.Frag} : PySem.W.kitOne K (.type "tuple") (.type "str") = some false := kt _ _ (by decide +kernel)
theorem k_ti {K : PySem.W.Frag} : PySem.W.kitOne K (.type "tuple") (.type "int") = some false := kt _ _ (by decide +kernel)
theorem k_td {K : PySem.W.Frag} : PySem.W.kitOne K (.type "tuple") (.type "dict") = some false := kt _ _ (by decide +kernel)
theorem k_tt {K : PySem.W.Frag} : PySem.W.kitOne K (.type "tuple") (.type "tuple") = some true := kt _ _ (by decide +kernel)
theorem k_tl {K : PySem.W.Frag} : PySem.W.kitOne K (.type "tuple") (.type "list") = some false := kt _ _ (by decide +kernel)
theorem ka2 {K : PySem.W.Frag} {t c d : Value} {x y : Bool} (h1 : PySem.W.kitOne K t c = some x) (h2 : PySem.W.kitOne K t d = some y) : PySem.W.kitAny K t [c, d] = some (x || y) := by
  unfold PySem.W.kitAny
  rw [h1]
  cases x with
  | true => rfl
  | false =>
    show PySem.W.kitAny K t [d] = _
    unfold PySem.W.kitAny
    rw [h2]
    cases y <;> rfl
def spSame (K : PySem.W.Frag) (n : Nat) : Sp := fun vs H Q _ => ∃ (x y : V), vs = [x, y] ∧ Sm K H n x y ∧ ∀ (H' : Hp), Same H H' → Q (.bl true) H'
theorem Sm.eq {K : PySem.W.Frag} {H : Hp} {n : Nat} {x y : V} (e : x = y) (h : flt1 x = true) : Sm K H n x y := e ▸ Sm.flat h
theorem Sm.lst {K : PySem.W.Frag} {H : Hp} {n : Nat} {a b : Addr} {xs : List V} (ha : SqL K H a xs) (hb : SqL K H b xs) (hf : ∀ x ∈ xs, flt1 x = true) (hl : xs.length ≤ 100000) : Sm K H (n + 1) (.ref a) (.ref b) :=
  .inr ⟨a, b, xs, xs, rfl, rfl, .inl ⟨ha, hb⟩, rfl, hl, fun i u v hu hv => by
    rw [hu] at hv
    cases hv
    exact Sm.flat (hf u (List.mem_of_getElem? hu))⟩
theorem Sm.tup {K : PySem.W.Frag} {H : Hp} {n : Nat} {a b : Addr} {xs : List V} (ha : SqT K H a xs) (hb : SqT K H b xs) (hf : ∀ x ∈ xs, flt1 x = true) (hl : xs.length ≤ 100000) : Sm K H (n + 1) (.ref a) (.ref b) :=
  .inr ⟨a, b, xs, xs, rfl, rfl, .inr ⟨ha, hb⟩, rfl, hl, fun i u v hu hv => by
    rw [hu] at hv
    cases hv
    exact Sm.flat (hf u (List.mem_of_getElem? hu))⟩
theorem ix_sq {K : PySem.W.Frag} {H : Hp} {a : Addr} {xs : List V} {i : Int} {v : V} {Q : VK} (h : SqL K H a xs ∨ SqT K H a xs) (hi : atI xs i = some v) (q : Q v H) : rIx K (.ref a) (.int i) H Q := by
  rcases h with h | h
  · exact .inl ⟨a, xs, i, v, rfl, rfl, h, hi, q⟩
  · exact .inr (.inl ⟨a, xs, i, v, rfl, rfl, h, hi, q⟩)
/-- two lists, or two tuples, of the same data -/
def spSeq (K : PySem.W.Frag) (n : Nat) : Sp := fun vs H Q _ => ∃ (a b : Addr) (xs ys : List V), vs = [.ref a, .ref b] ∧ ((SqL K H a xs ∧ SqL K H b ys) ∨ (SqT K H a xs ∧ SqT K H b ys)) ∧ xs.length = ys.length ∧ xs.length ≤ 100000 ∧
  (∀ (i : Nat) (u v : V), xs[i]? = some u → ys[i]? = some v → Sm K H n u v) ∧ ∀ (H' : Hp), Same H H' → Q (.bl true) H'
/-- an empty set, as it is laid -/
abbrev eSet (w : World) : Obj := { cls := .type "set", dict := none, data := .set #[] 0 (.fresh 0 0 (!w.params.followText "set-order")) }
section
variable {P : Program} {w : World} {A : Around} {E : Value → Shared → Prop} {s : Shared}
/-- a set of the ints of a list, with its order -/
theorem set_of_list {l : Addr} {vs : Array Value} (ks : List Int) {Q : Value → Shared → Prop} (nh : A.handled = none) (isl : s.heap.IsList l vs) (hint : IntsAre vs.toList ks) (few : ks.length + 1 < scanBound)
    (fin : ∀ (g : Heap) (tk c : Nat), SetR w g s.heap.objs.size (fun j => decide (j ∈ ks)) c → c ≤ ks.length → (∀ b o, s.heap.get? b = some o → g.get? b = some o) → Q (.ref s.heap.objs.size) { s with heap := g, toks := tk }) :
    wpAny (model P w) A (call (.type "set") [.ref l]) Q E s := by
  have sz : vs.size = ks.length := by have := IntsAre.length hint; rw [Array.length_toList] at this; exact this
  obtain ⟨_, _, m1⟩ := F.called_set.mro
  have m2 := F.called_set.made
  have m3 := F.called_set.sub
  refine wpAny_call (codeAny_of_tree (?_ : wpAny _ _ (callAny (.type "set") _) _ _ _))
  refine wpAny_pure ⟨Code.quiet_builtin _ (by decide +kernel), codeAny_builtin F.entry_type_call (?_ : wpAny _ _ _ _ _ _)⟩
  rw [Around.under_plain (weight_type_call_type "set" [.ref l] []) rfl]
  have m4 := F.called_set.notType
  have m5 := F.called_set.canCreate
  have m6 := F.typeCall_set_1 (.ref l)
  repeat (any_goals (first | assumption | wp_step))
  refine codeAny_mono (code_set_led1 (.ref l) (E := E) (Q₁ := fun u t => u = .ref s.heap.objs.size ∧ t = { s with heap := s.heap.push (eSet w) }) ⟨rfl, rfl⟩) fun r t1 hr => ?_
  match r, hr with
  | .error _, hr => exact hr
  | .ok (.ret _), hr =>
    obtain ⟨rfl, rfl⟩ := hr
    have gS : (s.heap.push (eSet w)).get? s.heap.objs.size = some (eSet w) := Heap.get?_push_size _ rfl
    have tS : Shared.TypeIs { s with heap := s.heap.push (eSet w) } (.ref s.heap.objs.size) "set" := ⟨_, gS, rfl⟩
    have i1 := F.called_set.init.lookup
    have i2 := F.called_set.init.bind (.ref s.heap.objs.size)
    repeat (any_goals (first | assumption | wp_step))
    refine codeAny_mono (codeAny_call_builtin (R := wants (fun r t => r = .none ∧ ∃ g tk c, t = { s with heap := g, toks := tk } ∧ SetR w g s.heap.objs.size (fun j => decide (j ∈ ks)) c ∧ c ≤ ks.length ∧ ∀ b o, s.heap.get? b = some o → g.get? b = some o) E)
      F.called_set.init.plain F.entry_set_init (check_set_init_1 tS ?_)) fun r2 t2 hr2 => ?_
    · obtain ⟨⟨c1, c2, c3, c4⟩, ho, hc, nl, hd⟩ := isl
      simp only at hc hd
      subst hc hd
      have ho2 : (s.heap.push (eSet w)).get? l = some { cls := .type "list", dict := c2, data := .seq vs nl, slots := c4 } := Heap.get?_push_of_some _ ho
      have n1 := F.sub_list_set
      have n2 := F.sub_list_frozenset
      have n3 : (Value.type "list" == Value.type "dict") = false := by decide
      have li : (s.heap.push (eSet w)).IsList l vs := ⟨_, ho2, rfl, nl, rfl⟩
      unfold Builtin.«set.__init__» noKeywords Builtin.Frozenset.updateFrom
      generalize hPI : pyIter = PI
      wp_walk
      subst hPI
      refine wpAny_pyIter_list li (wpAny_bind (wpAny_runValue ?_))
      have lt : l < s.heap.objs.size := Heap.lt_size ho
      have ne1 : l ≠ (s.heap.push (eSet w)).objs.size := by rw [Heap.size_push]; exact Nat.ne_of_lt (Nat.lt_succ_of_lt lt)
      have ne2 : s.heap.objs.size ∉ [(s.heap.push (eSet w)).objs.size, l] := by
        rw [Heap.size_push]
        simp only [List.mem_cons, List.not_mem_nil, or_false, not_or]
        exact ⟨Nat.ne_of_lt (Nat.lt_succ_self _), (Nat.ne_of_lt lt).symm⟩
      refine set_update_ints ((Walks.list (by simp [nh]) _ l ne1 vs).toS) s.heap.objs.size ne2 ks sz few (fun i v hv => ?_) (vs.size - 0) 0 _ (by omega) (Nat.zero_le _) ⟨⟨_, Heap.get?_push_size _ rfl, rfl, rfl⟩, li.push _⟩ ?_ ?_
      · have hi : i < ks.length := by rw [← sz]; exact (Array.getElem?_eq_some_iff.mp hv).1
        obtain ⟨t, e⟩ := PyProof.Rows.IntsAre.int_at hint i v (by rw [Array.getElem?_toList]; exact hv)
        refine ⟨ks[i], t, List.getElem?_eq_getElem hi, ?_⟩
        rw [e, List.getD_eq_getElem?_getD, List.getElem?_eq_getElem hi]
        rfl
      · exact ⟨0, Nat.le_refl 0, setR_new_at (Heap.get?_push_of_some _ gS)⟩
      · rintro ⟨g, g2, d2, tk, o2⟩ c mv hc2 hR
        have q1 : g2 = s.gens := mv.gens
        have q2 : d2 = s.drawn := mv.drawn
        have q3 : o2 = s.os := mv.os
        subst q1 q2 q3
        change wpAny _ _ _ _ _ _
        refine wpAny_pure ?_
        change wpAny _ _ (ret .none) _ _ _
        rw [sz] at hc2
        refine wpAny_pure ⟨rfl, g, tk, c, rfl, hR, hc2, fun b o e => ?_⟩
        have b0 : b < s.heap.objs.size := Heap.lt_size e
        refine mv.heap b o ?_ (Heap.get?_push_of_some _ (Heap.get?_push_of_some _ e))
        rw [Heap.size_push]
        simp only [List.mem_cons, List.not_mem_nil, or_false, not_or]
        exact ⟨Nat.ne_of_lt b0, Nat.ne_of_lt (Nat.lt_succ_of_lt b0)⟩
    · match r2, hr2 with
      | .error _, hr2 => exact hr2
      | .ok (.ret _), hr2 =>
        obtain ⟨rfl, g, tk, c, rfl, hR, hc2, k⟩ := hr2
        repeat (any_goals (first | assumption | wp_step))
        exact fin g tk c hR hc2 k
end
/-- set(xs), xs a list of ints -/
def rSetL1 (K : PySem.W.Frag) (w : World) : List V → Hp → VK → Prop := fun xs H Q => ∃ (p : Addr) (ns : List Int), xs = [.ref p] ∧ SqL K H p (ns.map V.int) ∧ ns.length ≤ 1000 ∧
  ∀ (q : Addr) (c : Nat), H q = none → c ≤ ns.length → Q (.ref q) (upd H q (SetO w q (fun j => decide (j ∈ ns)) c))
theorem cr_set1 {X : Cx} (hc : X.calm = true) : CallR X (.type "set") (rSetL1 X.K X.w) := by
  intro pins s σ H xs us Q I r h
  obtain ⟨p, ns, rfl, hq, hl, q⟩ := h
  rw [Vals.ref1 r]
  obtain ⟨its, rv, pl, hz⟩ := I.list hq
  refine set_of_list ns (I.ok.hd hc) pl.isList (by simpa using intsAre_of rv) (by unfold scanBound; omega) fun g tk c R hcn k => ?_
  exact ⟨.ref s.heap.objs.size, upd H s.heap.objs.size (SetO X.w s.heap.objs.size (fun j => decide (j ∈ ns)) c), I.laid (t' := tk) k (Nat.le_refl _) (setO_new R), rfl, q _ c (I.hok.fresh (Nat.le_refl _)) hcn⟩

/-! the same data -/
/-- data that _law_same walks: at most n deep -/
def smD : Nat → D → Bool
  | _, .none => true
  | _, .bool _ => true
  | _, .int _ => true
  | _, .str z => PyData.strOk z
  | n + 1, .list ds => decide (ds.length ≤ 100000) && ds.all (smD n)
  | n + 1, .tuple ds => decide (ds.length ≤ 100000) && ds.all (smD n)
  | _, _ => false
section
variable {K : PySem.W.Frag}
theorem rep_sm {H : Hp} {A : Addr → Prop} : ∀ {n : Nat} {d : D} {v u : V}, Rep K H A d v → Rep K H A d u → smD n d = true → Sm K H n v u := by
  intro n
  induction n with
  | zero =>
    intro d v u h1 h2 hd
    cases h1 with
    | non => cases h2; exact Sm.flat rfl
    | bl b => cases h2; exact Sm.flat rfl
    | int i => cases h2; exact Sm.flat rfl
    | str z => cases h2; exact Sm.flat (show PyData.strOk z = true by simpa [smD] using hd)
    | lst _ _ _ => cases hd
    | tup _ _ => cases hd
    | dct _ _ _ => cases hd
  | succ n ih =>
    intro d v u h1 h2 hd
    have kids : ∀ {ds : List D} {xs ys : List V}, ds.all (smD n) = true → RepL K H A ds xs → RepL K H A ds ys → ∀ (i : Nat) (a b : V), xs[i]? = some a → ys[i]? = some b → Sm K H n a b := by
      intro ds xs ys hall r1 r2 i a b ha hb
      have hi : i < ds.length := by rw [r1.len]; exact (List.getElem?_eq_some_iff.mp ha).1
      obtain ⟨a', ha', ra⟩ := r1.get (List.getElem?_eq_getElem hi)
      obtain ⟨b', hb', rb⟩ := r2.get (List.getElem?_eq_getElem hi)
      rw [ha] at ha'; cases ha'
      rw [hb] at hb'; cases hb'
      exact ih ra rb (List.all_eq_true.mp hall _ (List.getElem_mem hi))
    cases h1 with
    | non => cases h2; exact Sm.flat rfl
    | bl b => cases h2; exact Sm.flat rfl
    | int i => cases h2; exact Sm.flat rfl
    | str z => cases h2; exact Sm.flat (show PyData.strOk z = true by simpa [smD] using hd)
    | lst ha na r =>
      cases h2 with
      | lst hb nb r' =>
        rw [smD, Bool.and_eq_true, decide_eq_true_eq] at hd
        exact .inr ⟨_, _, _, _, rfl, rfl, .inl ⟨SqL.of ha, SqL.of hb⟩, by rw [← r.len, ← r'.len], by rw [← r.len]; exact hd.1, kids hd.2 r r'⟩
    | tup ha r =>
      cases h2 with
      | tup hb r' =>
        rw [smD, Bool.and_eq_true, decide_eq_true_eq] at hd
        exact .inr ⟨_, _, _, _, rfl, rfl, .inr ⟨ha.sq, hb.sq⟩, by rw [← r.len, ← r'.len], by rw [← r.len]; exact hd.1, kids hd.2 r r'⟩
    | dct _ _ _ => cases hd
def sSame (n : Nat) : D → D → (D → Prop) → Prop := fun a b Q => a = b ∧ smD n b = true ∧ Q (.bool true)
theorem same_of {n : Nat} (vs : List V) (H : Hp) (Q : VK) (E : XK) (h : spD K (F2 (sSame n)) vs H Q E) : spSame K n vs H Q E := by
  obtain ⟨A, ds, Qd, dom, r, hq, k⟩ := h
  unfold F2 at hq
  split at hq
  · cases r with | cons r1 r2 =>
    cases r2 with | cons r2 r3 =>
    cases r3
    obtain ⟨rfl, hs, q⟩ := hq
    exact ⟨_, _, rfl, rep_sm r1 r2 hs, fun H' s => k _ _ _ q s (.bl true)⟩
  · exact hq.elim
theorem sz_sm : ∀ {n : Nat} {d : D} {w : Nat}, Sz d n w → w ≤ 100000 → smD n d = true := by
  have wt : ∀ ds : List D, ds.length ≤ PyData.weightAll ds ∧ ∀ d ∈ ds, PyData.weight d ≤ PyData.weightAll ds := by
    intro ds
    induction ds with
    | nil => exact ⟨Nat.le_refl _, fun _ h => nomatch h⟩
    | cons d r ih =>
      simp only [PyData.weightAll, List.length_cons]
      refine ⟨by omega, fun e he => ?_⟩
      rcases List.mem_cons.mp he with rfl | he
      · omega
      · have := ih.2 e he; omega
  have kids : ∀ {ds : List D} {n w : Nat}, PyData.canLayAll0 ds = true → PyData.intsShortAll 13 ds = true → PyData.showableAll ds = true → PyData.depthAll ds ≤ n → PyData.weightAll ds ≤ w → ∀ d ∈ ds, Sz d n w := by
    intro ds
    induction ds with
    | nil => intro n w _ _ _ _ _ d h; cases h
    | cons e r ih =>
      intro n w h1 h2 h3 h4 h5 d hd
      simp only [PyData.canLayAll0, PyData.intsShortAll, PyData.showableAll, Bool.and_eq_true, PyData.depthAll, PyData.weightAll] at h1 h2 h3 h4 h5
      rcases List.mem_cons.mp hd with rfl | hd
      · exact ⟨h1.1, h2.1, h3.1, by omega, by omega⟩
      · exact ih h1.2 h2.2 h3.2 (by omega) (by omega) d hd
  intro n
  induction n with
  | zero =>
    intro d w h hw
    cases d with
    | none => rfl
    | bool b => rfl
    | int i => rfl
    | str z => have := h.lay; simpa [smD, PyData.canLay0] using this
    | list ds => have := h.dep; simp only [PyData.depth] at this; omega
    | tuple ds => have := h.dep; simp only [PyData.depth] at this; omega
    | dict ds => have := h.lay; simp [PyData.canLay0] at this
  | succ n ih =>
    intro d w h hw
    cases d with
    | none => rfl
    | bool b => rfl
    | int i => rfl
    | str z => have := h.lay; simpa [smD, PyData.canLay0] using this
    | list ds =>
      obtain ⟨h1, h2, h3, h4, h5⟩ := h
      simp only [PyData.canLay0, PyData.intsShort, PyData.showable, PyData.depth, PyData.weight] at h1 h2 h3 h4 h5
      have := wt ds
      rw [smD, Bool.and_eq_true, decide_eq_true_eq]
      exact ⟨by omega, List.all_eq_true.mpr fun d hd => ih (kids h1 h2 h3 (n := n) (w := w) (by omega) h5 d hd) hw⟩
    | tuple ds =>
      obtain ⟨h1, h2, h3, h4, h5⟩ := h
      simp only [PyData.canLay0, PyData.intsShort, PyData.showable, PyData.depth, PyData.weight] at h1 h2 h3 h4 h5
      have := wt ds
      rw [smD, Bool.and_eq_true, decide_eq_true_eq]
      exact ⟨by omega, List.all_eq_true.mpr fun d hd => ih (kids h1 h2 h3 (n := n) (w := w) (by omega) h5 d hd) hw⟩
    | dict ds => have := h.lay; simp [PyData.canLay0] at this
/-! sorted(set(xs)), xs ints -/
def dSortSet (de : Ev → (D → Prop) → Prop) : Ev → (List D → Prop) → Prop := fun env Q => de env fun x => ∃ ns : List Int, x = .list (ns.map PyData.int) ∧ ns.length < 64 ∧ ∀ ms : List Int, ms.Pairwise (· < ·) → (∀ k : Int, k ∈ ms ↔ k ∈ ns) → ms.length ≤ ns.length → Q (ms.map PyData.int)
theorem ints_rep {H : Hp} {A : Addr → Prop} : ∀ {ns : List Int} {vs : List V}, RepL K H A (ns.map PyData.int) vs → vs = ns.map V.int
  | [], _, .nil => rfl
  | n :: ns, _, .cons h r => by
    cases h
    rw [ints_rep r]
    rfl
theorem rep_ints {H : Hp} {A : Addr → Prop} : ∀ ns : List Int, RepL K H A (ns.map PyData.int) (ns.map V.int)
  | [] => .nil
  | n :: ns => .cons (.int n) (rep_ints ns)
theorem rf_sortSet {w : World} {te : TE} {de : Ev → (D → Prop) → Prop} (h : RfB K te de) : RfF K (tCB (rSortedSet w) (tCons (tCB (rSetL1 K w) (tCons te tNil)) tNil)) (dSortSet de) := ⟨fun {A st ow σ H env Qd Q} R q k => h.run R q fun d v H1 ⟨ns, e, hl, q1⟩ s1 r1 => by
  subst e
  obtain ⟨a, xs, rfl, ha, rx⟩ := r1.lst
  obtain rfl := ints_rep rx
  refine ⟨a, ns, rfl, SqL.of ha, by omega, fun q0 c nq hc => ?_⟩
  refine ⟨q0, _, c, rfl, upd_same, by omega, fun ms p pw mem len np => ?_⟩
  have R1 := R.step s1
  have s2 : Same H1 (upd H1 q0 (SetO w q0 (fun j => decide (j ∈ ns)) c)) := same_upd nq
  have s3 : Same H1 (upd (upd H1 q0 (SetO w q0 (fun j => decide (j ∈ ns)) c)) p (.lst (ms.map V.int))) := fun b o e => same_upd np b o (s2 b o e)
  have np' : H1 p = none := by
    cases e : H1 p with
    | none => rfl
    | some o => rw [s2 _ _ e] at np; cases np
  exact k _ p _ _ (q1 ms pw (fun k => (mem k).trans decide_eq_true_iff) (by rw [len]; exact hc)) (s1.trans (.same R1.ls s3)) (s1.none np') upd_same (rep_ints ms)⟩
/-! sorted([(a, b), (c, d)]), ints -/
def isI (x : D) : Prop := ∃ i : Int, x = .int i
def dSort2 (da db dc dd : Ev → (D → Prop) → Prop) : Ev → (List D → Prop) → Prop := fun env Q => da env fun a => db env fun b => dc env fun c => dd env fun d => (isI a ∧ isI b ∧ isI c ∧ isI d) ∧ Q [.tuple [a, b], .tuple [c, d]] ∧ Q [.tuple [c, d], .tuple [a, b]]
theorem rf_sort2 {ta tb tc td : TE} {da db dc dd : Ev → (D → Prop) → Prop} (ha : RfE K ta da) (hb : RfE K tb db) (hc : RfE K tc dc) (hd : RfE K td dd) :
    RfF K (tCB (rSortedP K) (tCons (tLst (tCons (tTup (tCons ta (tCons tb tNil))) (tCons (tTup (tCons tc (tCons td tNil))) tNil))) tNil)) (dSort2 da db dc dd) := ⟨fun {A st ow σ H env Qd Q} R q k =>
  ha.run R q fun a v1 H1 q1 s1 r1 => hb.run (R.step s1) q1 fun b v2 H2 q2 s2 r2 => by
    have R2 := (R.step s1).step s2
    refine ⟨Nat.le_of_ble_eq_true rfl, fun p np => ?_⟩
    have sp : Stp st H2 (upd H2 p (.tup [v1, v2])) := R2.new np
    have R3 := R2.step sp
    refine hc.run R3 q2 fun c v3 H3 q3 s3 r3 => hd.run (R3.step s3) q3 fun d v4 H4 q4 s4 r4 => ?_
    obtain ⟨⟨⟨i1, rfl⟩, ⟨i2, rfl⟩, ⟨i3, rfl⟩, ⟨i4, rfl⟩⟩, qa, qb⟩ := q4
    cases r1; cases r2; cases r3; cases r4
    have R4 := (R3.step s3).step s4
    have nex : p ∉ exs st := fun z => R2.newA np (R2.exA p z)
    have hp4 : H4 p = some (.tup [.int i1, .int i2]) := s4.k p _ (s3.k p _ upd_same nex) nex
    refine ⟨Nat.le_of_ble_eq_true rfl, fun p2 np2 => ⟨Nat.le_of_ble_eq_true rfl, fun l nl => ?_⟩⟩
    have sm1 : Same H4 (upd H4 p2 (.tup [.int i3, .int i4])) := same_upd np2
    have sm2 : Same H4 (upd (upd H4 p2 (.tup [.int i3, .int i4])) l (.lst [.ref p, .ref p2])) := fun b o e => same_upd nl b o (sm1 b o e)
    have hl1 : (upd (upd H4 p2 (.tup [.int i3, .int i4])) l (.lst [.ref p, .ref p2])) p = some (.tup [.int i1, .int i2]) := sm2 _ _ hp4
    have hl2 : (upd (upd H4 p2 (.tup [.int i3, .int i4])) l (.lst [.ref p, .ref p2])) p2 = some (.tup [.int i3, .int i4]) := same_upd nl _ _ upd_same
    have hl3 : (upd (upd H4 p2 (.tup [.int i3, .int i4])) l (.lst [.ref p, .ref p2])) l = some (.lst [.ref p, .ref p2]) := upd_same
    generalize upd (upd H4 p2 (.tup [.int i3, .int i4])) l (.lst [.ref p, .ref p2]) = H5 at sm2 hl1 hl2 hl3
    refine ⟨l, _, rfl, SqL.of hl3, fun x hx => ?_, fun ys q0 pm nq => ?_⟩
    · simp only [List.mem_cons, List.not_mem_nil, or_false] at hx
      rcases hx with rfl | rfl
      · exact ⟨_, _, _, rfl, hl1⟩
      · exact ⟨_, _, _, rfl, hl2⟩
    have sAll : Stp st H H4 := ((s1.trans s2).trans sp).trans (s3.trans s4)
    have s45 : Stp st H4 H5 := .same R4.ls sm2
    have R5 := R4.step s45
    have mp : ¬ Mo A ow p := R2.newM np
    have mp2 : ¬ Mo A ow p2 := R4.newM np2
    have snew : Same H5 (upd H5 q0 (.lst ys)) := same_upd nq
    have e0 : H q0 = none := (sAll.trans s45).none nq
    have neq : ∀ {c : Addr} {o : HO}, H5 c = some o → c ≠ q0 := fun e z => by rw [z, nq] at e; cases e
    have t1 : Rep K (upd H5 q0 (.lst ys)) (fun b => Mo A ow b ∨ b = q0) (.tuple [.int i1, .int i2]) (.ref p) := .tup (.inl ⟨.inl (snew _ _ hl1), fun z => z.elim mp (neq hl1)⟩) (.cons (.int _) (.cons (.int _) .nil))
    have t2 : Rep K (upd H5 q0 (.lst ys)) (fun b => Mo A ow b ∨ b = q0) (.tuple [.int i3, .int i4]) (.ref p2) := .tup (.inl ⟨.inl (snew _ _ hl2), fun z => z.elim mp2 (neq hl2)⟩) (.cons (.int _) (.cons (.int _) .nil))
    have st5 : Stp st H (upd H5 q0 (.lst ys)) := (sAll.trans s45).trans (R5.new nq)
    have two : ys = [.ref p, .ref p2] ∨ ys = [.ref p2, .ref p] := by
      match ys, pm.length_eq with
      | [y1, y2], _ =>
        by_cases e : y1 = .ref p
        · subst e
          have := (List.perm_cons _).mp pm
          rw [List.perm_singleton.mp this]
          exact .inl rfl
        · have h1 : y1 = .ref p2 := by
            have := pm.mem_iff.mp (List.mem_cons_self (a := y1) (l := [y2]))
            simp only [List.mem_cons, List.not_mem_nil, or_false] at this
            exact this.resolve_left e
          subst h1
          have := (List.perm_cons _).mp (pm.trans (List.Perm.swap _ _ _))
          rw [List.perm_singleton.mp this]
          exact .inr rfl
    rcases two with rfl | rfl
    · exact k _ q0 _ _ qa st5 e0 upd_same (.cons t1 (.cons t2 .nil))
    · exact k _ q0 _ _ qb st5 e0 upd_same (.cons t2 (.cons t1 .nil))⟩
end
def q_dSortSet := fun de env Q => propext (Iff.of_eq (dSortSet.eq_1 de env Q))
def q_dSort2 := fun a b c d env Q => propext (Iff.of_eq (dSort2.eq_1 a b c d env Q))
theorem same_e (n : Nat) (a b : D) (Q : D → Prop) : sSame n a b Q = (a = b ∧ smD n b = true ∧ Q (.bool true)) := rfl
def q_sSame := fun n a b Q => propext (Iff.of_eq (same_e n a b Q))
/-! texts -/
section
variable {K : PySem.W.Frag}
def oStr : List D → (D → Prop) → Prop := fun xs Q => match xs with | [.int i] => i.natAbs.log2 < 1920 ∧ Q (.str (toString i)) | _ => False
theorem ro_str : RfVL K (fun xs H Q => ∃ i, xs = [.int i] ∧ i.natAbs.log2 < 1920 ∧ Q (.str (toString i)) H) oStr := ⟨fun R h q k => by
  unfold oStr at q
  split at q
  · obtain ⟨v, rfl, z⟩ := h.one
    cases z.int
    exact ⟨_, rfl, q.1, k _ _ _ q.2 (stp_refl R) (.str _)⟩
  · exact q.elim⟩
def oIntS : List D → (D → Prop) → Prop := fun xs Q => match xs with | [.str a] => ∃ n, PySem.intText? a = some n ∧ a.length ≤ 640 ∧ Q (.int n) | _ => False
theorem ro_intS : RfVL K (fun xs H Q => ∃ a n, xs = [.str a] ∧ PySem.intText? a = some n ∧ a.length ≤ 640 ∧ Q (.int n) H) oIntS := ⟨fun R h q k => by
  unfold oIntS at q
  split at q
  · obtain ⟨v, rfl, z⟩ := h.one
    cases z.str
    obtain ⟨n, h1, h2, q⟩ := q
    exact ⟨_, n, rfl, h1, h2, k _ _ _ q (stp_refl R) (.int _)⟩
  · exact q.elim⟩
def oOrd : List D → (D → Prop) → Prop := fun xs Q => match xs with | [.str x] => x.length = 1 ∧ Q (.int (x.cps.getD 0 0 : Nat)) | _ => False
theorem ro_ord : RfVL K (fun xs H Q => ∃ x, xs = [.str x] ∧ x.length = 1 ∧ Q (.int (x.cps.getD 0 0 : Nat)) H) oOrd := ⟨fun R h q k => by
  unfold oOrd at q
  split at q
  · obtain ⟨v, rfl, z⟩ := h.one
    cases z.str
    exact ⟨_, rfl, q.1, k _ _ _ q.2 (stp_refl R) (.int _)⟩
  · exact q.elim⟩
/-- text * int -/
def oMulS : D → D → (D → Prop) → Prop := fun x y Q => match x, y with | .str z, .int i => z.length ≤ 16 ∧ (-(2 ^ 63) ≤ i ∧ i ≤ 1048576) ∧ Q (.str (Txt.mul z i)) | _, _ => False
def rMulS : R2 := fun x y H Q => ∃ z i, x = .str z ∧ y = .int i ∧ z.length ≤ 16 ∧ (-(2 ^ 63) ≤ i ∧ i ≤ 1048576) ∧ Q (.str (Txt.mul z i)) H
theorem op_mulS {X : Cx} : OpR X (binaryOp .Mult) rMulS := by
  intro pins s σ H x y v u Q I rx ry h
  obtain ⟨z, i, rfl, rfl, h1, h2, q⟩ := h
  obtain ⟨t, rfl⟩ := rx
  obtain ⟨t2, rfl⟩ := ry
  exact PySem.W.KXi.mul rfl h1 h2.1 (by have := h2.2; omega) fun t' k _ _ => ⟨.str (Txt.mul z i), H, I.tok _, ⟨_, rfl⟩, q⟩
theorem rv_mulS : RfV2 K rMulS oMulS := ⟨fun R h1 h2 q k => by
  unfold oMulS at q
  split at q
  · cases h1.str
    cases h2.int
    exact ⟨_, _, rfl, rfl, q.1, q.2.1, k _ _ _ q.2.2 (stp_refl R) (.str _)⟩
  · exact q.elim⟩
/-! methods of texts -/
def dM0 (op : Str → (D → Prop) → Prop) (de : Ev → (D → Prop) → Prop) : Ev → (D → Prop) → Prop := fun env Q => de env fun x => match x with | .str a => op a Q | _ => False
def dM1 (op : Str → D → (D → Prop) → Prop) (de da : Ev → (D → Prop) → Prop) : Ev → (D → Prop) → Prop := fun env Q => de env fun x => match x with | .str a => da env fun y => op a y Q | _ => False
def sLower (a : Str) (Q : D → Prop) : Prop := a.length ≤ 5592405 ∧ Q (.str (Txt.lower a))
def sUpper (a : Str) (Q : D → Prop) : Prop := a.length ≤ 5592405 ∧ Q (.str (Txt.upper a))
theorem re_lower {to : TE} {de : Ev → (D → Prop) → Prop} (h : RfE K to de) : RfE K (tM0 (fun x xs H Q => ∃ a, x = .str a ∧ xs = [] ∧ a.length ≤ 5592405 ∧ Q (.str (Txt.lower a)) H) to) (dM0 sLower de) := ⟨fun R q k => h.run R q fun d v H' q' s r => by
  split at q'
  · cases r
    exact ⟨⟨_, rfl⟩, _, rfl, rfl, q'.1, k _ _ _ q'.2 s (.str _)⟩
  · exact q'.elim⟩
theorem re_upper {to : TE} {de : Ev → (D → Prop) → Prop} (h : RfE K to de) : RfE K (tM0 (fun x xs H Q => ∃ a, x = .str a ∧ xs = [] ∧ a.length ≤ 5592405 ∧ Q (.str (Txt.upper a)) H) to) (dM0 sUpper de) := ⟨fun R q k => h.run R q fun d v H' q' s r => by
  split at q'
  · cases r
    exact ⟨⟨_, rfl⟩, _, rfl, rfl, q'.1, k _ _ _ q'.2 s (.str _)⟩
  · exact q'.elim⟩
def sStarts (a : Str) (y : D) (Q : D → Prop) : Prop := match y with | .str b => Q (.bool (Txt.startswith a b)) | _ => False
def sEnds (a : Str) (y : D) (Q : D → Prop) : Prop := match y with | .str b => Q (.bool (Txt.endswith a b)) | _ => False
theorem re_starts {to te : TE} {de da : Ev → (D → Prop) → Prop} (h : RfE K to de) (h2 : RfE K te da) : RfE K (tM1 (fun x xs H Q => ∃ a b, x = .str a ∧ xs = [.str b] ∧ Q (.bl (Txt.startswith a b)) H) to te) (dM1 sStarts de da) := ⟨fun R q k => h.run R q fun d v H' q' s r => by
  split at q'
  · cases r
    refine ⟨⟨_, rfl⟩, h2.run (R.step s) q' fun e u H2 q2 s2 r2 => ?_⟩
    unfold sStarts at q2
    split at q2
    · cases r2
      exact ⟨_, _, rfl, rfl, k _ _ _ q2 (s.trans s2) (.bl _)⟩
    · exact q2.elim
  · exact q'.elim⟩
theorem re_ends {to te : TE} {de da : Ev → (D → Prop) → Prop} (h : RfE K to de) (h2 : RfE K te da) : RfE K (tM1 (fun x xs H Q => ∃ a b, x = .str a ∧ xs = [.str b] ∧ Q (.bl (Txt.endswith a b)) H) to te) (dM1 sEnds de da) := ⟨fun R q k => h.run R q fun d v H' q' s r => by
  split at q'
  · cases r
    refine ⟨⟨_, rfl⟩, h2.run (R.step s) q' fun e u H2 q2 s2 r2 => ?_⟩
    unfold sEnds at q2
    split at q2
    · cases r2
      exact ⟨_, _, rfl, rfl, k _ _ _ q2 (s.trans s2) (.bl _)⟩
    · exact q2.elim
  · exact q'.elim⟩
theorem rep_strs {H : Hp} {A : Addr → Prop} : ∀ ys : List Str, RepL K H A (ys.map PyData.str) (ys.map V.str)
  | [] => .nil
  | n :: ns => .cons (.str n) (rep_strs ns)
theorem strs_rep {H : Hp} {A : Addr → Prop} : ∀ {ns : List Str} {vs : List V}, RepL K H A (ns.map PyData.str) vs → vs = ns.map V.str
  | [], _, .nil => rfl
  | n :: ns, _, .cons h r => by
    cases h
    rw [strs_rep r]
    rfl
def dSplit (de da : Ev → (D → Prop) → Prop) : Ev → (List D → Prop) → Prop := fun env Q => de env fun x => match x with
  | .str a => da env fun y => (match y with | .str b => (b.length == 0) = false ∧ a.length + 2 ≤ 16777216 ∧ Q ((Txt.split a b).map PyData.str) | _ => False)
  | _ => False
theorem rf_split {to te : TE} {de da : Ev → (D → Prop) → Prop} (h : RfE K to de) (h2 : RfE K te da) :
    RfF K (tM1 (fun x xs H Q => ∃ a b, x = .str a ∧ xs = [.str b] ∧ (b.length == 0) = false ∧ a.length + 2 ≤ sizeLine ∧ rNewStrs (Txt.split a b) H Q) to te) (dSplit de da) := ⟨fun R q k => h.run R q fun d v H' q' s r => by
  split at q'
  · cases r
    refine ⟨⟨_, rfl⟩, h2.run (R.step s) q' fun e u H2 q2 s2 r2 => ?_⟩
    split at q2
    · cases r2
      refine ⟨_, _, rfl, rfl, q2.1, by rw [sizeLine_eq]; exact q2.2.1, fun p np => ?_⟩
      have R2 := (R.step s).step s2
      exact k _ p _ _ q2.2.2 ((s.trans s2).trans (R2.new np)) ((s.trans s2).none np) upd_same (rep_strs _)
    · exact q2.elim
  · exact q'.elim⟩
def dJoin (de da : Ev → (D → Prop) → Prop) : Ev → (D → Prop) → Prop := fun env Q => de env fun x => match x with
  | .str a => da env fun y => ∃ ys : List Str, seqOf y = some (ys.map PyData.str) ∧ (ys.map (·.length)).sum + ys.length * a.length ≤ 16777216 ∧ Q (.str (Txt.join a ys))
  | _ => False
theorem re_join {to te : TE} {de da : Ev → (D → Prop) → Prop} (h : RfE K to de) (h2 : RfB K te da) :
    RfE K (tM1 (fun x xs H Q => ∃ a p, ∃ ys : List Str, x = .str a ∧ xs = [.ref p] ∧ (SqL K H p (ys.map V.str) ∨ SqT K H p (ys.map V.str)) ∧ (ys.map (·.length)).sum + ys.length * a.length ≤ 16777216 ∧ Q (.str (Txt.join a ys)) H) to te) (dJoin de da) := ⟨fun R q k => h.run R q fun d v H' q' s r => by
  split at q'
  · cases r
    refine ⟨⟨_, rfl⟩, h2.run (R.step s) q' fun e u H2 q2 s2 r2 => ?_⟩
    obtain ⟨ys, h1, h3, q2⟩ := q2
    obtain ⟨p, xs, rfl, hs, rx⟩ := r2.seq h1
    obtain rfl := strs_rep rx
    exact ⟨_, p, ys, rfl, rfl, hs, h3, k _ _ _ q2 (s.trans s2) (.str _)⟩
  · exact q'.elim⟩
/-! f-strings -/
def dFmt (de : Ev → (D → Prop) → Prop) : Ev → (D → Prop) → Prop := fun env Q => de env fun x => match x with
  | .str y => y.length ≤ 16777216 ∧ Q (.str y)
  | .int i => i.natAbs.log2 < 1920 ∧ Q (.str (toString i))
  | _ => False
theorem re_fmt {te : TE} {de : Ev → (D → Prop) → Prop} (h : RfE K te de) : RfE K (tFmt te) (dFmt de) := ⟨fun R q k => h.run R q fun d v H' q' s r => by
  split at q'
  · cases r
    exact .inl ⟨_, rfl, by rw [sizeLine_eq]; exact q'.1, k _ _ _ q'.2 s (.str _)⟩
  · cases r
    exact .inr ⟨_, rfl, q'.1, k _ _ _ q'.2 s (.str _)⟩
  · exact q'.elim⟩
structure RfJ (K : PySem.W.Frag) (ts : List TE) (dj : Str → Ev → (Str → Prop) → Prop) : Prop where
  run : ∀ {A : Addr → Prop} {st : Option (Addr × Addr)} {ow : Nat → Option Addr} {σ : L2.St} {H : Hp} {env : Ev} {acc : Str} {Qd : Str → Prop} {Q : Str → Hp → Prop},
  RE K A st ow σ H env → dj acc env Qd → (∀ z H', Qd z → Stp st H H' → Q z H') → tJs ts acc σ H Q
def dJn : Str → Ev → (Str → Prop) → Prop := fun acc _ Q => Q acc
def dJc (de : Ev → (D → Prop) → Prop) (dj : Str → Ev → (Str → Prop) → Prop) : Str → Ev → (Str → Prop) → Prop := fun acc env Q => de env fun x => match x with
  | .str y => (acc ++ y).length ≤ 16777216 ∧ dj (acc ++ y) env Q
  | _ => False
theorem rj_nil : RfJ K [] dJn := ⟨fun R q k => k _ _ q (stp_refl R)⟩
theorem rj_cons {t : TE} {ts : List TE} {de : Ev → (D → Prop) → Prop} {dj : Str → Ev → (Str → Prop) → Prop} (h : RfE K t de) (hs : RfJ K ts dj) : RfJ K (t :: ts) (dJc de dj) := ⟨fun R q k => h.run R q fun d v H' q' s r => by
  split at q'
  · cases r
    exact ⟨_, rfl, by rw [sizeLine_eq]; exact q'.1, hs.run (R.step s) q'.2 fun z H2 q2 s2 => k z H2 q2 (s.trans s2)⟩
  · exact q'.elim⟩
def dFs (dj : Str → Ev → (Str → Prop) → Prop) : Ev → (D → Prop) → Prop := fun env Q => dj Str.empty env fun z => Q (.str z)
theorem re_fs {ts : List TE} {dj : Str → Ev → (Str → Prop) → Prop} (h : RfJ K ts dj) : RfE K (fun σ H Q => tJs ts Str.empty σ H fun out H1 => Q (.str out) H1) (dFs dj) := ⟨fun R q k => h.run R q fun z H' q' s => k _ _ _ q' s (.str _)⟩
/-! dicts that are read -/
theorem RepB.dct {H : Hp} {A M : Addr → Prop} {v : V} {kvs : List (D × D)} (h : RepB K H A M (.dict kvs) v) : ∃ a us, v = .ref a ∧ H a = some (.dK us) ∧ RepK K H M kvs us := by
  cases h with
  | r h => cases h with | dct h n r => exact ⟨_, _, rfl, h, r⟩
  | k h n r => exact ⟨_, _, rfl, h, r⟩
def dDg (dd dk : Ev → (D → Prop) → Prop) : Ev → (D → Prop) → Prop := fun env Q => dd env fun x => dk env fun y => match x with
  | .dict kvs => ∃ q, keyOf y = some q ∧ ∃ d, lookD kvs q = some d ∧ Q d
  | _ => False
theorem key_v {H : Hp} {A : Addr → Prop} {d : D} {v : V} {q : Key} (h : Rep K H A d v) (e : keyOf d = some q) : v = kV q := by
  have := keyD_of e
  cases this <;> cases h <;> rfl
theorem re_dg {td ty : TE} {dd dk : Ev → (D → Prop) → Prop} (h : RfB K td dd) (h2 : RfE K ty dk) : RfE K (tDGet td ty) (dDg dd dk) := ⟨fun R q k => h.run R q fun d v H1 q1 s1 r1 => h2.run (R.step s1) q1 fun y u H2 q2 s2 r2 => by
  split at q2
  · obtain ⟨key, e, d', hd, q2⟩ := q2
    obtain ⟨a, us, rfl, ha, rk⟩ := ((R.step s1).stepB s2 r1).dct
    obtain ⟨v', hv, rv⟩ := (rk.look key).1 d' hd
    obtain rfl := key_v r2 e
    exact ⟨a, v', rfl, hv ▸ DGet.k ha, k _ _ _ q2 (s1.trans s2) rv⟩
  · exact q2.elim⟩
def dDin (neg : Bool) (dk dd : Ev → (D → Prop) → Prop) : Ev → (D → Prop) → Prop := fun env Q => dk env fun y => dd env fun x => match x with
  | .dict kvs => ∃ q, keyOf y = some q ∧ Q (.bool (if neg then !(lookD kvs q).isSome else (lookD kvs q).isSome))
  | _ => False
theorem look_some {H : Hp} {M : Addr → Prop} {kvs : List (D × D)} {us : List (Key × V)} (r : RepK K H M kvs us) (q : Key) : (valV us q).isSome = (lookD kvs q).isSome := by
  obtain ⟨h1, h2⟩ := r.look q
  cases e : lookD kvs q with
  | none => rw [h2 e]; rfl
  | some d =>
    obtain ⟨v, hv, _⟩ := h1 d e
    rw [hv]
    rfl
theorem re_din {td ty : TE} {dd dk : Ev → (D → Prop) → Prop} (h2 : RfE K ty dk) (h : RfB K td dd) : RfE K (tDIn ty td) (dDin false dk dd) := ⟨fun R q k => h2.run R q fun y u H1 q1 s1 r1 => h.run (R.step s1) q1 fun d v H2 q2 s2 r2 => by
  split at q2
  · obtain ⟨key, e, q2⟩ := q2
    obtain ⟨a, us, rfl, ha, rk⟩ := r2.dct
    obtain rfl := key_v r1 e
    exact ⟨a, _, rfl, DGet.k ha, by rw [look_some rk]; exact k _ _ _ q2 (s1.trans s2) (.bl _)⟩
  · exact q2.elim⟩
theorem re_dnin {td ty : TE} {dd dk : Ev → (D → Prop) → Prop} (h2 : RfE K ty dk) (h : RfB K td dd) : RfE K (tDNotIn ty td) (dDin true dk dd) := ⟨fun R q k => h2.run R q fun y u H1 q1 s1 r1 => h.run (R.step s1) q1 fun d v H2 q2 s2 r2 => by
  split at q2
  · obtain ⟨key, e, q2⟩ := q2
    obtain ⟨a, us, rfl, ha, rk⟩ := r2.dct
    obtain rfl := key_v r1 e
    exact ⟨a, _, rfl, DGet.k ha, by rw [look_some rk]; exact k _ _ _ q2 (s1.trans s2) (.bl _)⟩
  · exact q2.elim⟩
def dDg2 (dd dk dx : Ev → (D → Prop) → Prop) : Ev → (D → Prop) → Prop := fun env Q => dd env fun x => dk env fun y => dx env fun z => match x with
  | .dict kvs => ∃ q, keyOf y = some q ∧ Q ((lookD kvs q).getD z)
  | _ => False
end
section
variable {K : PySem.W.Frag}
def dDgx (dd dk dx : Ev → (D → Prop) → Prop) : Ev → (D → Prop) → Prop := fun env Q => dd env fun x => match x with
  | .dict kvs => dk env fun y => dx env fun z => ∃ q, keyOf y = some q ∧ Q ((lookD kvs q).getD z)
  | _ => False
theorem re_dgx {td ty tx : TE} {dd dk dx : Ev → (D → Prop) → Prop} (h : RfB K td dd) (h2 : RfE K ty dk) (h3 : RfE K tx dx) : RfE K (tDGet2 td ty tx) (dDgx dd dk dx) := ⟨fun R q k => h.run R q fun d v H1 q1 s1 r1 => by
  split at q1
  · obtain ⟨a, us, rfl, ha, rk⟩ := _root_.id r1.dct
    refine ⟨a, rfl, .inl ⟨_, .inl ha⟩, h2.run (R.step s1) q1 fun y u H2 q2 s2 r2 => h3.run ((R.step s1).step s2) q2 fun z u3 H3 q3 s3 r3 => ?_⟩
    obtain ⟨key, e, q3⟩ := q3
    have R3 := ((R.step s1).step s2)
    obtain ⟨a', us', e', ha', rk'⟩ := (R3.stepB s3 ((R.step s1).stepB s2 r1)).dct
    cases e'
    obtain rfl := key_v r2 e
    refine ⟨_, DGet.k ha', ?_⟩
    obtain ⟨g1, g2⟩ := rk'.look key
    cases e2 : lookD _ key with
    | none =>
      rw [g2 e2]
      rw [e2] at q3
      exact k _ _ _ q3 (s1.trans (s2.trans s3)) r3
    | some d' =>
      obtain ⟨v', hv, rv⟩ := g1 d' e2
      rw [hv]
      rw [e2] at q3
      exact k _ _ _ q3 (s1.trans (s2.trans s3)) rv
  · exact q1.elim⟩
/-- a written dict of the top whose values are tuples of scalars -/
theorem re_kdT {w : World} {a : Addr} {tb : TE} {db : Ev → (D → Prop) → Prop} (tab : List (Str × D)) (ht : ∀ p ∈ tab, ∃ b vs ds, KDct K w a p.1 (.ref b) ∧ KTup K b vs ∧ Paired Sc ds vs ∧ p.2 = .tuple ds) (hb : RfB K tb db) : RfE K (tOp (rIxD K w) (tC (.ref a)) tb) (dKd tab db) := ⟨fun R q k =>
  hb.run R q fun y u H1 q1 s1 r1 => by
    split at q1
    · rename_i z
      cases r1.str
      split at q1
      · rename_i d e
        obtain ⟨b, vs, ds, h1, h2, h3, rfl⟩ := ht _ (look_mem e)
        exact ⟨a, z, _, rfl, rfl, h1, k _ _ H1 q1 s1 (.tup (.inr h2) (sc_all h3))⟩
      · exact q1.elim
    · exact q1.elim⟩
end
def q_oStr := fun a0 a1 => propext (Iff.of_eq (@oStr.eq_1 a0 a1))
def q_oIntS := fun a0 a1 => propext (Iff.of_eq (@oIntS.eq_1 a0 a1))
def q_oOrd := fun a0 a1 => propext (Iff.of_eq (@oOrd.eq_1 a0 a1))
def q_oMulS := fun a0 a1 a2 => propext (Iff.of_eq (@oMulS.eq_1 a0 a1 a2))
def q_dM0 := fun a0 a1 a2 a3 => propext (Iff.of_eq (@dM0.eq_1 a0 a1 a2 a3))
def q_dM1 := fun a0 a1 a2 a3 a4 => propext (Iff.of_eq (@dM1.eq_1 a0 a1 a2 a3 a4))
def q_sLower := fun a0 a1 => propext (Iff.of_eq (@sLower.eq_1 a0 a1))
def q_sUpper := fun a0 a1 => propext (Iff.of_eq (@sUpper.eq_1 a0 a1))
def q_sStarts := fun a0 a1 a2 => propext (Iff.of_eq (@sStarts.eq_1 a0 a1 a2))
def q_sEnds := fun a0 a1 a2 => propext (Iff.of_eq (@sEnds.eq_1 a0 a1 a2))
def q_dSplit := fun a0 a1 a2 a3 => propext (Iff.of_eq (@dSplit.eq_1 a0 a1 a2 a3))
def q_dJoin := fun a0 a1 a2 a3 => propext (Iff.of_eq (@dJoin.eq_1 a0 a1 a2 a3))
def q_dFmt := fun a0 a1 a2 => propext (Iff.of_eq (@dFmt.eq_1 a0 a1 a2))
def q_dJn := fun a0 a1 a2 => propext (Iff.of_eq (@dJn.eq_1 a0 a1 a2))
def q_dJc := fun a0 a1 a2 a3 a4 => propext (Iff.of_eq (@dJc.eq_1 a0 a1 a2 a3 a4))
def q_dFs := fun a0 a1 a2 => propext (Iff.of_eq (@dFs.eq_1 a0 a1 a2))
def q_dDg := fun a0 a1 a2 a3 => propext (Iff.of_eq (@dDg.eq_1 a0 a1 a2 a3))
def q_dDin := fun a0 a1 a2 a3 a4 => propext (Iff.of_eq (@dDin.eq_1 a0 a1 a2 a3 a4))
def q_dDgx := fun a0 a1 a2 a3 a4 => propext (Iff.of_eq (@dDgx.eq_1 a0 a1 a2 a3 a4))
/-! two names at once, both owning a new list -/
section
variable {K : PySem.W.Frag}
def dParOO (i j : Nat) (df df2 : Ev → (List D → Prop) → Prop) : DS := fun Ed env => i < env.length ∧ j < env.length ∧ df env fun ds => df2 env fun es => Ed.nx (eset (eset env i (some (.own ds))) j (some (.own es)))
theorem rs_parOO (i j : Nat) {ta tb : TE} {df df2 : Ev → (List D → Prop) → Prop} (h : RfF K ta df) (hb : RfF K tb df2) : RfS K (tPar i j (tCons ta (tCons tb tNil))) (dParOO i j df df2) := ⟨fun {A st H0 ow σ H env Ed E} B ⟨hi, hj, q⟩ k =>
  h.run B.r q fun ds L vs H1 q1 s1 n e r => by
    have SH := B.r.shut s1 n e
    have t1 := own_to B.r s1 i n
    have sub : ∀ b, Mo A (owPut ow i L) b → Mo (fun b => A b ∨ b = L) ow b := fun b z => (owPut_sub z).elim (fun y => y.elim (fun y => .inl (.inl y)) .inr) fun y => .inl (.inr y)
    have B1 : BE K A st H0 (owPut ow i L) (σ.set i (some (.ref L))) H1 (eset env i (some (.own ds))) :=
      ⟨B.r.own s1 i n e (en := .own ds) ⟨L, vs, by unfold owPut; rw [if_pos rfl], rfl, e, RepL.to (to_less fun b z => (owPut_sub z).imp id id) r⟩ (.inl ⟨ds, rfl⟩) hi, B.kp.trans s1.k, owPut_fr B n⟩
    refine hb.run SH q1 fun es L2 vs2 H2 q2 s2 n2 e2 r2 => ?_
    have t2 := own_to B1.r s2 j n2
    refine ⟨_, _, rfl, k.nx _ _ _ _ q2 ⟨B1.r.own s2 j n2 e2 (en := .own es) ⟨L2, vs2, by unfold owPut; rw [if_pos rfl], rfl, e2, RepL.to (to_less fun b z => (owPut_sub z).imp (sub b) id) r2⟩ (.inl ⟨es, rfl⟩) (by unfold eset; rw [List.length_set]; exact hj), B1.kp.trans s2.k, owPut_fr B1 n2⟩ (t1.trans t2)⟩⟩
end
/-! three names at once -/
section
variable {K : PySem.W.Frag}
def dPar3 (i j l : Nat) (da : Ev → (List D → Prop) → Prop) : DS := fun Ed env => da env fun xs => match xs with
  | [x, y, z] => Ed.nx (eset (eset (eset env i (some (.d x))) j (some (.d y))) l (some (.d z)))
  | _ => False
theorem rs_par3 {n : Nat} (i j l : Nat) {t : TA} {da : Ev → (List D → Prop) → Prop} (h : RfN K n t da) : RfS K (tPar3 i j l t) (dPar3 i j l da) := ⟨fun {A st H0 ow σ H env Ed E} B q k => h.run B.r q fun ds vs H1 q1 _ s1 r1 => by
  split at q1
  · cases r1 with | cons h1 r1 => cases r1 with | cons h2 r2 => cases r2 with | cons h3 r3 =>
    cases r3
    have B1 := B.step s1
    have B2 := B1.put i h1
    have t2 := to_del H1 A ow i
    have B3 := B2.put j (Rep.to t2 h2)
    have t3 := to_del H1 A (owDel ow i) j
    have B4 := B3.put l (Rep.to (t2.trans t3) h3)
    exact ⟨_, _, _, rfl, k.nx _ _ _ _ q1 B4 ((((B.r.toS s1).trans t2).trans t3).trans (to_del _ _ _ _))⟩
  · exact q1.elim⟩
end
/-! in a list, for data of any depth -/
section
variable {K : PySem.W.Frag}
theorem Room.u65 {k : Nat} {A : Around} (r : Room k A) : A.units + 65 < cLine := by have := r.un; omega
def oInDp (neg : Bool) : D → D → (D → Prop) → Prop := fun x y Q => match y with
  | .list ds => okD x = true ∧ okD (.list ds) = true ∧ Q (.bool (if neg then !inD x ds else inD x ds))
  | _ => False
theorem rv_inDp : RfV2 K (rInD K) (oInDp false) := ⟨fun R h1 h2 q k => by
  unfold oInDp at q
  split at q
  · exact ⟨_, _, h1.dp (okD_lay q.1), h2.dp (okD_lay q.2.1), q.1, q.2.1, k _ _ _ q.2.2 (stp_refl R) (.bl _)⟩
  · exact q.elim⟩
theorem rv_ninDp : RfV2 K (rNotInD K) (oInDp true) := ⟨fun R h1 h2 q k => by
  unfold oInDp at q
  split at q
  · exact ⟨_, _, h1.dp (okD_lay q.1), h2.dp (okD_lay q.2.1), q.1, q.2.1, k _ _ _ q.2.2 (stp_refl R) (.bl _)⟩
  · exact q.elim⟩
end
/-! truth of any value -/
section
variable {K : PySem.W.Frag}
def tru : D → (Bool → Prop) → Prop := fun d Q => match d with
  | .none => Q false
  | .bool b => Q b
  | .int i => Q (i != 0)
  | .str z => z.length ≤ sizeLine ∧ Q ((z.length : Int) != 0)
  | .list ds => Q (!ds.isEmpty)
  | .tuple ds => Q (!ds.isEmpty)
  | .dict kvs => Q (!kvs.isEmpty)
theorem isEmpty_L {H : Hp} {A : Addr → Prop} {ds : List D} {vs : List V} (r : RepL K H A ds vs) : ds.isEmpty = vs.isEmpty := by cases r <;> rfl
theorem isEmpty_K {H : Hp} {A : Addr → Prop} {ds : List (D × D)} {vs : List (Key × V)} (r : RepK K H A ds vs) : ds.isEmpty = vs.isEmpty := by cases r <;> rfl
theorem tru_V {H : Hp} {A M : Addr → Prop} {d : D} {v : V} {Q : Bool → Prop} (r : RepB K H A M d v) (q : tru d Q) : ∃ k, TruV K v H k ∧ Q k := by
  cases r with
  | r r =>
    cases r with
    | non => exact ⟨_, rfl, q⟩
    | bl b => exact ⟨_, rfl, q⟩
    | int i => exact ⟨_, rfl, q⟩
    | str z => exact ⟨_, ⟨q.1, rfl⟩, q.2⟩
    | lst h n r => exact ⟨_, .inl ⟨_, SqL.of h, rfl⟩, by rw [← isEmpty_L r]; exact q⟩
    | tup h r => exact ⟨_, .inr (.inl ⟨_, h.sq, rfl⟩), by rw [← isEmpty_L r]; exact q⟩
    | dct h n r => exact ⟨_, .inr (.inr ⟨_, h, rfl⟩), by rw [← isEmpty_K r]; exact q⟩
  | o h n r => exact ⟨_, .inl ⟨_, SqL.of h, rfl⟩, by rw [← isEmpty_L r]; exact q⟩
  | k h n r => exact ⟨_, .inr (.inr ⟨_, h, rfl⟩), by rw [← isEmpty_K r]; exact q⟩
def dTru (a : Ev → (D → Prop) → Prop) : Ev → (Bool → Prop) → Prop := fun env Q => a env fun x => tru x Q
theorem rt_tru {t : TE} {a : Ev → (D → Prop) → Prop} (h : RfB K t a) : RfT K (fun σ H Q => t σ H fun x H' => ∃ k, TruV K x H' k ∧ Q k H') (dTru a) := ⟨fun R q k => h.run R q fun d v H1 q1 s1 r1 => by
  obtain ⟨b, tb, qb⟩ := tru_V r1 q1
  exact ⟨b, tb, k _ _ qb s1⟩⟩
def dAndT (a b : Ev → (D → Prop) → Prop) : Ev → (D → Prop) → Prop := fun env Q => a env fun x => tru x fun k => if k = true then b env Q else Q x
def dOrT (a b : Ev → (D → Prop) → Prop) : Ev → (D → Prop) → Prop := fun env Q => a env fun x => tru x fun k => if k = true then Q x else b env Q
def dNotT (a : Ev → (D → Prop) → Prop) : Ev → (D → Prop) → Prop := fun env Q => a env fun x => tru x fun k => Q (.bool (!k))
theorem re_andT {t u : TE} {a b : Ev → (D → Prop) → Prop} (h1 : RfE K t a) (h2 : RfE K u b) : RfE K (tAndT K t u) (dAndT a b) := ⟨fun R q k => h1.run R q fun x v H1 q1 s1 r1 => by
  obtain ⟨c, tc, qc⟩ := tru_V (A := fun _ => False) (.r r1) q1
  refine ⟨c, tc, ?_⟩
  cases c with
  | true =>
    rw [if_pos rfl] at qc ⊢
    exact h2.run (R.step s1) qc fun d v H2 q2 s2 r2 => k d v H2 q2 (s1.trans s2) r2
  | false =>
    rw [if_neg Bool.false_ne_true] at qc ⊢
    exact k _ _ _ qc s1 r1⟩
theorem re_orT {t u : TE} {a b : Ev → (D → Prop) → Prop} (h1 : RfE K t a) (h2 : RfE K u b) : RfE K (tOrT K t u) (dOrT a b) := ⟨fun R q k => h1.run R q fun x v H1 q1 s1 r1 => by
  obtain ⟨c, tc, qc⟩ := tru_V (A := fun _ => False) (.r r1) q1
  refine ⟨c, tc, ?_⟩
  cases c with
  | true =>
    rw [if_pos rfl] at qc ⊢
    exact k _ _ _ qc s1 r1
  | false =>
    rw [if_neg Bool.false_ne_true] at qc ⊢
    exact h2.run (R.step s1) qc fun d v H2 q2 s2 r2 => k d v H2 q2 (s1.trans s2) r2⟩
theorem re_notT {t : TE} {a : Ev → (D → Prop) → Prop} (h : RfB K t a) : RfE K (tNotT K t) (dNotT a) := ⟨fun R q k => h.run R q fun x v H1 q1 s1 r1 => by
  obtain ⟨c, tc, qc⟩ := tru_V r1 q1
  exact ⟨c, tc, k _ _ _ qc s1 (.bl _)⟩⟩
end
/-! The typed layer: what is read of plain data, by kinds of data. -/
abbrev M (α : Type) := (α → Prop) → Prop
abbrev DEx := Ev → (D → Prop) → Prop
abbrev sv (d : D) : Option En := some (.d d)
abbrev so (ds : List D) : Option En := some (.own ds)
def eD (d : D) : D := d
abbrev eN : Unit → D := fun _ => .none
def eL {α : Type} (e : α → D) (xs : List α) : D := .list (xs.map e)
def eU {α : Type} (e : α → D) (xs : List α) : D := .tuple (xs.map e)
def eO {α : Type} (e : α → D) : Option α → D
  | none => .none
  | some a => e a
def eT0 (_ : Unit) : D := .tuple []
def eT1 {t0 : Type} (e0 : t0 → D) (p : t0) : D := .tuple [e0 p]
def eT2 {t0 t1 : Type} (e0 : t0 → D) (e1 : t1 → D) (p : t0 × t1) : D := .tuple [e0 p.1, e1 p.2]
def eT3 {t0 t1 t2 : Type} (e0 : t0 → D) (e1 : t1 → D) (e2 : t2 → D) (p : t0 × t1 × t2) : D := .tuple [e0 p.1, e1 p.2.1, e2 p.2.2]
def eT4 {t0 t1 t2 t3 : Type} (e0 : t0 → D) (e1 : t1 → D) (e2 : t2 → D) (e3 : t3 → D) (p : t0 × t1 × t2 × t3) : D := .tuple [e0 p.1, e1 p.2.1, e2 p.2.2.1, e3 p.2.2.2]
def eT5 {t0 t1 t2 t3 t4 : Type} (e0 : t0 → D) (e1 : t1 → D) (e2 : t2 → D) (e3 : t3 → D) (e4 : t4 → D) (p : t0 × t1 × t2 × t3 × t4) : D := .tuple [e0 p.1, e1 p.2.1, e2 p.2.2.1, e3 p.2.2.2.1, e4 p.2.2.2.2]
def eT6 {t0 t1 t2 t3 t4 t5 : Type} (e0 : t0 → D) (e1 : t1 → D) (e2 : t2 → D) (e3 : t3 → D) (e4 : t4 → D) (e5 : t5 → D) (p : t0 × t1 × t2 × t3 × t4 × t5) : D := .tuple [e0 p.1, e1 p.2.1, e2 p.2.2.1, e3 p.2.2.2.1, e4 p.2.2.2.2.1, e5 p.2.2.2.2.2]
def eT7 {t0 t1 t2 t3 t4 t5 t6 : Type} (e0 : t0 → D) (e1 : t1 → D) (e2 : t2 → D) (e3 : t3 → D) (e4 : t4 → D) (e5 : t5 → D) (e6 : t6 → D) (p : t0 × t1 × t2 × t3 × t4 × t5 × t6) : D := .tuple [e0 p.1, e1 p.2.1, e2 p.2.2.1, e3 p.2.2.2.1, e4 p.2.2.2.2.1, e5 p.2.2.2.2.2.1, e6 p.2.2.2.2.2.2]
def eT8 {t0 t1 t2 t3 t4 t5 t6 t7 : Type} (e0 : t0 → D) (e1 : t1 → D) (e2 : t2 → D) (e3 : t3 → D) (e4 : t4 → D) (e5 : t5 → D) (e6 : t6 → D) (e7 : t7 → D) (p : t0 × t1 × t2 × t3 × t4 × t5 × t6 × t7) : D := .tuple [e0 p.1, e1 p.2.1, e2 p.2.2.1, e3 p.2.2.2.1, e4 p.2.2.2.2.1, e5 p.2.2.2.2.2.1, e6 p.2.2.2.2.2.2.1, e7 p.2.2.2.2.2.2.2]
def eT9 {t0 t1 t2 t3 t4 t5 t6 t7 t8 : Type} (e0 : t0 → D) (e1 : t1 → D) (e2 : t2 → D) (e3 : t3 → D) (e4 : t4 → D) (e5 : t5 → D) (e6 : t6 → D) (e7 : t7 → D) (e8 : t8 → D) (p : t0 × t1 × t2 × t3 × t4 × t5 × t6 × t7 × t8) : D := .tuple [e0 p.1, e1 p.2.1, e2 p.2.2.1, e3 p.2.2.2.1, e4 p.2.2.2.2.1, e5 p.2.2.2.2.2.1, e6 p.2.2.2.2.2.2.1, e7 p.2.2.2.2.2.2.2.1, e8 p.2.2.2.2.2.2.2.2]
def eT10 {t0 t1 t2 t3 t4 t5 t6 t7 t8 t9 : Type} (e0 : t0 → D) (e1 : t1 → D) (e2 : t2 → D) (e3 : t3 → D) (e4 : t4 → D) (e5 : t5 → D) (e6 : t6 → D) (e7 : t7 → D) (e8 : t8 → D) (e9 : t9 → D) (p : t0 × t1 × t2 × t3 × t4 × t5 × t6 × t7 × t8 × t9) : D := .tuple [e0 p.1, e1 p.2.1, e2 p.2.2.1, e3 p.2.2.2.1, e4 p.2.2.2.2.1, e5 p.2.2.2.2.2.1, e6 p.2.2.2.2.2.2.1, e7 p.2.2.2.2.2.2.2.1, e8 p.2.2.2.2.2.2.2.2.1, e9 p.2.2.2.2.2.2.2.2.2]
def eT11 {t0 t1 t2 t3 t4 t5 t6 t7 t8 t9 t10 : Type} (e0 : t0 → D) (e1 : t1 → D) (e2 : t2 → D) (e3 : t3 → D) (e4 : t4 → D) (e5 : t5 → D) (e6 : t6 → D) (e7 : t7 → D) (e8 : t8 → D) (e9 : t9 → D) (e10 : t10 → D) (p : t0 × t1 × t2 × t3 × t4 × t5 × t6 × t7 × t8 × t9 × t10) : D := .tuple [e0 p.1, e1 p.2.1, e2 p.2.2.1, e3 p.2.2.2.1, e4 p.2.2.2.2.1, e5 p.2.2.2.2.2.1, e6 p.2.2.2.2.2.2.1, e7 p.2.2.2.2.2.2.2.1, e8 p.2.2.2.2.2.2.2.2.1, e9 p.2.2.2.2.2.2.2.2.2.1, e10 p.2.2.2.2.2.2.2.2.2.2]
def eT12 {t0 t1 t2 t3 t4 t5 t6 t7 t8 t9 t10 t11 : Type} (e0 : t0 → D) (e1 : t1 → D) (e2 : t2 → D) (e3 : t3 → D) (e4 : t4 → D) (e5 : t5 → D) (e6 : t6 → D) (e7 : t7 → D) (e8 : t8 → D) (e9 : t9 → D) (e10 : t10 → D) (e11 : t11 → D) (p : t0 × t1 × t2 × t3 × t4 × t5 × t6 × t7 × t8 × t9 × t10 × t11) : D := .tuple [e0 p.1, e1 p.2.1, e2 p.2.2.1, e3 p.2.2.2.1, e4 p.2.2.2.2.1, e5 p.2.2.2.2.2.1, e6 p.2.2.2.2.2.2.1, e7 p.2.2.2.2.2.2.2.1, e8 p.2.2.2.2.2.2.2.2.1, e9 p.2.2.2.2.2.2.2.2.2.1, e10 p.2.2.2.2.2.2.2.2.2.2.1, e11 p.2.2.2.2.2.2.2.2.2.2.2]
/-- de at env gives what F gives, written by e -/
def We {α : Type} (e : α → D) (de : DEx) (env : Ev) (F : M α) : Prop := ∀ (Q : D → Prop) (G : α → Prop), (∀ a, G a → Q (e a)) → F G → de env Q
def Wt (dt : Ev → (Bool → Prop) → Prop) (env : Ev) (F : M Bool) : Prop := ∀ (Q G : Bool → Prop), (∀ a, G a → Q a) → F G → dt env Q
def Wl {α : Type} (e : α → D) (df : Ev → (List D → Prop) → Prop) (env : Ev) (F : M (List α)) : Prop := ∀ (Q : List D → Prop) (G : List α → Prop), (∀ xs, G xs → Q (xs.map e)) → F G → df env Q
def Wo (dt : Ev → (Option Int → Prop) → Prop) (env : Ev) (F : M (Option Int)) : Prop := ∀ (Q G : Option Int → Prop), (∀ a, G a → Q a) → F G → dt env Q
/-! operations -/
abbrev letT {α : Type} (a : α) : M α := fun G => G a
def ixT {α : Type} (xs : List α) (i : Int) : M α := fun G => ∃ a, atI xs i = some a ∧ G a
def castT {α : Type} (e : α → D) (d : D) : M α := fun G => ∃ a, d = e a ∧ G a
def getT {α : Type} (o : Option α) : M α := fun G => ∃ a, o = some a ∧ G a
def iteT {α : Type} (k : Bool) (A B : M α) : M α := fun G => if k = true then A G else B G
def andT (a : Bool) (B : M Bool) : M Bool := fun G => if a = true then B G else G false
def orT (a : Bool) (B : M Bool) : M Bool := fun G => if a = true then G true else B G
def takeT (m : Int) : M Int := fun G => 0 < m ∧ m < 2 ^ 64 ∧ ∀ r, 0 ≤ r → r < m → G r
def take0T (m : Int) : M Int := fun G => m < 2 ^ 64 ∧ ∀ r, 0 ≤ r → (r < m ∨ r < 1) → G r
def pickT {α : Type} (xs : List α) : M α := fun G => xs ≠ [] ∧ xs.length ≤ 100000 ∧ ∀ a ∈ xs, G a
def numT (lo hi : Int) : M Int := fun G => lo ≤ hi ∧ (-(2 ^ 63) ≤ lo ∧ hi < 2 ^ 63) ∧ ∀ r, lo ≤ r → r ≤ hi → G r
def appT {α : Type} (xs : List α) (a : α) : M (List α) := fun G => xs.length ≤ 100000 ∧ G (xs ++ [a])
def setT {α : Type} (xs : List α) (k : Int) (a : α) : M (List α) := fun G => ∃ j, ixN xs.length k = some j ∧ G (xs.set j a)
def eqT (x y : D) : M Bool := fun G => okD x = true ∧ okD y = true ∧ G (PyData.eqv x y)
def reprT (d : D) : M Str := fun G => repOK d ∧ G d.shown
def sameT (n : Nat) (x y : D) : M Bool := fun G => x = y ∧ smD n y = true ∧ G true
def rngT (lo : Int) (n : Nat) : List Int := (List.range n).map fun i => lo + (i : Nat)
def enumT {α : Type} (n : Nat) : List α → List (Int × α)
  | [] => []
  | a :: r => ((n : Int), a) :: enumT (n + 1) r
def lcT {α β : Type} (B : α → M (Option β)) : List α → M (List β)
  | [], G => G []
  | a :: r, G => B a fun o => match o with
    | some b => lcT B r fun ys => G (b :: ys)
    | none => lcT B r G
def compT {α β : Type} (xs : List α) (B : α → M (Option β)) : M (List β) := fun G => xs.length ≤ 100000 ∧ lcT B xs G
theorem atI_map {α β : Type} (f : α → β) (xs : List α) (i : Int) : atI (xs.map f) i = (atI xs i).map f := by
  unfold atI
  rw [List.length_map]
  cases ixN xs.length i with
  | none => rfl
  | some k => exact List.getElem?_map
theorem lcT_map {α β : Type} (f : α → β) : ∀ (xs : List α) (G : List β → Prop), lcT (fun a H => H (some (f a))) xs G ↔ G (xs.map f)
  | [], _ => Iff.rfl
  | a :: r, G => lcT_map f r fun ys => G (f a :: ys)
theorem lcT_filter {α β : Type} (t : α → Bool) (f : α → β) : ∀ (xs : List α) (G : List β → Prop), lcT (fun a H => if t a = true then H (some (f a)) else H none) xs G ↔ G ((xs.filter t).map f)
  | [], _ => Iff.rfl
  | a :: r, G => by
    unfold lcT
    cases h : t a with
    | true => rw [if_pos rfl, List.filter_cons, h, if_pos rfl]; exact lcT_filter t f r fun ys => G (f a :: ys)
    | false => rw [if_neg Bool.false_ne_true, List.filter_cons, h, if_neg Bool.false_ne_true]; exact lcT_filter t f r G
theorem rng_T (lo : Int) (n : Nat) : rng lo n = (rngT lo n).map PyData.int := by
  unfold rng rngT
  rw [List.map_map]
  rfl
theorem enum_T {α : Type} (e : α → D) : ∀ (n : Nat) (xs : List α), enumD n (xs.map e) = (enumT n xs).map (eT2 PyData.int e)
  | _, [] => rfl
  | n, a :: r => congrArg (PyData.tuple [.int (n : Nat), e a] :: ·) (enum_T e (n + 1) r)
theorem zip_T {α β : Type} (e : α → D) (e' : β → D) (xs : List α) (ys : List β) : zipD (xs.map e) (ys.map e') = (xs.zip ys).map (eT2 e e') := zip_map e e' xs ys
section
variable {α β γ : Type} {e e1 e2 : α → D} {e' : β → D} {env : Ev} {de da db dc' : DEx} {F : M α} {F' : M β}
theorem w_mono {F2 : M α} (h : We e de env F) (hF : ∀ G, F2 G → F G) : We e de env F2 := fun Q G hG f => h Q G hG (hF G f)
theorem w_name {i : Nat} {x : α} (h : eget env i = some (.d (e x))) : We e (dN i) env (fun G => G x) := fun Q G hG f => by unfold dN; rw [h]; exact hG x f
theorem w_nameB {i : Nat} {x : α} (h : eget env i = some (.d (e x))) : We e (dNB i) env (fun G => G x) := fun Q G hG f => by unfold dNB; rw [h]; exact hG x f
theorem w_nameO {i : Nat} {x : List α} (h : eget env i = some (.own (x.map e))) : We (eL e) (dNB i) env (fun G => G x) := fun Q G hG f => by unfold dNB; rw [h]; exact hG x f
theorem w_dC {d : D} {x : α} (h : d = e x) : We e (dC d) env (fun G => G x) := fun Q G hG f => by rw [h]; exact hG x f
/-- another kind for the same data -/
theorem w_co (c : α → β) (h : We e de env F) (hc : ∀ a, e' (c a) = e a) : We e' de env (fun G => F fun a => G (c a)) := fun Q G hG f => h _ _ (fun a ha => by rw [← hc]; exact hG _ ha) f
theorem w_cast {F : M D} (h : We eD de env F) : We e de env (fun G => F fun d => castT e d G) := fun Q G hG f => h _ _ (fun d ⟨a, ha, g⟩ => by show Q d; rw [ha]; exact hG a g) f
theorem w_get {F : M (Option α)} (h : We (eO e) de env F) : We e de env (fun G => F fun o => getT o G) := fun Q G hG f => h _ _ (fun o ⟨a, ha, g⟩ => by rw [ha]; exact hG a g) f
theorem w_I0 {g : Int → Int → D} {g' : Int → Int → γ} {e' : γ → D} {F F' : M Int} (ha : We PyData.int da env F) (hb : We PyData.int db env F') (hg : ∀ i j, e' (g' i j) = g i j) :
    We e' (dOp (oI0 g) da db) env (fun G => F fun a => F' fun b => G (g' a b)) := fun Q G hG f => ha _ _ (fun a h1 => hb _ _ (fun b h2 => by show Q (g a b); rw [← hg]; exact hG _ h2) h1) f
theorem w_I {C : Int → Int → Prop} {g : Int → Int → D} {g' : Int → Int → γ} {e' : γ → D} {F F' : M Int} (ha : We PyData.int da env F) (hb : We PyData.int db env F') (hg : ∀ i j, e' (g' i j) = g i j) :
    We e' (dOp (oI C g) da db) env (fun G => F fun a => F' fun b => C a b ∧ G (g' a b)) := fun Q G hG f => ha _ _ (fun a h1 => hb _ _ (fun b h2 => ⟨h2.1, by rw [← hg]; exact hG _ h2.2⟩) h1) f
theorem w_neg {F : M Int} (ha : We PyData.int da env F) : We PyData.int (dUn oNeg da) env (fun G => F fun a => G (-a)) := fun Q G hG f => ha _ _ (fun a h1 => hG _ h1) f
theorem w_eqS {r : α → β → Bool} (ha : We e da env F) (hb : We e' db env F') (hr : ∀ a b, eqS (e a) (e' b) = some (r a b)) : We PyData.bool (dOp (oEqS false) da db) env (fun G => F fun a => F' fun b => G (r a b)) :=
  fun Q G hG f => ha _ _ (fun a h1 => hb _ _ (fun b h2 => by unfold oEqS; rw [hr]; exact hG _ h2) h1) f
theorem w_neS {r : α → β → Bool} (ha : We e da env F) (hb : We e' db env F') (hr : ∀ a b, eqS (e a) (e' b) = some (r a b)) : We PyData.bool (dOp (oEqS true) da db) env (fun G => F fun a => F' fun b => G (!r a b)) :=
  fun Q G hG f => ha _ _ (fun a h1 => hb _ _ (fun b h2 => by unfold oEqS; rw [hr]; exact hG _ h2) h1) f
theorem r_I (a b : Int) : eqS (.int a) (.int b) = some (decide (a = b)) := rfl
theorem r_S (a b : Str) : eqS (.str a) (.str b) = some (decide (a = b)) := rfl
theorem r_B (a b : Bool) : eqS (.bool a) (.bool b) = some (decide (a = b)) := rfl
theorem r_OI (a : Option Int) (b : Int) : eqS (eO PyData.int a) (.int b) = some (decide (a = some b)) := by cases a <;> simp [eO, eqS]
theorem r_OS (a : Option Str) (b : Str) : eqS (eO PyData.str a) (.str b) = some (decide (a = some b)) := by cases a <;> simp [eO, eqS]
theorem r_IO (a : Int) (b : Option Int) : eqS (.int a) (eO PyData.int b) = some (decide (some a = b)) := by cases b <;> simp [eO, eqS]
theorem r_SO (a : Str) (b : Option Str) : eqS (.str a) (eO PyData.str b) = some (decide (some a = b)) := by cases b <;> simp [eO, eqS]
theorem r_OOI (a b : Option Int) : eqS (eO PyData.int a) (eO PyData.int b) = some (decide (a = b)) := by cases a <;> cases b <;> simp [eO, eqS]
theorem r_OOS (a b : Option Str) : eqS (eO PyData.str a) (eO PyData.str b) = some (decide (a = b)) := by cases a <;> cases b <;> simp [eO, eqS]
theorem w_eqD (ha : We e da env F) (hb : We e' db env F') : We PyData.bool (dOp (oEq false) da db) env (fun G => F fun a => F' fun b => eqT (e a) (e' b) G) :=
  fun Q G hG f => ha _ _ (fun a h1 => hb _ _ (fun b h2 => ⟨h2.1, h2.2.1, hG _ h2.2.2⟩) h1) f
theorem w_neD (ha : We e da env F) (hb : We e' db env F') : We PyData.bool (dOp (oEq true) da db) env (fun G => F fun a => F' fun b => eqT (e a) (e' b) fun k => G (!k)) :=
  fun Q G hG f => ha _ _ (fun a h1 => hb _ _ (fun b h2 => ⟨h2.1, h2.2.1, hG _ h2.2.2⟩) h1) f
theorem w_isN {r : α → Bool} (ha : We e da env F) (hr : ∀ a, isNo (e a) = r a) : We PyData.bool (dOp (oIsN false) da (dC .none)) env (fun G => F fun a => G (r a)) :=
  fun Q G hG f => ha _ _ (fun a h1 => by show Q (.bool (isNo (e a))); rw [hr]; exact hG _ h1) f
theorem w_notN {r : α → Bool} (ha : We e da env F) (hr : ∀ a, isNo (e a) = r a) : We PyData.bool (dOp (oIsN true) da (dC .none)) env (fun G => F fun a => G (!r a)) :=
  fun Q G hG f => ha _ _ (fun a h1 => by show Q (.bool (!isNo (e a))); rw [hr]; exact hG _ h1) f
def WNo (e : α → D) : Prop := ∀ a, isNo (e a) = false
theorem n_O (h : ∀ a, isNo (e a) = false) (o : Option α) : isNo (eO e o) = o.isNone := by
  cases o with
  | none => rfl
  | some a => exact h a
theorem w_isB {F F' : M Bool} (g : Bool → Bool → Bool) (ha : We PyData.bool da env F) (hb : We PyData.bool db env F') : We PyData.bool (dOp (oB g) da db) env (fun G => F fun a => F' fun b => G (g a b)) :=
  fun Q G hG f => ha _ _ (fun a h1 => hb _ _ (fun b h2 => hG _ h2) h1) f
theorem w_inG {F' : M (List β)} {es : List β → D} (ha : We e da env F) (hb : We es db env F') (hs : ∀ ys, seqOf (es ys) = some (ys.map e')) : We PyData.bool (dOp (oIn false) da db) env (fun G => F fun a => F' fun b => flatD (e a) = true ∧ (b.map e').all flatD = true ∧ G (inD (e a) (b.map e'))) :=
  fun Q G hG f => ha _ _ (fun a h1 => hb _ _ (fun b h2 => by unfold oIn; rw [hs]; exact ⟨h2.1, h2.2.1, hG _ h2.2.2⟩) h1) f
theorem w_ninG {F' : M (List β)} {es : List β → D} (ha : We e da env F) (hb : We es db env F') (hs : ∀ ys, seqOf (es ys) = some (ys.map e')) : We PyData.bool (dOp (oIn true) da db) env (fun G => F fun a => F' fun b => flatD (e a) = true ∧ (b.map e').all flatD = true ∧ G (!inD (e a) (b.map e'))) :=
  fun Q G hG f => ha _ _ (fun a h1 => hb _ _ (fun b h2 => by unfold oIn; rw [hs]; exact ⟨h2.1, h2.2.1, hG _ h2.2.2⟩) h1) f
/-- flat things in a row: by equality -/
structure FlE (e : α → D) : Prop where
  f : ∀ a, flatD (e a) = true
  e : ∀ a b, PyData.eqv (e a) (e b) = true ↔ a = b
theorem fl_all (h : FlE e) : ∀ xs : List α, (xs.map e).all flatD = true
  | [] => rfl
  | a :: r => by rw [List.map_cons, List.all_cons, h.f, fl_all h r]; rfl
theorem fl_in [DecidableEq α] (h : FlE e) (a : α) : ∀ xs : List α, inD (e a) (xs.map e) = decide (a ∈ xs)
  | [] => by simp [inD]
  | b :: r => by
    have ih := fl_in h a r
    unfold inD at ih ⊢
    rw [List.map_cons, List.any_cons, ih]
    have k := h.e b a
    cases hb : PyData.eqv (e b) (e a) with
    | true => have := k.mp hb; subst this; simp
    | false =>
      have : ¬ (a = b) := fun z => by rw [hb] at k; exact absurd (k.mpr z.symm) (by simp)
      simp [this]
theorem w_in [DecidableEq α] {F' : M (List α)} {es : List α → D} (fl : FlE e) (ha : We e da env F) (hb : We es db env F') (hs : ∀ ys, seqOf (es ys) = some (ys.map e)) : We PyData.bool (dOp (oIn false) da db) env (fun G => F fun a => F' fun b => G (decide (a ∈ b))) :=
  w_mono (w_inG ha hb hs) fun G f => by simpa only [fl.f, fl_all fl, fl_in fl, true_and] using f
theorem w_nin [DecidableEq α] {F' : M (List α)} {es : List α → D} (fl : FlE e) (ha : We e da env F) (hb : We es db env F') (hs : ∀ ys, seqOf (es ys) = some (ys.map e)) : We PyData.bool (dOp (oIn true) da db) env (fun G => F fun a => F' fun b => G (!decide (a ∈ b))) :=
  w_mono (w_ninG ha hb hs) fun G f => by simpa only [fl.f, fl_all fl, fl_in fl, true_and] using f
theorem fl_I : FlE PyData.int := ⟨fun _ => rfl, fun a b => by simp [PyData.eqv]⟩
theorem fl_S : FlE PyData.str := ⟨fun _ => rfl, fun a b => by simp [PyData.eqv]⟩
theorem w_inS {F F' : M Str} (ha : We PyData.str da env F) (hb : We PyData.str db env F') : We PyData.bool (dOp (oInS false) da db) env (fun G => F fun a => F' fun b => ∃ c, a = ⟨#[c]⟩ ∧ G (decide (c ∈ b.cps.toList))) :=
  fun Q G hG f => ha _ _ (fun a h1 => hb _ _ (fun b ⟨c, h2, h3⟩ => ⟨c, h2, hG _ h3⟩) h1) f
theorem w_ninS {F F' : M Str} (ha : We PyData.str da env F) (hb : We PyData.str db env F') : We PyData.bool (dOp (oInS true) da db) env (fun G => F fun a => F' fun b => ∃ c, a = ⟨#[c]⟩ ∧ G (!decide (c ∈ b.cps.toList))) :=
  fun Q G hG f => ha _ _ (fun a h1 => hb _ _ (fun b ⟨c, h2, h3⟩ => ⟨c, h2, hG _ h3⟩) h1) f
theorem w_inDp {F' : M (List β)} (ha : We e da env F) (hb : We (eL e') db env F') : We PyData.bool (dOp (oInDp false) da db) env (fun G => F fun a => F' fun b => okD (e a) = true ∧ okD (eL e' b) = true ∧ G (inD (e a) (b.map e'))) :=
  fun Q G hG f => ha _ _ (fun a h1 => hb _ _ (fun b h2 => ⟨h2.1, h2.2.1, hG _ h2.2.2⟩) h1) f
theorem w_ninDp {F' : M (List β)} (ha : We e da env F) (hb : We (eL e') db env F') : We PyData.bool (dOp (oInDp true) da db) env (fun G => F fun a => F' fun b => okD (e a) = true ∧ okD (eL e' b) = true ∧ G (!inD (e a) (b.map e'))) :=
  fun Q G hG f => ha _ _ (fun a h1 => hb _ _ (fun b h2 => ⟨h2.1, h2.2.1, hG _ h2.2.2⟩) h1) f
theorem w_and {F F' : M Bool} (ha : We PyData.bool da env F) (hb : We PyData.bool db env F') : We PyData.bool (dAndV da db) env (fun G => F fun a => andT a F' G) :=
  fun Q G hG f => ha _ _ (fun a h1 => by
    unfold andT at h1
    show if a = true then _ else _
    by_cases c : a = true
    · rw [if_pos c] at h1 ⊢; exact hb _ _ hG h1
    · rw [if_neg c] at h1 ⊢; exact hG _ h1) f
theorem w_or {F F' : M Bool} (ha : We PyData.bool da env F) (hb : We PyData.bool db env F') : We PyData.bool (dOrV da db) env (fun G => F fun a => orT a F' G) :=
  fun Q G hG f => ha _ _ (fun a h1 => by
    unfold orT at h1
    show if a = true then _ else _
    by_cases c : a = true
    · rw [if_pos c] at h1 ⊢; exact hG _ h1
    · rw [if_neg c] at h1 ⊢; exact hb _ _ hG h1) f
theorem w_andP {F : M Bool} {b : Bool} (ha : We PyData.bool da env F) (hb : We PyData.bool db env (fun G => G b)) : We PyData.bool (dAndV da db) env (fun G => F fun a => G (a && b)) := w_mono (w_and ha hb) fun G f => by
  have : (fun a => andT a (fun G => G b) G) = fun a => G (a && b) := by funext a; unfold andT; cases a <;> simp
  rw [this]; exact f
theorem w_orP {F : M Bool} {b : Bool} (ha : We PyData.bool da env F) (hb : We PyData.bool db env (fun G => G b)) : We PyData.bool (dOrV da db) env (fun G => F fun a => G (a || b)) := w_mono (w_or ha hb) fun G f => by
  have : (fun a => orT a (fun G => G b) G) = fun a => G (a || b) := by funext a; unfold orT; cases a <;> simp
  rw [this]; exact f
theorem w_not {F : M Bool} (ha : We PyData.bool da env F) : We PyData.bool (dNotV da) env (fun G => F fun a => G (!a)) := fun Q G hG f => ha _ _ (fun a h1 => hG _ h1) f
theorem t_val {F : M Bool} (ha : We PyData.bool da env F) : Wt (dTb da) env F := fun Q G hG f => ha _ _ (fun a h1 => hG _ h1) f
/-- the truth of what de gives -/
def Wtr (de : DEx) (env : Ev) (F : M Bool) : Prop := ∀ (Q G : Bool → Prop), (∀ b, G b → Q b) → F G → de env fun x => tru x Q
def TruOf (e : α → D) (r : α → Bool) : Prop := ∀ a (Q : Bool → Prop), Q (r a) → tru (e a) Q
theorem tr_I : TruOf PyData.int fun i => !decide (i = 0) := fun _ _ q => q
theorem tr_B : TruOf PyData.bool fun b => b := fun _ _ q => q
theorem tr_N : TruOf eN fun _ => false := fun _ _ q => q
theorem tr_L : TruOf (eL e) fun xs => !xs.isEmpty := fun xs Q q => by cases xs <;> exact q
theorem tr_U : TruOf (eU e) fun xs => !xs.isEmpty := fun xs Q q => by cases xs <;> exact q
theorem tr_of {r : α → Bool} (hr : TruOf e r) (h : We e de env F) : Wtr de env (fun G => F fun a => G (r a)) := fun Q G hG f => h _ _ (fun a g => hr a Q (hG _ g)) f
theorem tr_S {F : M Str} (h : We PyData.str de env F) : Wtr de env (fun G => F fun z => z.length ≤ sizeLine ∧ G (!decide ((z.length : Int) = 0))) := fun Q G hG f => h _ _ (fun a g => ⟨g.1, hG _ g.2⟩) f
theorem tr_D {F : M D} (h : We eD de env F) : Wtr de env (fun G => F fun z => ∃ b, tru z (fun k => k = b) ∧ G b) := fun Q G hG f => h _ _ (fun a ⟨b, t, g⟩ => by
    have k : ∀ d : D, tru d (fun k => k = b) → tru d Q := by
      intro d t
      have z := hG _ g
      cases d <;> simp only [tru] at t ⊢ <;> first | (rw [t]; exact z) | exact ⟨t.1, by rw [t.2]; exact z⟩
    exact k _ t) f
theorem tr_and {r : α → Bool} {C : M Bool} (hr : TruOf e r) (ha : We e da env F) (hb : Wtr db env C) : Wtr (dAndT da db) env (fun G => F fun a => andT (r a) C G) := fun Q G hG f => ha _ _ (fun a g => hr a _ (by
    unfold andT at g
    by_cases z : r a = true
    · rw [if_pos z] at g ⊢; exact hb _ _ hG g
    · rw [if_neg z] at g ⊢
      have w := hG _ g
      rw [← Bool.eq_false_iff.mpr z] at w
      exact hr a _ w)) f
theorem tr_or {r : α → Bool} {C : M Bool} (hr : TruOf e r) (ha : We e da env F) (hb : Wtr db env C) : Wtr (dOrT da db) env (fun G => F fun a => orT (r a) C G) := fun Q G hG f => ha _ _ (fun a g => hr a _ (by
    unfold orT at g
    by_cases z : r a = true
    · rw [if_pos z] at g ⊢
      have w := hG _ g
      rw [← z] at w
      exact hr a _ w
    · rw [if_neg z] at g ⊢; exact hb _ _ hG g)) f
theorem tr_mono {C C2 : M Bool} (h : Wtr de env C) (hF : ∀ G, C2 G → C G) : Wtr de env C2 := fun Q G hG f => h Q G hG (hF G f)
theorem tr_andP {r : α → Bool} {b : Bool} (hr : TruOf e r) (ha : We e da env F) (hb : Wtr db env (fun G => G b)) : Wtr (dAndT da db) env (fun G => F fun a => G (r a && b)) := tr_mono (tr_and hr ha hb) fun G f => by
  have : (fun a => andT (r a) (fun G => G b) G) = fun a => G (r a && b) := by funext a; unfold andT; cases r a <;> simp
  rw [this]; exact f
theorem tr_orP {r : α → Bool} {b : Bool} (hr : TruOf e r) (ha : We e da env F) (hb : Wtr db env (fun G => G b)) : Wtr (dOrT da db) env (fun G => F fun a => G (r a || b)) := tr_mono (tr_or hr ha hb) fun G f => by
  have : (fun a => orT (r a) (fun G => G b) G) = fun a => G (r a || b) := by funext a; unfold orT; cases r a <;> simp
  rw [this]; exact f
theorem w_notT {C : M Bool} (h : Wtr de env C) : We PyData.bool (dNotT de) env (fun G => C fun k => G (!k)) := fun Q G hG f => h (fun k => Q (.bool (!k))) (fun k => G (!k)) (fun k g => hG _ g) f
theorem t_tru {C : M Bool} (h : Wtr de env C) : Wt (dTru de) env C := fun Q G hG f => h Q G hG f
theorem t_yes : Wt dYes env (fun G => G true) := fun Q G hG f => hG _ f
section
variable {ta tb : Ev → (Bool → Prop) → Prop} {C C' : M Bool}
theorem t_and (ha : Wt ta env C) (hb : Wt tb env C') : Wt (dAnd ta tb) env (fun G => C fun a => andT a C' G) := fun Q G hG f => ha _ _ (fun a h1 => by
    unfold andT at h1
    by_cases c : a = true
    · rw [if_pos c] at h1 ⊢; exact hb _ _ hG h1
    · rw [if_neg c] at h1 ⊢; exact hG _ h1) f
theorem t_or (ha : Wt ta env C) (hb : Wt tb env C') : Wt (dOr ta tb) env (fun G => C fun a => orT a C' G) := fun Q G hG f => ha _ _ (fun a h1 => by
    unfold orT at h1
    by_cases c : a = true
    · rw [if_pos c] at h1 ⊢; exact hG _ h1
    · rw [if_neg c] at h1 ⊢; exact hb _ _ hG h1) f
theorem t_mono {C2 : M Bool} (h : Wt ta env C) (hF : ∀ G, C2 G → C G) : Wt ta env C2 := fun Q G hG f => h Q G hG (hF G f)
theorem t_andP {b : Bool} (ha : Wt ta env C) (hb : Wt tb env (fun G => G b)) : Wt (dAnd ta tb) env (fun G => C fun a => G (a && b)) := t_mono (t_and ha hb) fun G f => by
  have : (fun a => andT a (fun G => G b) G) = fun a => G (a && b) := by funext a; unfold andT; cases a <;> simp
  rw [this]; exact f
theorem t_orP {b : Bool} (ha : Wt ta env C) (hb : Wt tb env (fun G => G b)) : Wt (dOr ta tb) env (fun G => C fun a => G (a || b)) := t_mono (t_or ha hb) fun G f => by
  have : (fun a => orT a (fun G => G b) G) = fun a => G (a || b) := by funext a; unfold orT; cases a <;> simp
  rw [this]; exact f
theorem t_not (ha : Wt ta env C) : Wt (dNot ta) env (fun G => C fun a => G (!a)) := fun Q G hG f => ha _ _ (fun a h1 => hG _ h1) f
theorem w_if {A B : M α} (hc : Wt ta env C) (ha : We e da env A) (hb : We e db env B) : We e (dIfV ta da db) env (fun G => C fun k => iteT k A B G) := fun Q G hG f => hc _ _ (fun k h1 => by
    unfold iteT at h1
    by_cases c : k = true
    · rw [if_pos c] at h1 ⊢; exact ha _ _ hG h1
    · rw [if_neg c] at h1 ⊢; exact hb _ _ hG h1) f
theorem w_ifP {a b : α} (hc : Wt ta env C) (ha : We e da env (fun G => G a)) (hb : We e db env (fun G => G b)) : We e (dIfV ta da db) env (fun G => C fun k => G (if k = true then a else b)) := w_mono (w_if hc ha hb) fun G f => by
  have : (fun k => iteT k (fun G => G a) (fun G => G b) G) = fun k => G (if k = true then a else b) := by funext k; unfold iteT; cases k <;> simp
  rw [this]; exact f
end
theorem w_chain {op op' : D → D → (D → Prop) → Prop} {F3 : M γ} {e3 : γ → D} {r : α → β → Bool} {r' : β → γ → Bool} (ha : We e da env F) (hb : We e' db env F') (hc : We e3 dc' env F3)
    (h1 : ∀ a b Q, Q (.bool (r a b)) → op (e a) (e' b) Q) (h2 : ∀ a b Q, Q (.bool (r' a b)) → op' (e' a) (e3 b) Q) : We PyData.bool (dChain op op' da db dc') env (fun G => F fun a => F' fun b => andT (r a b) (fun G => F3 fun c => G (r' b c)) G) :=
  fun Q G hG f => ha _ _ (fun a f1 => hb _ _ (fun b f2 => h1 _ _ _ (by
    unfold andT at f2
    show if r a b = true then _ else _
    by_cases c : r a b = true
    · rw [if_pos c] at f2 ⊢; exact hc _ _ (fun c' f3 => h2 _ _ _ (hG _ f3)) f2
    · rw [if_neg c] at f2 ⊢; exact hG _ f2)) f1) f
theorem w_chainP {op op' : D → D → (D → Prop) → Prop} {c : γ} {e3 : γ → D} {r : α → β → Bool} {r' : β → γ → Bool} (ha : We e da env F) (hb : We e' db env F') (hc : We e3 dc' env (fun G => G c))
    (h1 : ∀ a b Q, Q (.bool (r a b)) → op (e a) (e' b) Q) (h2 : ∀ a b Q, Q (.bool (r' a b)) → op' (e' a) (e3 b) Q) : We PyData.bool (dChain op op' da db dc') env (fun G => F fun a => F' fun b => G (r a b && r' b c)) :=
  w_mono (w_chain ha hb hc h1 h2) fun G f => by
    have : (fun a => F' fun b => andT (r a b) (fun G => G (r' b c)) G) = fun a => F' fun b => G (r a b && r' b c) := by
      funext a; congr 1; funext b; unfold andT; cases r a b <;> simp
    rw [this]; exact f
theorem w_list {df : Ev → (List D → Prop) → Prop} {F : M (List α)} (h : Wl e df env F) : We (eL e) (dL df) env F := fun Q G hG f => h _ _ (fun xs h1 => hG _ h1) f
theorem l_nil : Wl e dNil env (fun G => G []) := fun Q G hG f => hG _ f
theorem l_cons {das : Ev → (List D → Prop) → Prop} {Fs : M (List α)} (h : We e da env F) (hs : Wl e das env Fs) : Wl e (dCons da das) env (fun G => F fun x => Fs fun xs => G (x :: xs)) := fun Q G hG f => h _ _ (fun a h1 => hs _ _ (fun xs h2 => hG (a :: xs) h2) h1) f
theorem l_dCL {xs : List α} {ds : List D} (h : ds = xs.map e) : Wl e (dCL ds) env (fun G => G xs) := fun Q G hG f => by show Q ds; rw [h]; exact hG _ f
theorem l_co {df : Ev → (List D → Prop) → Prop} {F : M (List α)} (c : α → β) (h : Wl e df env F) (hc : ∀ a, e' (c a) = e a) : Wl e' df env (fun G => F fun xs => G (xs.map c)) := fun Q G hG f => h _ _ (fun xs h1 => by
  have z := hG _ h1
  rw [List.map_map, show e' ∘ c = e from funext hc] at z
  exact z) f
theorem co_L (c : α → β) (hc : ∀ a, e' (c a) = e a) (xs : List α) : eL e' (xs.map c) = eL e xs := by unfold eL; rw [List.map_map, show e' ∘ c = e from funext hc]
theorem co_U (c : α → β) (hc : ∀ a, e' (c a) = e a) (xs : List α) : eU e' (xs.map c) = eU e xs := by unfold eU; rw [List.map_map, show e' ∘ c = e from funext hc]
theorem co_O (c : α → β) (hc : ∀ a, e' (c a) = e a) (o : Option α) : eO e' (o.map c) = eO e o := by cases o with | none => rfl | some a => exact hc a
/-- one part of a row that is known -/
theorem w_prj (i : Int) (p : α → β) (h : We e da env F) (hp : ∀ a, ∃ ds, seqOf (e a) = some ds ∧ dix ds i = some (e' (p a))) : We e' (dOp oIx da (dC (.int i))) env (fun G => F fun a => G (p a)) :=
  fun Q G hG f => h _ _ (fun a h1 => by
    obtain ⟨ds, s1, s2⟩ := hp a
    show oIx (e a) (.int i) Q
    unfold oIx
    rw [s1]
    show match dix ds i with | some d => Q d | none => False
    rw [s2]
    exact hG _ h1) f
theorem ix_run {x : D} {ds : List D} {i : Int} {d : D} {Q : D → Prop} (hs : seqOf x = some ds) (hd : dix ds i = some d) (q : Q d) : oIx x (.int i) Q := by
  unfold oIx
  rw [hs]
  show match dix ds i with | some d => Q d | none => False
  rw [hd]
  exact q
theorem w_ix {F : M (List α)} {F' : M Int} {es : List α → D} (h : We es da env F) (hi : We PyData.int db env F') (hs : ∀ xs, seqOf (es xs) = some (xs.map e)) : We e (dOp oIx da db) env (fun G => F fun xs => F' fun i => ixT xs i G) :=
  fun Q G hG f => h _ _ (fun xs h1 => hi _ _ (fun i ⟨a, ha, h2⟩ => ix_run (hs xs) (show dix (xs.map e) i = some (e a) by unfold dix; rw [atI_map, ha]; rfl) (hG _ h2)) h1) f
/-- a part of unknown data -/
def ixD (d : D) (i : Int) : M D := fun G => oIx d (.int i) G
theorem oIx_mono {x y : D} {Q R : D → Prop} (h : ∀ d, Q d → R d) (q : oIx x y Q) : oIx x y R := by
  unfold oIx at q ⊢
  split at q
  · rename_i ds i e
    split at q
    · exact h _ q
    · exact q.elim
  · exact q.elim
theorem w_ixD {F : M D} {F' : M Int} (h : We eD da env F) (hi : We PyData.int db env F') : We eD (dOp oIx da db) env (fun G => F fun x => F' fun i => ixD x i G) :=
  fun Q G hG f => h _ _ (fun x h1 => hi _ _ (fun i h2 => oIx_mono hG h2) h1) f
def ixST (z : Str) (i : Int) : M Str := fun G => z.length ≤ sizeLine ∧ ∃ c, atI z.cps.toList i = some c ∧ G ⟨#[c]⟩
theorem w_ixS {F : M Str} {F' : M Int} (h : We PyData.str da env F) (hi : We PyData.int db env F') : We PyData.str (dOp oIxS da db) env (fun G => F fun xs => F' fun i => ixST xs i G) :=
  fun Q G hG f => h _ _ (fun xs h1 => hi _ _ (fun i ⟨l, c, ha, h2⟩ => ⟨l, c, ha, hG _ h2⟩) h1) f
theorem o_no : Wo dNoP env (fun G => G none) := fun Q G hG f => hG _ f
theorem o_some {F : M Int} (h : We PyData.int da env F) : Wo (dPart da) env (fun G => F fun i => G (some i)) := fun Q G hG f => h _ _ (fun a h1 => hG _ h1) f
theorem cut_map {α β : Type} (f : α → β) (xs : List α) (lo hi : Option Int) : cutD (xs.map f) lo hi = (cutD xs lo hi).map f := by
  unfold cutD
  rw [List.length_map, List.map_take, List.map_drop]
section
variable {dl dh : Ev → (Option Int → Prop) → Prop} {Fl Fh : M (Option Int)}
theorem w_slU {F : M (List α)} (h : We (eU e) da env F) (hl : Wo dl env Fl) (hh : Wo dh env Fh) : We (eU e) (dSlT da dl dh) env (fun G => F fun xs => Fl fun l => Fh fun k => G (cutD xs l k)) :=
  fun Q G hG f => h _ _ (fun xs h1 => hl _ _ (fun l h2 => hh _ _ (fun k h3 => by show Q (.tuple (cutD (xs.map e) l k)); rw [cut_map]; exact hG _ h3) h2) h1) f
theorem w_slL {F : M (List α)} (h : We (eL e) da env F) (hl : Wo dl env Fl) (hh : Wo dh env Fh) : Wl e (dSlL da dl dh) env (fun G => F fun xs => Fl fun l => Fh fun k => G (cutD xs l k)) :=
  fun Q G hG f => h _ _ (fun xs h1 => hl _ _ (fun l h2 => hh _ _ (fun k h3 => by show Q (cutD (xs.map e) l k); rw [cut_map]; exact hG _ h3) h2) h1) f
theorem w_slS {F : M Str} (h : We PyData.str da env F) (hl : Wo dl env Fl) (hh : Wo dh env Fh) : We PyData.str (dSlS da dl dh) env (fun G => F fun xs => Fl fun l => Fh fun k => xs.length ≤ sizeLine ∧ G (cutS xs l k)) :=
  fun Q G hG f => h _ _ (fun xs h1 => hl _ _ (fun l h2 => hh _ _ (fun k h3 => ⟨h3.1, hG _ h3.2⟩) h2) h1) f
end
theorem w_cat {F F' : M (List α)} (h : We (eL e) da env F) (h' : We (eL e) db env F') : We (eL e) (dOp oCat da db) env (fun G => F fun a => F' fun b => a.length + b.length ≤ sizeLine ∧ G (a ++ b)) :=
  fun Q G hG f => h _ _ (fun xs h1 => h' _ _ (fun ys h2 => by
    show (xs.map e).length + (ys.map e).length ≤ sizeLine ∧ Q (.list (xs.map e ++ ys.map e))
    rw [List.length_map, List.length_map, ← List.map_append]
    exact ⟨h2.1, hG _ h2.2⟩) h1) f
theorem w_catU {F F' : M (List α)} (h : We (eU e) da env F) (h' : We (eU e) db env F') : We (eU e) (dOp oCatT da db) env (fun G => F fun a => F' fun b => a.length + b.length ≤ sizeLine ∧ G (a ++ b)) :=
  fun Q G hG f => h _ _ (fun xs h1 => h' _ _ (fun ys h2 => by
    show (xs.map e).length + (ys.map e).length ≤ sizeLine ∧ Q (.tuple (xs.map e ++ ys.map e))
    rw [List.length_map, List.length_map, ← List.map_append]
    exact ⟨h2.1, hG _ h2.2⟩) h1) f
theorem w_catG {e3 : γ → D} (c : α → β → γ) (h : We e da env F) (h' : We e' db env F') (hc : ∀ a b, ∃ xs ys, e a = .tuple xs ∧ e' b = .tuple ys ∧ e3 (c a b) = .tuple (xs ++ ys) ∧ xs.length + ys.length ≤ sizeLine) : We e3 (dOp oCatT da db) env (fun G => F fun a => F' fun b => G (c a b)) :=
  fun Q G hG f => h _ _ (fun a h1 => h' _ _ (fun b h2 => by
    obtain ⟨xs, ys, e1, e2, e3, hl⟩ := hc a b
    show oCatT (e a) (e' b) Q
    rw [e1, e2]
    refine ⟨hl, ?_⟩
    rw [← e3]
    exact hG _ h2) h1) f
theorem w_slG {dl dh : Ev → (Option Int → Prop) → Prop} {l k : Option Int} (c : α → β) (h : We e da env F) (hl : Wo dl env (fun G => G l)) (hh : Wo dh env (fun G => G k)) (hc : ∀ a, ∃ xs, e a = .tuple xs ∧ e' (c a) = .tuple (cutD xs l k)) : We e' (dSlT da dl dh) env (fun G => F fun a => G (c a)) :=
  fun Q G hG f => h _ _ (fun a h1 => hl _ _ (fun l' (h2 : l' = l ∧ G (c a)) => hh _ _ (fun k' (h3 : k' = k) => by
    obtain ⟨xs, e1, e2⟩ := hc a
    rw [e1, h2.1, h3]
    show Q (.tuple (cutD xs l k))
    rw [← e2]
    exact hG _ h1) rfl) ⟨rfl, h1⟩) f
theorem w_catS {F F' : M Str} (h : We PyData.str da env F) (h' : We PyData.str db env F') : We PyData.str (dOp oCatS da db) env (fun G => F fun a => F' fun b => a.length + b.length ≤ sizeLine ∧ G (a ++ b)) :=
  fun Q G hG f => h _ _ (fun xs h1 => h' _ _ (fun ys h2 => ⟨h2.1, hG _ h2.2⟩) h1) f
theorem rep_map {α β : Type} (f : α → β) (k : Nat) (xs : List α) : (List.replicate k (xs.map f)).flatten = ((List.replicate k xs).flatten).map f := by
  rw [List.map_flatten, List.map_replicate]
theorem w_rep {F : M (List α)} {F' : M Int} (h : We (eL e) da env F) (h' : We PyData.int db env F') : We (eL e) (dOp oRep da db) env (fun G => F fun a => F' fun k => (-(2 ^ 63) ≤ k ∧ k < 2 ^ 63) ∧ a.length * k.toNat ≤ 16777216 ∧ G (List.replicate k.toNat a).flatten) :=
  fun Q G hG f => h _ _ (fun xs h1 => h' _ _ (fun k h2 => by
    show _ ∧ (xs.map e).length * _ ≤ _ ∧ Q (.list (List.replicate k.toNat (xs.map e)).flatten)
    rw [List.length_map, rep_map]
    exact ⟨h2.1, h2.2.1, hG _ h2.2.2⟩) h1) f
theorem w_repU {F : M (List α)} {F' : M Int} (h : We (eU e) da env F) (h' : We PyData.int db env F') : We (eU e) (dOp oRepT da db) env (fun G => F fun a => F' fun k => a ≠ [] ∧ (0 ≤ k ∧ k ≤ 10000) ∧ a.length ≤ 100 ∧ G (List.replicate k.toNat a).flatten) :=
  fun Q G hG f => h _ _ (fun xs h1 => h' _ _ (fun k h2 => by
    show xs.map e ≠ [] ∧ _ ∧ (xs.map e).length ≤ _ ∧ Q (.tuple (List.replicate k.toNat (xs.map e)).flatten)
    rw [List.length_map, rep_map]
    exact ⟨fun z => h2.1 (by simpa using z), h2.2.1, h2.2.2.1, hG _ h2.2.2.2⟩) h1) f
theorem w_mulS {F : M Str} {F' : M Int} (h : We PyData.str da env F) (h' : We PyData.int db env F') : We PyData.str (dOp oMulS da db) env (fun G => F fun z => F' fun i => z.length ≤ 16 ∧ (-(2 ^ 63) ≤ i ∧ i ≤ 1048576) ∧ G (Txt.mul z i)) :=
  fun Q G hG f => h _ _ (fun xs h1 => h' _ _ (fun ys h2 => ⟨h2.1, h2.2.1, hG _ h2.2.2⟩) h1) f
theorem lookup_T {e : α → D} {z : Str} {a : α} : ∀ {tab : List (Str × α)}, tab.lookup z = some a → (tab.map fun p => (p.1, e p.2)).lookup z = some (e a)
  | [], h => nomatch h
  | p :: r, h => by
    rw [List.map_cons]
    unfold List.lookup at h ⊢
    split
    · rename_i hz
      rw [hz] at h
      have h' : some p.2 = some a := h
      cases h'
      rfl
    · rename_i hz
      rw [hz] at h
      exact lookup_T (tab := r) h
theorem w_kd {tab : List (Str × α)} {ds : List (Str × D)} {F : M Str} (h : We PyData.str db env F) (ht : ds = tab.map fun p => (p.1, e p.2)) : We e (dKd ds db) env (fun G => F fun z => ∃ a, tab.lookup z = some a ∧ G a) :=
  fun Q G hG f => h _ _ (fun z ⟨a, ha, g⟩ => by
    have hl : ds.lookup z = some (e a) := ht ▸ lookup_T ha
    show match ds.lookup z with | some d => Q d | none => False
    rw [hl]
    exact hG _ g) f
/-! built-ins -/
theorem w_len {F : M (List α)} {es : List α → D} (h : We es da env F) (hs : ∀ xs, seqOf (es xs) = some (xs.map e)) : We PyData.int (dCB oLen (dCons da dNil)) env (fun G => F fun xs => G (xs.length : Int)) :=
  fun Q G hG f => h _ _ (fun xs h1 => by
    show match seqOf (es xs) with | some ds => Q (.int ds.length) | none => False
    rw [hs]
    show Q (.int ((xs.map e).length : Nat))
    rw [List.length_map]
    exact hG _ h1) f
theorem w_lenS {F : M Str} (h : We PyData.str da env F) : We PyData.int (dCB oLenS (dCons da dNil)) env (fun G => F fun z => z.length ≤ sizeLine ∧ G (z.length : Int)) :=
  fun Q G hG f => h _ _ (fun xs h1 => ⟨h1.1, hG _ h1.2⟩) f
theorem w_int {F : M Int} (h : We PyData.int da env F) : We PyData.int (dCB oInt (dCons da dNil)) env F := fun Q G hG f => h _ _ (fun xs h1 => hG _ h1) f
theorem w_intB {F : M Bool} (h : We PyData.bool da env F) : We PyData.int (dCB oInt (dCons da dNil)) env (fun G => F fun k => G (if k = true then 1 else 0)) := fun Q G hG f => h _ _ (fun xs h1 => hG _ h1) f
theorem w_abs {F : M Int} (h : We PyData.int da env F) : We PyData.int (dCB oAbs (dCons da dNil)) env (fun G => F fun i => G (if i < 0 then -i else i)) := fun Q G hG f => h _ _ (fun xs h1 => hG _ h1) f
theorem w_I2 {g : Int → Int → Int} {F F' : M Int} (h : We PyData.int da env F) (h' : We PyData.int db env F') : We PyData.int (dCB (oI2 g) (dCons da (dCons db dNil))) env (fun G => F fun i => F' fun j => G (g i j)) :=
  fun Q G hG f => h _ _ (fun xs h1 => h' _ _ (fun j h2 => hG _ h2) h1) f
theorem ints_T (ns : List Int) : intsOf (ns.map PyData.int) = some ns := by simpa using ints_map (fun i : Int => i) ns
theorem bools_T (ns : List Bool) : boolsOf (ns.map PyData.bool) = some ns := by simpa using bools_map (fun i : Bool => i) ns
theorem w_sum {F : M (List Int)} (h : We (eL PyData.int) da env F) : We PyData.int (dCB oSum (dCons da dNil)) env (fun G => F fun xs => G xs.sum) :=
  fun Q G hG f => h _ _ (fun xs h1 => by
    show match intsOf (xs.map PyData.int) with | some ns => Q (.int ns.sum) | none => False
    rw [ints_T]
    exact hG _ h1) f
theorem w_bs {g : List Bool → Bool} {F : M (List Bool)} (h : We (eL PyData.bool) da env F) : We PyData.bool (dCB (oBs g) (dCons da dNil)) env (fun G => F fun xs => G (g xs)) :=
  fun Q G hG f => h _ _ (fun xs h1 => by
    show match boolsOf (xs.map PyData.bool) with | some ns => Q (.bool (g ns)) | none => False
    rw [bools_T]
    exact hG _ h1) f
theorem w_tupOf {F : M (List α)} {es : List α → D} (h : We es da env F) (hs : ∀ xs, seqOf (es xs) = some (xs.map e)) : We (eU e) (dCB oTupOf (dCons da dNil)) env F :=
  fun Q G hG f => h _ _ (fun xs h1 => by
    show match seqOf (es xs) with | some ds => Q (.tuple ds) | none => False
    rw [hs]
    exact hG _ h1) f
theorem l_of {F : M (List α)} {es : List α → D} (h : We es da env F) (hs : ∀ xs, seqOf (es xs) = some (xs.map e)) : Wl e (dSeqOf da) env F :=
  fun Q G hG f => h _ _ (fun xs h1 => by
    show match seqOf (es xs) with | some ds => Q ds | none => False
    rw [hs]
    exact hG _ h1) f
theorem w_repr (h : We e da env F) : We PyData.str (dCB oRepr (dCons da dNil)) env (fun G => F fun a => reprT (e a) G) := fun Q G hG f => h _ _ (fun xs h1 => ⟨h1.1, hG _ h1.2⟩) f
theorem w_str {F : M Int} (h : We PyData.int da env F) : We PyData.str (dCB oStr (dCons da dNil)) env (fun G => F fun i => i.natAbs.log2 < 1920 ∧ G (toString i)) := fun Q G hG f => h _ _ (fun xs h1 => ⟨h1.1, hG _ h1.2⟩) f
theorem w_ord {F : M Str} (h : We PyData.str da env F) : We PyData.int (dCB oOrd (dCons da dNil)) env (fun G => F fun x => x.length = 1 ∧ G (x.cps.getD 0 0 : Nat)) := fun Q G hG f => h _ _ (fun xs h1 => ⟨h1.1, hG _ h1.2⟩) f
theorem w_intS {F : M Str} (h : We PyData.str da env F) : We PyData.int (dCB oIntS (dCons da dNil)) env (fun G => F fun a => ∃ n, PySem.intText? a = some n ∧ a.length ≤ 640 ∧ G n) := fun Q G hG f => h _ _ (fun xs ⟨n, h1, h2, h3⟩ => ⟨n, h1, h2, hG _ h3⟩) f
theorem w_isi {n : String} (h : We e da env F) : We PyData.bool (dIsi n da) env (fun G => F fun a => G (isTy n (e a))) := fun Q G hG f => h _ _ (fun xs h1 => hG _ h1) f
theorem w_lower {F : M Str} (h : We PyData.str da env F) : We PyData.str (dM0 sLower da) env (fun G => F fun a => a.length ≤ 5592405 ∧ G (Txt.lower a)) := fun Q G hG f => h _ _ (fun xs h1 => ⟨h1.1, hG _ h1.2⟩) f
theorem w_upper {F : M Str} (h : We PyData.str da env F) : We PyData.str (dM0 sUpper da) env (fun G => F fun a => a.length ≤ 5592405 ∧ G (Txt.upper a)) := fun Q G hG f => h _ _ (fun xs h1 => ⟨h1.1, hG _ h1.2⟩) f
theorem w_starts {F F' : M Str} (h : We PyData.str da env F) (h' : We PyData.str db env F') : We PyData.bool (dM1 sStarts da db) env (fun G => F fun a => F' fun b => G (Txt.startswith a b)) := fun Q G hG f => h _ _ (fun xs h1 => h' _ _ (fun y h2 => hG _ h2) h1) f
theorem w_ends {F F' : M Str} (h : We PyData.str da env F) (h' : We PyData.str db env F') : We PyData.bool (dM1 sEnds da db) env (fun G => F fun a => F' fun b => G (Txt.endswith a b)) := fun Q G hG f => h _ _ (fun xs h1 => h' _ _ (fun y h2 => hG _ h2) h1) f
theorem l_split {F F' : M Str} (h : We PyData.str da env F) (h' : We PyData.str db env F') : Wl PyData.str (dSplit da db) env (fun G => F fun a => F' fun b => (b.length == 0) = false ∧ a.length + 2 ≤ 16777216 ∧ G (Txt.split a b)) :=
  fun Q G hG f => h _ _ (fun xs h1 => h' _ _ (fun y h2 => ⟨h2.1, h2.2.1, hG _ h2.2.2⟩) h1) f
theorem w_join {F : M Str} {F' : M (List Str)} {es : List Str → D} (h : We PyData.str da env F) (h' : We es db env F') (hs : ∀ xs, seqOf (es xs) = some (xs.map PyData.str)) : We PyData.str (dJoin da db) env (fun G => F fun a => F' fun ys => (ys.map (·.length)).sum + ys.length * a.length ≤ 16777216 ∧ G (Txt.join a ys)) :=
  fun Q G hG f => h _ _ (fun a h1 => h' _ _ (fun ys h2 => ⟨ys, hs ys, h2.1, hG _ h2.2⟩) h1) f
theorem w_fmtS {F : M Str} (h : We PyData.str da env F) : We PyData.str (dFmt da) env (fun G => F fun y => y.length ≤ 16777216 ∧ G y) := fun Q G hG f => h _ _ (fun xs h1 => ⟨h1.1, hG _ h1.2⟩) f
theorem w_fmtI {F : M Int} (h : We PyData.int da env F) : We PyData.str (dFmt da) env (fun G => F fun y => y.natAbs.log2 < 1920 ∧ G (toString y)) := fun Q G hG f => h _ _ (fun xs h1 => ⟨h1.1, hG _ h1.2⟩) f
def Wj (dj : Str → Ev → (Str → Prop) → Prop) (env : Ev) (F : Str → M Str) : Prop := ∀ (acc : Str) (Q G : Str → Prop), (∀ a, G a → Q a) → F acc G → dj acc env Q
theorem j_nil : Wj dJn env (fun acc G => G acc) := fun acc Q G hG f => hG _ f
theorem j_cons {dj : Str → Ev → (Str → Prop) → Prop} {F : M Str} {Fs : Str → M Str} (h : We PyData.str da env F) (hs : Wj dj env Fs) : Wj (dJc da dj) env (fun acc G => F fun y => (acc ++ y).length ≤ 16777216 ∧ Fs (acc ++ y) G) :=
  fun acc Q G hG f => h _ _ (fun y h1 => ⟨h1.1, hs _ _ _ hG h1.2⟩) f
theorem w_fs {dj : Str → Ev → (Str → Prop) → Prop} {Fs : Str → M Str} (hs : Wj dj env Fs) : We PyData.str (dFs dj) env (Fs Str.empty) := fun Q G hG f => hs _ _ _ hG f
/-! draws -/
theorem w_take {i : Nat} {F : M Int} (hst : eget env i = some .st) (h : We PyData.int da env F) : We PyData.int (dCallS i (F1 sTake) (dCons da dNil)) env (fun G => F fun m => takeT m G) :=
  fun Q G hG f => by unfold dCallS; rw [hst]; exact h _ _ (fun m h1 => ⟨h1.1, h1.2.1, fun r r0 r1 => hG _ (h1.2.2 r r0 r1)⟩) f
theorem w_take0 {i : Nat} {F : M Int} (hst : eget env i = some .st) (h : We PyData.int da env F) : We PyData.int (dCallS i (F1 sTake0) (dCons da dNil)) env (fun G => F fun m => take0T m G) :=
  fun Q G hG f => by unfold dCallS; rw [hst]; exact h _ _ (fun m h1 => ⟨h1.1, fun r r0 r1 => hG _ (h1.2 r r0 r1)⟩) f
theorem w_pick {i : Nat} {F : M (List α)} {es : List α → D} (hst : eget env i = some .st) (h : We es da env F) (hs : ∀ xs, seqOf (es xs) = some (xs.map e)) : We e (dCallS i (F1 sPick) (dCons da dNil)) env (fun G => F fun xs => pickT xs G) :=
  fun Q G hG f => by unfold dCallS; rw [hst]; exact h _ _ (fun xs h1 => by
    show sPick (es xs) Q
    unfold sPick
    rw [hs]
    refine ⟨fun z => h1.1 (by simpa using z), by rw [List.length_map]; exact h1.2.1, fun d hd => ?_⟩
    obtain ⟨a, ha, rfl⟩ := List.mem_map.mp hd
    exact hG _ (h1.2.2 a ha)) f
theorem w_num {i : Nat} {F F' : M Int} (hst : eget env i = some .st) (h : We PyData.int da env F) (h' : We PyData.int db env F') : We PyData.int (dCallS i (F2 sNumber) (dCons da (dCons db dNil))) env (fun G => F fun a => F' fun b => numT a b G) :=
  fun Q G hG f => by unfold dCallS; rw [hst]; exact h _ _ (fun a h1 => h' _ _ (fun b h2 => ⟨h2.1, h2.2.1, fun r r0 r1 => hG _ (h2.2.2 r r0 r1)⟩) h1) f
theorem w_same {n : Nat} (h : We e da env F) (h' : We e' db env F') : We PyData.bool (dCall (F2 (sSame n)) (dCons da (dCons db dNil))) env (fun G => F fun a => F' fun b => sameT n (e a) (e' b) G) :=
  fun Q G hG f => h _ _ (fun a h1 => h' _ _ (fun b h2 => ⟨h2.1, h2.2.1, hG _ h2.2.2⟩) h1) f
/-! what is walked -/
theorem i_list {F : M (List α)} (h : We (eL e) da env F) : Wl e (dItL da) env F := fun Q G hG f => h _ _ (fun xs h1 => hG _ h1) f
theorem i_tup {F : M (List α)} (h : We (eU e) da env F) : Wl e (dItT da) env F := fun Q G hG f => h _ _ (fun xs h1 => hG _ h1) f
def charsT (z : Str) : List Str := z.cps.toList.map fun c => ⟨#[c]⟩
theorem chars_T (z : Str) : chars z = (charsT z).map PyData.str := by unfold chars charsT; rw [List.map_map]; rfl
theorem i_str {F : M Str} (h : We PyData.str da env F) : Wl PyData.str (dItS da) env (fun G => F fun z => G (charsT z)) := fun Q G hG f => h _ _ (fun z h1 => by show Q (chars z); rw [chars_T]; exact hG _ h1) f
theorem i_r1 {F : M Int} (h : We PyData.int da env F) : Wl PyData.int (dR1 (dCons da dNil)) env (fun G => F fun j => (-(2 ^ 62) ≤ j ∧ j < 2 ^ 62) ∧ G (rngT 0 j.toNat)) :=
  fun Q G hG f => h _ _ (fun j h1 => ⟨h1.1.1, h1.1.2, by rw [rng_T]; exact hG _ h1.2⟩) f
theorem i_r2 {F F' : M Int} (h : We PyData.int da env F) (h' : We PyData.int db env F') : Wl PyData.int (dR2 (dCons da (dCons db dNil))) env (fun G => F fun i => F' fun j => (-(2 ^ 62) ≤ i ∧ i < 2 ^ 62 ∧ -(2 ^ 62) ≤ j ∧ j < 2 ^ 62) ∧ G (rngT i (j - i).toNat)) :=
  fun Q G hG f => h _ _ (fun i h1 => h' _ _ (fun j h2 => ⟨h2.1, by rw [rng_T]; exact hG _ h2.2⟩) h1) f
theorem i_zipL {F : M (List α)} {F' : M (List β)} (h : We (eL e) da env F) (h' : We (eL e') db env F') : Wl (eT2 e e') (dZip (dCons da (dCons db dNil))) env (fun G => F fun xs => F' fun ys => G (xs.zip ys)) :=
  fun Q G hG f => h _ _ (fun xs h1 => h' _ _ (fun ys h2 => by show Q (zipD (xs.map e) (ys.map e')); rw [zip_T]; exact hG _ h2) h1) f
theorem i_zipU {F : M (List α)} {F' : M (List β)} (h : We (eU e) da env F) (h' : We (eU e') db env F') : Wl (eT2 e e') (dZip (dCons da (dCons db dNil))) env (fun G => F fun xs => F' fun ys => G (xs.zip ys)) :=
  fun Q G hG f => h _ _ (fun xs h1 => h' _ _ (fun ys h2 => by show Q (zipD (xs.map e) (ys.map e')); rw [zip_T]; exact hG _ h2) h1) f
theorem i_enumL {F : M (List α)} (h : We (eL e) da env F) : Wl (eT2 PyData.int e) (dEnum (dCons da dNil)) env (fun G => F fun xs => G (enumT 0 xs)) :=
  fun Q G hG f => h _ _ (fun xs h1 => by show Q (enumD 0 (xs.map e)); rw [enum_T]; exact hG _ h1) f
theorem i_enumU {F : M (List α)} (h : We (eU e) da env F) : Wl (eT2 PyData.int e) (dEnumT (dCons da dNil)) env (fun G => F fun xs => G (enumT 0 xs)) :=
  fun Q G hG f => h _ _ (fun xs h1 => by show Q (enumD 0 (xs.map e)); rw [enum_T]; exact hG _ h1) f
/-! comprehensions -/
section
variable {vs : List Nat} {di : Ev → (List D → Prop) → Prop} {g : D → Ev → (Ev → Prop) → Prop} {c : Ev → (Bool → Prop) → Prop} {ee : DEx}
theorem lc_T {B : α → M (Option β)} {env1 : Ev} (hb : ∀ a (R : Option D → Prop) (Go : Option β → Prop), (∀ o, Go o → R (o.map e')) → B a Go → g (e a) env1 fun env2 => c env2 fun b => if b = true then ee env2 fun x => R (some x) else R none) :
    ∀ (xs : List α) (Q : List D → Prop) (G : List β → Prop), (∀ ys, G ys → Q (ys.map e')) → lcT B xs G → lcD g c ee (xs.map e) env1 Q
  | [], Q, G, hG, f => hG [] f
  | a :: r, Q, G, hG, f => hb a (fun o => match o with | some x => lcD g c ee (r.map e) env1 fun xs => Q (x :: xs) | none => lcD g c ee (r.map e) env1 Q) _ (fun o h => match o, h with
    | some b, h => lc_T hb r (fun xs => Q (e' b :: xs)) (fun ys => G (b :: ys)) (fun ys hy => hG _ hy) h
    | none, h => lc_T hb r Q G hG h) f
theorem l_lc {B : α → M (Option β)} {F : M (List α)} (hi : Wl e di env F) (hn : noOwn vs env = true) (hb : ∀ a (R : Option D → Prop) (Go : Option β → Prop), (∀ o, Go o → R (o.map e')) → B a Go → g (e a) (wipeE env vs) fun env2 => c env2 fun b => if b = true then ee env2 fun x => R (some x) else R none) :
    Wl e' (dLc vs di g c ee) env (fun G => F fun xs => compT xs B G) := fun Q G hG f => ⟨hn, hi _ _ (fun xs h1 => ⟨by rw [List.length_map]; exact h1.1, lc_T hb xs Q G hG h1.2⟩) f⟩
theorem l_mono {df : Ev → (List D → Prop) → Prop} {F F2 : M (List α)} (h : Wl e df env F) (hF : ∀ G, F2 G → F G) : Wl e df env F2 := fun Q G hG f => h Q G hG (hF G f)
theorem l_map {f : α → β} {F : M (List α)} (hi : Wl e di env F) (hn : noOwn vs env = true) (hb : ∀ a (R : Option D → Prop) (Go : Option β → Prop), (∀ o, Go o → R (o.map e')) → Go (some (f a)) → g (e a) (wipeE env vs) fun env2 => c env2 fun b => if b = true then ee env2 fun x => R (some x) else R none) :
    Wl e' (dLc vs di g c ee) env (fun G => F fun xs => xs.length ≤ 100000 ∧ G (xs.map f)) := l_mono (l_lc (B := fun a Go => Go (some (f a))) hi hn hb) fun G h => by
  have : (fun xs => compT xs (fun a (Go : Option β → Prop) => Go (some (f a))) G) = fun xs : List α => xs.length ≤ 100000 ∧ G (xs.map f) := by funext xs; unfold compT; rw [lcT_map]
  rw [this]; exact h
theorem l_filter {t : α → Bool} {f : α → β} {F : M (List α)} (hi : Wl e di env F) (hn : noOwn vs env = true) (hb : ∀ a (R : Option D → Prop) (Go : Option β → Prop), (∀ o, Go o → R (o.map e')) → (if t a = true then Go (some (f a)) else Go none) → g (e a) (wipeE env vs) fun env2 => c env2 fun b => if b = true then ee env2 fun x => R (some x) else R none) :
    Wl e' (dLc vs di g c ee) env (fun G => F fun xs => xs.length ≤ 100000 ∧ G ((xs.filter t).map f)) := l_mono (l_lc (B := fun a Go => if t a = true then Go (some (f a)) else Go none) hi hn hb) fun G h => by
  have : (fun xs => compT xs (fun a (Go : Option β → Prop) => if t a = true then Go (some (f a)) else Go none) G) = fun xs : List α => xs.length ≤ 100000 ∧ G ((xs.filter t).map f) := by funext xs; unfold compT; rw [lcT_filter]
  rw [this]; exact h
theorem b_all {env1 : Ev} {E : M β} (he : We e' ee env1 E) {R : Option D → Prop} {Go : Option β → Prop} (hR : ∀ o, Go o → R (o.map e')) (f : E fun b => Go (some b)) : dYes env1 fun b => if b = true then ee env1 fun x => R (some x) else R none :=
  he _ _ (fun b h => hR (some b) h) f
theorem b_if {env1 : Ev} {C : M Bool} {E : M β} (hc : Wt c env1 C) (he : We e' ee env1 E) {R : Option D → Prop} {Go : Option β → Prop} (hR : ∀ o, Go o → R (o.map e')) (f : C fun k => if k = true then E fun b => Go (some b) else Go none) : c env1 fun b => if b = true then ee env1 fun x => R (some x) else R none :=
  hc _ _ (fun k h => by
    by_cases z : k = true
    · rw [if_pos z] at h ⊢; exact he _ _ (fun b h => hR (some b) h) h
    · rw [if_neg z] at h ⊢; exact hR none h) f
end
/-! statements -/
section
variable {X : Ev → Prop} {Rt : D → Prop} {Bk Ct : Ev → Prop} {a b : DS}
theorem s_next (h : X env) : dNext ⟨X, Rt, Bk, Ct⟩ env := h
theorem s_break (h : Bk env) : dBreak ⟨X, Rt, Bk, Ct⟩ env := h
theorem s_cont (h : Ct env) : dCont ⟨X, Rt, Bk, Ct⟩ env := h
theorem s_seq0 (h : a ⟨b ⟨X, Rt, Bk, Ct⟩, Rt, Bk, Ct⟩ env) : dSeq a b ⟨X, Rt, Bk, Ct⟩ env := h
theorem s_frz0 {i : Nat} {env' : Ev} (hE : frz env i = env') (h : a ⟨X, Rt, Bk, Ct⟩ env') : dFrz i a ⟨X, Rt, Bk, Ct⟩ env := by unfold dFrz; rw [hE]; exact h
theorem s_ret {G : α → Prop} (he : We e de env F) (hG : ∀ a, G a → Rt (e a)) (q : F G) : dRet de ⟨X, Rt, Bk, Ct⟩ env := he _ _ hG q
theorem s_retN' {er : α → D} {x : α} {G : α → Prop} (hG : ∀ a, G a → Rt (er a)) (hx : er x = .none) (q : G x) : dRetN ⟨X, Rt, Bk, Ct⟩ env := by
  have := hG x q
  rw [hx] at this
  exact this
theorem s_asg {i : Nat} {G : α → Prop} (he : We e de env F) (env' : α → Ev) (hE : ∀ a, eset env i (sv (e a)) = env' a) (hr : ∀ a, G a → X (env' a)) (q : F G) : dAsg de (gN i) ⟨X, Rt, Bk, Ct⟩ env := he _ _ (fun a h => by show X (eset env i (sv (e a))); rw [hE]; exact hr a h) q
theorem s_pat {G : α → Prop} {g : D → Ev → (Ev → Prop) → Prop} (he : We e de env F) (hr : ∀ a, G a → g (e a) env X) (q : F G) : dAsg de g ⟨X, Rt, Bk, Ct⟩ env := he _ _ (fun a h => hr a h) q
theorem s_drop {G : α → Prop} (he : We e de env F) (hr : ∀ a, G a → X env) (q : F G) : dDrop de ⟨X, Rt, Bk, Ct⟩ env := he _ _ (fun a h => hr a h) q
theorem s_own {i : Nat} {df : Ev → (List D → Prop) → Prop} {F : M (List α)} {G : List α → Prop} (he : Wl e df env F) (hi : decide (i < env.length) = true) (env' : List α → Ev) (hE : ∀ xs, eset env i (so (xs.map e)) = env' xs) (hr : ∀ xs, G xs → X (env' xs)) (q : F G) : dOwn i df ⟨X, Rt, Bk, Ct⟩ env :=
  he _ _ (fun a h => ⟨of_decide_eq_true hi, by rw [hE]; exact hr a h⟩) q
theorem s_own0 {i : Nat} {env' : Ev} {P : Prop} (hi : decide (i < env.length) = true) (hE : eset env i (so []) = env') (hr : P → X env') (q : P) : dOwn i (dCL []) ⟨X, Rt, Bk, Ct⟩ env := ⟨of_decide_eq_true hi, by rw [hE]; exact hr q⟩
theorem s_app {i : Nat} {xs : List α} {G : List α → Prop} (hx : eget env i = so (xs.map e)) (he : We e de env F) (env' : List α → Ev) (hE : ∀ ys, eset env i (so (ys.map e)) = env' ys) (hr : ∀ ys, G ys → X (env' ys)) (q : F (fun a => appT xs a G)) : dApp i de ⟨X, Rt, Bk, Ct⟩ env := by
  unfold dApp
  rw [hx]
  exact he _ _ (fun a h => ⟨by rw [List.length_map]; exact h.1, by
    have : xs.map e ++ [e a] = (xs ++ [a]).map e := by rw [List.map_append]; rfl
    rw [this]
    show X (eset env i (so _))
    rw [hE]
    exact hr _ h.2⟩) q
theorem s_setIx {i : Nat} {xs : List α} {F' : M Int} {G : List α → Prop} (hx : eget env i = so (xs.map e)) (he : We e de env F) (hk : We PyData.int da env F') (env' : List α → Ev) (hE : ∀ ys, eset env i (so (ys.map e)) = env' ys) (hr : ∀ ys, G ys → X (env' ys)) (q : F (fun a => F' fun k => setT xs k a G)) : dSetIx i de da ⟨X, Rt, Bk, Ct⟩ env :=
  he _ _ (fun a h => by
    rw [hx]
    exact hk _ _ (fun k ⟨j, h1, h2⟩ => ⟨j, by rw [List.length_map]; exact h1, by
      rw [← List.map_set]
      show X (eset env i (so _))
      rw [hE]
      exact hr _ h2⟩) h) q
theorem s_par {i j : Nat} {G : α → β → Prop} (he : We e da env F) (hb : We e' db env F') (env' : α → β → Ev) (hE : ∀ a b, eset (eset env i (sv (e a))) j (sv (e' b)) = env' a b) (hr : ∀ a b, G a b → X (env' a b)) (q : F (fun a => F' fun b => G a b)) : dPar i j (dCons da (dCons db dNil)) ⟨X, Rt, Bk, Ct⟩ env :=
  he _ _ (fun a h => hb _ _ (fun b h2 => by show X (eset (eset env i (sv (e a))) j (sv (e' b))); rw [hE]; exact hr a b h2) h) q
theorem s_par3 {i j l : Nat} {e3 : γ → D} {F3 : M γ} {G : α → β → γ → Prop} (he : We e da env F) (hb : We e' db env F') (hc : We e3 dc' env F3) (env' : α → β → γ → Ev) (hE : ∀ a b c, eset (eset (eset env i (sv (e a))) j (sv (e' b))) l (sv (e3 c)) = env' a b c) (hr : ∀ a b c, G a b c → X (env' a b c)) (q : F (fun a => F' fun b => F3 fun c => G a b c)) : dPar3 i j l (dCons da (dCons db (dCons dc' dNil))) ⟨X, Rt, Bk, Ct⟩ env :=
  he _ _ (fun a h => hb _ _ (fun b h2 => hc _ _ (fun c h3 => by show X (eset (eset (eset env i (sv (e a))) j (sv (e' b))) l (sv (e3 c))); rw [hE]; exact hr a b c h3) h2) h) q
theorem s_parO1 {i j : Nat} {df : Ev → (List D → Prop) → Prop} {F : M (List α)} {G : List α → β → Prop} (he : Wl e df env F) (hb : We e' db env F') (hi : decide (i < env.length) = true) (hij : decide (i ≠ j) = true) (env' : List α → β → Ev) (hE : ∀ a b, eset (eset env i (so (a.map e))) j (sv (e' b)) = env' a b) (hr : ∀ a b, G a b → X (env' a b)) (q : F (fun a => F' fun b => G a b)) : dParO1 i j df db ⟨X, Rt, Bk, Ct⟩ env :=
  ⟨of_decide_eq_true hi, of_decide_eq_true hij, he _ _ (fun a h => hb _ _ (fun b h2 => by show X (eset (eset env i (so (a.map e))) j (sv (e' b))); rw [hE]; exact hr a b h2) h) q⟩
theorem s_parO2 {i j : Nat} {df : Ev → (List D → Prop) → Prop} {F' : M (List β)} {G : α → List β → Prop} (he : We e da env F) (hb : Wl e' df env F') (hj : decide (j < env.length) = true) (env' : α → List β → Ev) (hE : ∀ a b, eset (eset env i (sv (e a))) j (so (b.map e')) = env' a b) (hr : ∀ a b, G a b → X (env' a b)) (q : F (fun a => F' fun b => G a b)) : dParO2 i j da df ⟨X, Rt, Bk, Ct⟩ env :=
  ⟨of_decide_eq_true hj, he _ _ (fun a h => hb _ _ (fun b h2 => by show X (eset (eset env i (sv (e a))) j (so (b.map e'))); rw [hE]; exact hr a b h2) h) q⟩
theorem s_parOO {i j : Nat} {df df2 : Ev → (List D → Prop) → Prop} {F : M (List α)} {F' : M (List β)} {G : List α → List β → Prop} (he : Wl e df env F) (hb : Wl e' df2 env F') (hi : decide (i < env.length) = true) (hj : decide (j < env.length) = true) (env' : List α → List β → Ev) (hE : ∀ a b, eset (eset env i (so (a.map e))) j (so (b.map e')) = env' a b) (hr : ∀ a b, G a b → X (env' a b)) (q : F (fun a => F' fun b => G a b)) : dParOO i j df df2 ⟨X, Rt, Bk, Ct⟩ env :=
  ⟨of_decide_eq_true hi, of_decide_eq_true hj, he _ _ (fun a h => hb _ _ (fun b h2 => by show X (eset (eset env i (so (a.map e))) j (so (b.map e'))); rw [hE]; exact hr a b h2) h) q⟩
theorem s_aug {i : Nat} {x : Int} {g : Int → Int → Int} {F : M Int} {G : Int → Prop} (hx : eget env i = sv (.int x)) (he : We PyData.int de env F) (env' : Int → Ev) (hE : ∀ y, eset env i (sv (.int y)) = env' y) (hr : ∀ y, G y → X (env' y)) (q : F (fun y => G (g x y))) : dAug i de g ⟨X, Rt, Bk, Ct⟩ env := by
  unfold dAug
  rw [hx]
  exact he _ _ (fun y h => by show X (eset env i (sv (.int (g x y)))); rw [hE]; exact hr _ h) q
theorem s_if {dc : Ev → (Bool → Prop) → Prop} {C : M Bool} {PA PB : Prop} (hc : Wt dc env C) (hA : PA → a ⟨X, Rt, Bk, Ct⟩ env) (hB : PB → b ⟨X, Rt, Bk, Ct⟩ env) (q : C (fun k => if k = true then PA else PB)) : dIf dc a b ⟨X, Rt, Bk, Ct⟩ env := hc _ _ (fun k h => by
    by_cases z : k = true
    · rw [if_pos z] at h ⊢; exact hA h
    · rw [if_neg z] at h ⊢; exact hB h) q
/-- what stands behind a statement, cut off -/
theorem s_seq_cut0 {σ υ : Type} (J : σ → Prop) (en : σ → υ → Ev) (hj : ∀ s u, J s → b ⟨X, Rt, Bk, Ct⟩ (en s u)) (ha : ∀ N : Ev → Prop, (∀ s u, J s → N (en s u)) → a ⟨N, Rt, Bk, Ct⟩ env) : dSeq a b ⟨X, Rt, Bk, Ct⟩ env := ha (b ⟨X, Rt, Bk, Ct⟩) hj
theorem s_for2 {σ υ : Type} {di : Ev → (List D → Prop) → Prop} {g : D → Ev → (Ev → Prop) → Prop} {body : DS} {F : M (List α)} (L : List α → σ → Prop) (kn : σ → Prop) (en : σ → υ → Ev) (s0 : σ) (u0 : υ) (he : env = en s0 u0) (hi : Wl e di env F)
    (h0 : ∀ s u, kn s → X (en s u)) (hL : ∀ s, L [] s → kn s)
    (hs : ∀ x r s u (N B : Ev → Prop), (∀ s' u', L r s' → N (en s' u')) → (∀ s' u', kn s' → B (en s' u')) → L (x :: r) s → g (e x) (en s u) fun env1 => body ⟨N, Rt, B, N⟩ env1) (q : F (fun xs => L xs s0)) : dFor di g body ⟨X, Rt, Bk, Ct⟩ env :=
  hi _ _ (fun xs h => by
    have key : ∀ (xs : List α) s u, L xs s → loopD g body ⟨X, Rt, Bk, Ct⟩ (xs.map e) (en s u) := by
      intro xs
      induction xs with
      | nil => exact fun s u l => h0 s u (hL s l)
      | cons x r ih => exact fun s u l => hs x r s u _ X ih h0 l
    have k := key xs s0 u0 h
    rw [← he] at k
    exact k) q
theorem s_whileE {σ υ : Type} {c : Ev → (Bool → Prop) → Prop} {body : DS} (kn : σ → Prop) (en : σ → υ → Ev) (Bd : (Nat → σ → Prop) → Nat → σ → Prop) (s0 : σ) (u0 : υ) (he : env = en s0 u0) (hn : ∀ s u, kn s → X (en s u))
    (hs : ∀ W m s u (N B : Ev → Prop), (∀ m' s' u', m' < m ∧ W m' s' → N (en s' u')) → (∀ s' u', kn s' → B (en s' u')) → Bd W m s → c (en s u) fun b => if b = true then body ⟨N, Rt, B, N⟩ (en s u) else B (en s u))
    (q : ∃ W : Nat → σ → Prop, (∃ m, W m s0) ∧ ∀ m s, W m s → Bd W m s) : dWhile c body ⟨X, Rt, Bk, Ct⟩ env := by
  obtain ⟨W, ⟨m0, h0⟩, hW⟩ := q
  exact ⟨fun m e' => ∃ s u, W m s ∧ e' = en s u, ⟨m0, s0, u0, h0, he⟩, fun m e' ⟨s, u, w, z⟩ => by
    subst z
    exact hs W m s u _ X (fun m' s' u' h => ⟨m', h.1, s', u', h.2, rfl⟩) hn (hW m s w)⟩
theorem s_cond {dc : Ev → (Bool → Prop) → Prop} {C : M Bool} {PA PB Y Z : Prop} (hc : Wt dc env C) (hA : PA → Y) (hB : PB → Z) (q : C (fun k => if k = true then PA else PB)) : dc env fun b => if b = true then Y else Z := hc _ _ (fun k h => by
    by_cases z : k = true
    · rw [if_pos z] at h ⊢; exact hA h
    · rw [if_neg z] at h ⊢; exact hB h) q
theorem gn {i : Nat} {d : D} {env env' : Ev} {Q : Ev → Prop} (hE : eset env i (sv d) = env') (h : Q env') : gN i d env Q := by unfold gN; show Q (eset env i (sv d)); rw [hE]; exact h
theorem gs_nil {env : Ev} {Q : Ev → Prop} (h : Q env) : gNi [] env Q := h
theorem gs_cons {d : D} {r : List D} {g : D → Ev → (Ev → Prop) → Prop} {gs : List D → Ev → (Ev → Prop) → Prop} {env : Ev} {Q : Ev → Prop} (h : g d env (fun env1 => gs r env1 Q)) : gCo g gs (d :: r) env Q := h
theorem g_tup {ds : List D} {n : Nat} {gs : List D → Ev → (Ev → Prop) → Prop} {env : Ev} {Q : Ev → Prop} (h : gs ds env Q) (hl : ds.length = n) : gT n gs (.tuple ds) env Q := ⟨hl, h⟩
end
end
theorem w_tup0   {env : Ev}  : We eT0 (dTup dNil) env (fun G => G ()) := fun Q G hG g0 => hG () g0
theorem w_tup1 {t0 : Type} {e0 : t0 → D} {d0 : DEx} {f0 : M t0} {env : Ev} (h0 : We e0 d0 env f0) : We (eT1 e0) (dTup (dCons d0 dNil)) env (fun G => f0 fun x0 => G (x0)) := fun Q G hG g0 => h0 _ _ (fun x0 g1 => hG (x0) g1) g0
theorem w_tup2 {t0 t1 : Type} {e0 : t0 → D} {e1 : t1 → D} {d0 d1 : DEx} {f0 : M t0} {f1 : M t1} {env : Ev} (h0 : We e0 d0 env f0) (h1 : We e1 d1 env f1) : We (eT2 e0 e1) (dTup (dCons d0 (dCons d1 dNil))) env (fun G => f0 fun x0 => f1 fun x1 => G (x0, x1)) := fun Q G hG g0 => h0 _ _ (fun x0 g1 => h1 _ _ (fun x1 g2 => hG (x0, x1) g2) g1) g0
theorem w_tup3 {t0 t1 t2 : Type} {e0 : t0 → D} {e1 : t1 → D} {e2 : t2 → D} {d0 d1 d2 : DEx} {f0 : M t0} {f1 : M t1} {f2 : M t2} {env : Ev} (h0 : We e0 d0 env f0) (h1 : We e1 d1 env f1) (h2 : We e2 d2 env f2) : We (eT3 e0 e1 e2) (dTup (dCons d0 (dCons d1 (dCons d2 dNil)))) env (fun G => f0 fun x0 => f1 fun x1 => f2 fun x2 => G (x0, x1, x2)) := fun Q G hG g0 => h0 _ _ (fun x0 g1 => h1 _ _ (fun x1 g2 => h2 _ _ (fun x2 g3 => hG (x0, x1, x2) g3) g2) g1) g0
theorem w_tup4 {t0 t1 t2 t3 : Type} {e0 : t0 → D} {e1 : t1 → D} {e2 : t2 → D} {e3 : t3 → D} {d0 d1 d2 d3 : DEx} {f0 : M t0} {f1 : M t1} {f2 : M t2} {f3 : M t3} {env : Ev} (h0 : We e0 d0 env f0) (h1 : We e1 d1 env f1) (h2 : We e2 d2 env f2) (h3 : We e3 d3 env f3) : We (eT4 e0 e1 e2 e3) (dTup (dCons d0 (dCons d1 (dCons d2 (dCons d3 dNil))))) env (fun G => f0 fun x0 => f1 fun x1 => f2 fun x2 => f3 fun x3 => G (x0, x1, x2, x3)) := fun Q G hG g0 => h0 _ _ (fun x0 g1 => h1 _ _ (fun x1 g2 => h2 _ _ (fun x2 g3 => h3 _ _ (fun x3 g4 => hG (x0, x1, x2, x3) g4) g3) g2) g1) g0
theorem w_tup5 {t0 t1 t2 t3 t4 : Type} {e0 : t0 → D} {e1 : t1 → D} {e2 : t2 → D} {e3 : t3 → D} {e4 : t4 → D} {d0 d1 d2 d3 d4 : DEx} {f0 : M t0} {f1 : M t1} {f2 : M t2} {f3 : M t3} {f4 : M t4} {env : Ev} (h0 : We e0 d0 env f0) (h1 : We e1 d1 env f1) (h2 : We e2 d2 env f2) (h3 : We e3 d3 env f3) (h4 : We e4 d4 env f4) : We (eT5 e0 e1 e2 e3 e4) (dTup (dCons d0 (dCons d1 (dCons d2 (dCons d3 (dCons d4 dNil)))))) env (fun G => f0 fun x0 => f1 fun x1 => f2 fun x2 => f3 fun x3 => f4 fun x4 => G (x0, x1, x2, x3, x4)) := fun Q G hG g0 => h0 _ _ (fun x0 g1 => h1 _ _ (fun x1 g2 => h2 _ _ (fun x2 g3 => h3 _ _ (fun x3 g4 => h4 _ _ (fun x4 g5 => hG (x0, x1, x2, x3, x4) g5) g4) g3) g2) g1) g0
theorem w_tup6 {t0 t1 t2 t3 t4 t5 : Type} {e0 : t0 → D} {e1 : t1 → D} {e2 : t2 → D} {e3 : t3 → D} {e4 : t4 → D} {e5 : t5 → D} {d0 d1 d2 d3 d4 d5 : DEx} {f0 : M t0} {f1 : M t1} {f2 : M t2} {f3 : M t3} {f4 : M t4} {f5 : M t5} {env : Ev} (h0 : We e0 d0 env f0) (h1 : We e1 d1 env f1) (h2 : We e2 d2 env f2) (h3 : We e3 d3 env f3) (h4 : We e4 d4 env f4) (h5 : We e5 d5 env f5) : We (eT6 e0 e1 e2 e3 e4 e5) (dTup (dCons d0 (dCons d1 (dCons d2 (dCons d3 (dCons d4 (dCons d5 dNil))))))) env (fun G => f0 fun x0 => f1 fun x1 => f2 fun x2 => f3 fun x3 => f4 fun x4 => f5 fun x5 => G (x0, x1, x2, x3, x4, x5)) := fun Q G hG g0 => h0 _ _ (fun x0 g1 => h1 _ _ (fun x1 g2 => h2 _ _ (fun x2 g3 => h3 _ _ (fun x3 g4 => h4 _ _ (fun x4 g5 => h5 _ _ (fun x5 g6 => hG (x0, x1, x2, x3, x4, x5) g6) g5) g4) g3) g2) g1) g0
theorem w_tup7 {t0 t1 t2 t3 t4 t5 t6 : Type} {e0 : t0 → D} {e1 : t1 → D} {e2 : t2 → D} {e3 : t3 → D} {e4 : t4 → D} {e5 : t5 → D} {e6 : t6 → D} {d0 d1 d2 d3 d4 d5 d6 : DEx} {f0 : M t0} {f1 : M t1} {f2 : M t2} {f3 : M t3} {f4 : M t4} {f5 : M t5} {f6 : M t6} {env : Ev} (h0 : We e0 d0 env f0) (h1 : We e1 d1 env f1) (h2 : We e2 d2 env f2) (h3 : We e3 d3 env f3) (h4 : We e4 d4 env f4) (h5 : We e5 d5 env f5) (h6 : We e6 d6 env f6) : We (eT7 e0 e1 e2 e3 e4 e5 e6) (dTup (dCons d0 (dCons d1 (dCons d2 (dCons d3 (dCons d4 (dCons d5 (dCons d6 dNil)))))))) env (fun G => f0 fun x0 => f1 fun x1 => f2 fun x2 => f3 fun x3 => f4 fun x4 => f5 fun x5 => f6 fun x6 => G (x0, x1, x2, x3, x4, x5, x6)) := fun Q G hG g0 => h0 _ _ (fun x0 g1 => h1 _ _ (fun x1 g2 => h2 _ _ (fun x2 g3 => h3 _ _ (fun x3 g4 => h4 _ _ (fun x4 g5 => h5 _ _ (fun x5 g6 => h6 _ _ (fun x6 g7 => hG (x0, x1, x2, x3, x4, x5, x6) g7) g6) g5) g4) g3) g2) g1) g0
theorem w_tup8 {t0 t1 t2 t3 t4 t5 t6 t7 : Type} {e0 : t0 → D} {e1 : t1 → D} {e2 : t2 → D} {e3 : t3 → D} {e4 : t4 → D} {e5 : t5 → D} {e6 : t6 → D} {e7 : t7 → D} {d0 d1 d2 d3 d4 d5 d6 d7 : DEx} {f0 : M t0} {f1 : M t1} {f2 : M t2} {f3 : M t3} {f4 : M t4} {f5 : M t5} {f6 : M t6} {f7 : M t7} {env : Ev} (h0 : We e0 d0 env f0) (h1 : We e1 d1 env f1) (h2 : We e2 d2 env f2) (h3 : We e3 d3 env f3) (h4 : We e4 d4 env f4) (h5 : We e5 d5 env f5) (h6 : We e6 d6 env f6) (h7 : We e7 d7 env f7) : We (eT8 e0 e1 e2 e3 e4 e5 e6 e7) (dTup (dCons d0 (dCons d1 (dCons d2 (dCons d3 (dCons d4 (dCons d5 (dCons d6 (dCons d7 dNil))))))))) env (fun G => f0 fun x0 => f1 fun x1 => f2 fun x2 => f3 fun x3 => f4 fun x4 => f5 fun x5 => f6 fun x6 => f7 fun x7 => G (x0, x1, x2, x3, x4, x5, x6, x7)) := fun Q G hG g0 => h0 _ _ (fun x0 g1 => h1 _ _ (fun x1 g2 => h2 _ _ (fun x2 g3 => h3 _ _ (fun x3 g4 => h4 _ _ (fun x4 g5 => h5 _ _ (fun x5 g6 => h6 _ _ (fun x6 g7 => h7 _ _ (fun x7 g8 => hG (x0, x1, x2, x3, x4, x5, x6, x7) g8) g7) g6) g5) g4) g3) g2) g1) g0
theorem w_tup9 {t0 t1 t2 t3 t4 t5 t6 t7 t8 : Type} {e0 : t0 → D} {e1 : t1 → D} {e2 : t2 → D} {e3 : t3 → D} {e4 : t4 → D} {e5 : t5 → D} {e6 : t6 → D} {e7 : t7 → D} {e8 : t8 → D} {d0 d1 d2 d3 d4 d5 d6 d7 d8 : DEx} {f0 : M t0} {f1 : M t1} {f2 : M t2} {f3 : M t3} {f4 : M t4} {f5 : M t5} {f6 : M t6} {f7 : M t7} {f8 : M t8} {env : Ev} (h0 : We e0 d0 env f0) (h1 : We e1 d1 env f1) (h2 : We e2 d2 env f2) (h3 : We e3 d3 env f3) (h4 : We e4 d4 env f4) (h5 : We e5 d5 env f5) (h6 : We e6 d6 env f6) (h7 : We e7 d7 env f7) (h8 : We e8 d8 env f8) : We (eT9 e0 e1 e2 e3 e4 e5 e6 e7 e8) (dTup (dCons d0 (dCons d1 (dCons d2 (dCons d3 (dCons d4 (dCons d5 (dCons d6 (dCons d7 (dCons d8 dNil)))))))))) env (fun G => f0 fun x0 => f1 fun x1 => f2 fun x2 => f3 fun x3 => f4 fun x4 => f5 fun x5 => f6 fun x6 => f7 fun x7 => f8 fun x8 => G (x0, x1, x2, x3, x4, x5, x6, x7, x8)) := fun Q G hG g0 => h0 _ _ (fun x0 g1 => h1 _ _ (fun x1 g2 => h2 _ _ (fun x2 g3 => h3 _ _ (fun x3 g4 => h4 _ _ (fun x4 g5 => h5 _ _ (fun x5 g6 => h6 _ _ (fun x6 g7 => h7 _ _ (fun x7 g8 => h8 _ _ (fun x8 g9 => hG (x0, x1, x2, x3, x4, x5, x6, x7, x8) g9) g8) g7) g6) g5) g4) g3) g2) g1) g0
theorem w_tup10 {t0 t1 t2 t3 t4 t5 t6 t7 t8 t9 : Type} {e0 : t0 → D} {e1 : t1 → D} {e2 : t2 → D} {e3 : t3 → D} {e4 : t4 → D} {e5 : t5 → D} {e6 : t6 → D} {e7 : t7 → D} {e8 : t8 → D} {e9 : t9 → D} {d0 d1 d2 d3 d4 d5 d6 d7 d8 d9 : DEx} {f0 : M t0} {f1 : M t1} {f2 : M t2} {f3 : M t3} {f4 : M t4} {f5 : M t5} {f6 : M t6} {f7 : M t7} {f8 : M t8} {f9 : M t9} {env : Ev} (h0 : We e0 d0 env f0) (h1 : We e1 d1 env f1) (h2 : We e2 d2 env f2) (h3 : We e3 d3 env f3) (h4 : We e4 d4 env f4) (h5 : We e5 d5 env f5) (h6 : We e6 d6 env f6) (h7 : We e7 d7 env f7) (h8 : We e8 d8 env f8) (h9 : We e9 d9 env f9) : We (eT10 e0 e1 e2 e3 e4 e5 e6 e7 e8 e9) (dTup (dCons d0 (dCons d1 (dCons d2 (dCons d3 (dCons d4 (dCons d5 (dCons d6 (dCons d7 (dCons d8 (dCons d9 dNil))))))))))) env (fun G => f0 fun x0 => f1 fun x1 => f2 fun x2 => f3 fun x3 => f4 fun x4 => f5 fun x5 => f6 fun x6 => f7 fun x7 => f8 fun x8 => f9 fun x9 => G (x0, x1, x2, x3, x4, x5, x6, x7, x8, x9)) := fun Q G hG g0 => h0 _ _ (fun x0 g1 => h1 _ _ (fun x1 g2 => h2 _ _ (fun x2 g3 => h3 _ _ (fun x3 g4 => h4 _ _ (fun x4 g5 => h5 _ _ (fun x5 g6 => h6 _ _ (fun x6 g7 => h7 _ _ (fun x7 g8 => h8 _ _ (fun x8 g9 => h9 _ _ (fun x9 g10 => hG (x0, x1, x2, x3, x4, x5, x6, x7, x8, x9) g10) g9) g8) g7) g6) g5) g4) g3) g2) g1) g0
theorem w_tup11 {t0 t1 t2 t3 t4 t5 t6 t7 t8 t9 t10 : Type} {e0 : t0 → D} {e1 : t1 → D} {e2 : t2 → D} {e3 : t3 → D} {e4 : t4 → D} {e5 : t5 → D} {e6 : t6 → D} {e7 : t7 → D} {e8 : t8 → D} {e9 : t9 → D} {e10 : t10 → D} {d0 d1 d2 d3 d4 d5 d6 d7 d8 d9 d10 : DEx} {f0 : M t0} {f1 : M t1} {f2 : M t2} {f3 : M t3} {f4 : M t4} {f5 : M t5} {f6 : M t6} {f7 : M t7} {f8 : M t8} {f9 : M t9} {f10 : M t10} {env : Ev} (h0 : We e0 d0 env f0) (h1 : We e1 d1 env f1) (h2 : We e2 d2 env f2) (h3 : We e3 d3 env f3) (h4 : We e4 d4 env f4) (h5 : We e5 d5 env f5) (h6 : We e6 d6 env f6) (h7 : We e7 d7 env f7) (h8 : We e8 d8 env f8) (h9 : We e9 d9 env f9) (h10 : We e10 d10 env f10) : We (eT11 e0 e1 e2 e3 e4 e5 e6 e7 e8 e9 e10) (dTup (dCons d0 (dCons d1 (dCons d2 (dCons d3 (dCons d4 (dCons d5 (dCons d6 (dCons d7 (dCons d8 (dCons d9 (dCons d10 dNil)))))))))))) env (fun G => f0 fun x0 => f1 fun x1 => f2 fun x2 => f3 fun x3 => f4 fun x4 => f5 fun x5 => f6 fun x6 => f7 fun x7 => f8 fun x8 => f9 fun x9 => f10 fun x10 => G (x0, x1, x2, x3, x4, x5, x6, x7, x8, x9, x10)) := fun Q G hG g0 => h0 _ _ (fun x0 g1 => h1 _ _ (fun x1 g2 => h2 _ _ (fun x2 g3 => h3 _ _ (fun x3 g4 => h4 _ _ (fun x4 g5 => h5 _ _ (fun x5 g6 => h6 _ _ (fun x6 g7 => h7 _ _ (fun x7 g8 => h8 _ _ (fun x8 g9 => h9 _ _ (fun x9 g10 => h10 _ _ (fun x10 g11 => hG (x0, x1, x2, x3, x4, x5, x6, x7, x8, x9, x10) g11) g10) g9) g8) g7) g6) g5) g4) g3) g2) g1) g0
theorem w_tup12 {t0 t1 t2 t3 t4 t5 t6 t7 t8 t9 t10 t11 : Type} {e0 : t0 → D} {e1 : t1 → D} {e2 : t2 → D} {e3 : t3 → D} {e4 : t4 → D} {e5 : t5 → D} {e6 : t6 → D} {e7 : t7 → D} {e8 : t8 → D} {e9 : t9 → D} {e10 : t10 → D} {e11 : t11 → D} {d0 d1 d2 d3 d4 d5 d6 d7 d8 d9 d10 d11 : DEx} {f0 : M t0} {f1 : M t1} {f2 : M t2} {f3 : M t3} {f4 : M t4} {f5 : M t5} {f6 : M t6} {f7 : M t7} {f8 : M t8} {f9 : M t9} {f10 : M t10} {f11 : M t11} {env : Ev} (h0 : We e0 d0 env f0) (h1 : We e1 d1 env f1) (h2 : We e2 d2 env f2) (h3 : We e3 d3 env f3) (h4 : We e4 d4 env f4) (h5 : We e5 d5 env f5) (h6 : We e6 d6 env f6) (h7 : We e7 d7 env f7) (h8 : We e8 d8 env f8) (h9 : We e9 d9 env f9) (h10 : We e10 d10 env f10) (h11 : We e11 d11 env f11) : We (eT12 e0 e1 e2 e3 e4 e5 e6 e7 e8 e9 e10 e11) (dTup (dCons d0 (dCons d1 (dCons d2 (dCons d3 (dCons d4 (dCons d5 (dCons d6 (dCons d7 (dCons d8 (dCons d9 (dCons d10 (dCons d11 dNil))))))))))))) env (fun G => f0 fun x0 => f1 fun x1 => f2 fun x2 => f3 fun x3 => f4 fun x4 => f5 fun x5 => f6 fun x6 => f7 fun x7 => f8 fun x8 => f9 fun x9 => f10 fun x10 => f11 fun x11 => G (x0, x1, x2, x3, x4, x5, x6, x7, x8, x9, x10, x11)) := fun Q G hG g0 => h0 _ _ (fun x0 g1 => h1 _ _ (fun x1 g2 => h2 _ _ (fun x2 g3 => h3 _ _ (fun x3 g4 => h4 _ _ (fun x4 g5 => h5 _ _ (fun x5 g6 => h6 _ _ (fun x6 g7 => h7 _ _ (fun x7 g8 => h8 _ _ (fun x8 g9 => h9 _ _ (fun x9 g10 => h10 _ _ (fun x10 g11 => h11 _ _ (fun x11 g12 => hG (x0, x1, x2, x3, x4, x5, x6, x7, x8, x9, x10, x11) g12) g11) g10) g9) g8) g7) g6) g5) g4) g3) g2) g1) g0
def pr0 { ρ : Type}  (er : ρ → D) (f : M ρ) : (D → Prop) → Prop := fun  Q => ∃ G, f  G ∧ ∀ r, G r → Q (er r)
def pr1 {t0 ρ : Type} (e0 : t0 → D) (er : ρ → D) (f : t0 → M ρ) : D → (D → Prop) → Prop := fun a0 Q => ∃ x0 G, a0 = e0 x0 ∧ f x0 G ∧ ∀ r, G r → Q (er r)
def pr2 {t0 t1 ρ : Type} (e0 : t0 → D) (e1 : t1 → D) (er : ρ → D) (f : t0 → t1 → M ρ) : D → D → (D → Prop) → Prop := fun a0 a1 Q => ∃ x0 x1 G, a0 = e0 x0 ∧ a1 = e1 x1 ∧ f x0 x1 G ∧ ∀ r, G r → Q (er r)
def pr3 {t0 t1 t2 ρ : Type} (e0 : t0 → D) (e1 : t1 → D) (e2 : t2 → D) (er : ρ → D) (f : t0 → t1 → t2 → M ρ) : D → D → D → (D → Prop) → Prop := fun a0 a1 a2 Q => ∃ x0 x1 x2 G, a0 = e0 x0 ∧ a1 = e1 x1 ∧ a2 = e2 x2 ∧ f x0 x1 x2 G ∧ ∀ r, G r → Q (er r)
def pr4 {t0 t1 t2 t3 ρ : Type} (e0 : t0 → D) (e1 : t1 → D) (e2 : t2 → D) (e3 : t3 → D) (er : ρ → D) (f : t0 → t1 → t2 → t3 → M ρ) : D → D → D → D → (D → Prop) → Prop := fun a0 a1 a2 a3 Q => ∃ x0 x1 x2 x3 G, a0 = e0 x0 ∧ a1 = e1 x1 ∧ a2 = e2 x2 ∧ a3 = e3 x3 ∧ f x0 x1 x2 x3 G ∧ ∀ r, G r → Q (er r)
def pr5 {t0 t1 t2 t3 t4 ρ : Type} (e0 : t0 → D) (e1 : t1 → D) (e2 : t2 → D) (e3 : t3 → D) (e4 : t4 → D) (er : ρ → D) (f : t0 → t1 → t2 → t3 → t4 → M ρ) : D → D → D → D → D → (D → Prop) → Prop := fun a0 a1 a2 a3 a4 Q => ∃ x0 x1 x2 x3 x4 G, a0 = e0 x0 ∧ a1 = e1 x1 ∧ a2 = e2 x2 ∧ a3 = e3 x3 ∧ a4 = e4 x4 ∧ f x0 x1 x2 x3 x4 G ∧ ∀ r, G r → Q (er r)
def pr6 {t0 t1 t2 t3 t4 t5 ρ : Type} (e0 : t0 → D) (e1 : t1 → D) (e2 : t2 → D) (e3 : t3 → D) (e4 : t4 → D) (e5 : t5 → D) (er : ρ → D) (f : t0 → t1 → t2 → t3 → t4 → t5 → M ρ) : D → D → D → D → D → D → (D → Prop) → Prop := fun a0 a1 a2 a3 a4 a5 Q => ∃ x0 x1 x2 x3 x4 x5 G, a0 = e0 x0 ∧ a1 = e1 x1 ∧ a2 = e2 x2 ∧ a3 = e3 x3 ∧ a4 = e4 x4 ∧ a5 = e5 x5 ∧ f x0 x1 x2 x3 x4 x5 G ∧ ∀ r, G r → Q (er r)
theorem w_call0 { ρ : Type}  {er : ρ → D} {f : M ρ}  {env : Ev}  : We er (dCall (F0 (pr0  er f)) dNil) env (fun G => f  G) := fun Q G hG g0 => ⟨G, g0, hG⟩
theorem w_callS0 { ρ : Type}  {er : ρ → D} {f : M ρ}  {env : Ev} {i : Nat} (hst : eget env i = some .st)  : We er (dCallS i (F0 (pr0  er f)) dNil) env (fun G => f  G) := fun Q G hG g0 => by unfold dCallS; rw [hst]; exact ⟨G, g0, hG⟩
theorem w_call1 {t0 ρ : Type} {e0 : t0 → D} {er : ρ → D} {f : t0 → M ρ} {d0 : DEx} {f0 : M t0} {env : Ev} (h0 : We e0 d0 env f0) : We er (dCall (F1 (pr1 e0 er f)) (dCons d0 dNil)) env (fun G => f0 fun x0 => f x0 G) := fun Q G hG g0 => h0 _ _ (fun x0 g1 => ⟨x0, G, rfl, g1, hG⟩) g0
theorem w_callS1 {t0 ρ : Type} {e0 : t0 → D} {er : ρ → D} {f : t0 → M ρ} {d0 : DEx} {f0 : M t0} {env : Ev} {i : Nat} (hst : eget env i = some .st) (h0 : We e0 d0 env f0) : We er (dCallS i (F1 (pr1 e0 er f)) (dCons d0 dNil)) env (fun G => f0 fun x0 => f x0 G) := fun Q G hG g0 => by unfold dCallS; rw [hst]; exact h0 _ _ (fun x0 g1 => ⟨x0, G, rfl, g1, hG⟩) g0
theorem w_call2 {t0 t1 ρ : Type} {e0 : t0 → D} {e1 : t1 → D} {er : ρ → D} {f : t0 → t1 → M ρ} {d0 d1 : DEx} {f0 : M t0} {f1 : M t1} {env : Ev} (h0 : We e0 d0 env f0) (h1 : We e1 d1 env f1) : We er (dCall (F2 (pr2 e0 e1 er f)) (dCons d0 (dCons d1 dNil))) env (fun G => f0 fun x0 => f1 fun x1 => f x0 x1 G) := fun Q G hG g0 => h0 _ _ (fun x0 g1 => h1 _ _ (fun x1 g2 => ⟨x0, x1, G, rfl, rfl, g2, hG⟩) g1) g0
theorem w_callS2 {t0 t1 ρ : Type} {e0 : t0 → D} {e1 : t1 → D} {er : ρ → D} {f : t0 → t1 → M ρ} {d0 d1 : DEx} {f0 : M t0} {f1 : M t1} {env : Ev} {i : Nat} (hst : eget env i = some .st) (h0 : We e0 d0 env f0) (h1 : We e1 d1 env f1) : We er (dCallS i (F2 (pr2 e0 e1 er f)) (dCons d0 (dCons d1 dNil))) env (fun G => f0 fun x0 => f1 fun x1 => f x0 x1 G) := fun Q G hG g0 => by unfold dCallS; rw [hst]; exact h0 _ _ (fun x0 g1 => h1 _ _ (fun x1 g2 => ⟨x0, x1, G, rfl, rfl, g2, hG⟩) g1) g0
theorem w_call3 {t0 t1 t2 ρ : Type} {e0 : t0 → D} {e1 : t1 → D} {e2 : t2 → D} {er : ρ → D} {f : t0 → t1 → t2 → M ρ} {d0 d1 d2 : DEx} {f0 : M t0} {f1 : M t1} {f2 : M t2} {env : Ev} (h0 : We e0 d0 env f0) (h1 : We e1 d1 env f1) (h2 : We e2 d2 env f2) : We er (dCall (F3 (pr3 e0 e1 e2 er f)) (dCons d0 (dCons d1 (dCons d2 dNil)))) env (fun G => f0 fun x0 => f1 fun x1 => f2 fun x2 => f x0 x1 x2 G) := fun Q G hG g0 => h0 _ _ (fun x0 g1 => h1 _ _ (fun x1 g2 => h2 _ _ (fun x2 g3 => ⟨x0, x1, x2, G, rfl, rfl, rfl, g3, hG⟩) g2) g1) g0
theorem w_callS3 {t0 t1 t2 ρ : Type} {e0 : t0 → D} {e1 : t1 → D} {e2 : t2 → D} {er : ρ → D} {f : t0 → t1 → t2 → M ρ} {d0 d1 d2 : DEx} {f0 : M t0} {f1 : M t1} {f2 : M t2} {env : Ev} {i : Nat} (hst : eget env i = some .st) (h0 : We e0 d0 env f0) (h1 : We e1 d1 env f1) (h2 : We e2 d2 env f2) : We er (dCallS i (F3 (pr3 e0 e1 e2 er f)) (dCons d0 (dCons d1 (dCons d2 dNil)))) env (fun G => f0 fun x0 => f1 fun x1 => f2 fun x2 => f x0 x1 x2 G) := fun Q G hG g0 => by unfold dCallS; rw [hst]; exact h0 _ _ (fun x0 g1 => h1 _ _ (fun x1 g2 => h2 _ _ (fun x2 g3 => ⟨x0, x1, x2, G, rfl, rfl, rfl, g3, hG⟩) g2) g1) g0
theorem w_call4 {t0 t1 t2 t3 ρ : Type} {e0 : t0 → D} {e1 : t1 → D} {e2 : t2 → D} {e3 : t3 → D} {er : ρ → D} {f : t0 → t1 → t2 → t3 → M ρ} {d0 d1 d2 d3 : DEx} {f0 : M t0} {f1 : M t1} {f2 : M t2} {f3 : M t3} {env : Ev} (h0 : We e0 d0 env f0) (h1 : We e1 d1 env f1) (h2 : We e2 d2 env f2) (h3 : We e3 d3 env f3) : We er (dCall (F4 (pr4 e0 e1 e2 e3 er f)) (dCons d0 (dCons d1 (dCons d2 (dCons d3 dNil))))) env (fun G => f0 fun x0 => f1 fun x1 => f2 fun x2 => f3 fun x3 => f x0 x1 x2 x3 G) := fun Q G hG g0 => h0 _ _ (fun x0 g1 => h1 _ _ (fun x1 g2 => h2 _ _ (fun x2 g3 => h3 _ _ (fun x3 g4 => ⟨x0, x1, x2, x3, G, rfl, rfl, rfl, rfl, g4, hG⟩) g3) g2) g1) g0
theorem w_callS4 {t0 t1 t2 t3 ρ : Type} {e0 : t0 → D} {e1 : t1 → D} {e2 : t2 → D} {e3 : t3 → D} {er : ρ → D} {f : t0 → t1 → t2 → t3 → M ρ} {d0 d1 d2 d3 : DEx} {f0 : M t0} {f1 : M t1} {f2 : M t2} {f3 : M t3} {env : Ev} {i : Nat} (hst : eget env i = some .st) (h0 : We e0 d0 env f0) (h1 : We e1 d1 env f1) (h2 : We e2 d2 env f2) (h3 : We e3 d3 env f3) : We er (dCallS i (F4 (pr4 e0 e1 e2 e3 er f)) (dCons d0 (dCons d1 (dCons d2 (dCons d3 dNil))))) env (fun G => f0 fun x0 => f1 fun x1 => f2 fun x2 => f3 fun x3 => f x0 x1 x2 x3 G) := fun Q G hG g0 => by unfold dCallS; rw [hst]; exact h0 _ _ (fun x0 g1 => h1 _ _ (fun x1 g2 => h2 _ _ (fun x2 g3 => h3 _ _ (fun x3 g4 => ⟨x0, x1, x2, x3, G, rfl, rfl, rfl, rfl, g4, hG⟩) g3) g2) g1) g0
theorem w_call5 {t0 t1 t2 t3 t4 ρ : Type} {e0 : t0 → D} {e1 : t1 → D} {e2 : t2 → D} {e3 : t3 → D} {e4 : t4 → D} {er : ρ → D} {f : t0 → t1 → t2 → t3 → t4 → M ρ} {d0 d1 d2 d3 d4 : DEx} {f0 : M t0} {f1 : M t1} {f2 : M t2} {f3 : M t3} {f4 : M t4} {env : Ev} (h0 : We e0 d0 env f0) (h1 : We e1 d1 env f1) (h2 : We e2 d2 env f2) (h3 : We e3 d3 env f3) (h4 : We e4 d4 env f4) : We er (dCall (F5 (pr5 e0 e1 e2 e3 e4 er f)) (dCons d0 (dCons d1 (dCons d2 (dCons d3 (dCons d4 dNil)))))) env (fun G => f0 fun x0 => f1 fun x1 => f2 fun x2 => f3 fun x3 => f4 fun x4 => f x0 x1 x2 x3 x4 G) := fun Q G hG g0 => h0 _ _ (fun x0 g1 => h1 _ _ (fun x1 g2 => h2 _ _ (fun x2 g3 => h3 _ _ (fun x3 g4 => h4 _ _ (fun x4 g5 => ⟨x0, x1, x2, x3, x4, G, rfl, rfl, rfl, rfl, rfl, g5, hG⟩) g4) g3) g2) g1) g0
theorem w_callS5 {t0 t1 t2 t3 t4 ρ : Type} {e0 : t0 → D} {e1 : t1 → D} {e2 : t2 → D} {e3 : t3 → D} {e4 : t4 → D} {er : ρ → D} {f : t0 → t1 → t2 → t3 → t4 → M ρ} {d0 d1 d2 d3 d4 : DEx} {f0 : M t0} {f1 : M t1} {f2 : M t2} {f3 : M t3} {f4 : M t4} {env : Ev} {i : Nat} (hst : eget env i = some .st) (h0 : We e0 d0 env f0) (h1 : We e1 d1 env f1) (h2 : We e2 d2 env f2) (h3 : We e3 d3 env f3) (h4 : We e4 d4 env f4) : We er (dCallS i (F5 (pr5 e0 e1 e2 e3 e4 er f)) (dCons d0 (dCons d1 (dCons d2 (dCons d3 (dCons d4 dNil)))))) env (fun G => f0 fun x0 => f1 fun x1 => f2 fun x2 => f3 fun x3 => f4 fun x4 => f x0 x1 x2 x3 x4 G) := fun Q G hG g0 => by unfold dCallS; rw [hst]; exact h0 _ _ (fun x0 g1 => h1 _ _ (fun x1 g2 => h2 _ _ (fun x2 g3 => h3 _ _ (fun x3 g4 => h4 _ _ (fun x4 g5 => ⟨x0, x1, x2, x3, x4, G, rfl, rfl, rfl, rfl, rfl, g5, hG⟩) g4) g3) g2) g1) g0
theorem w_call6 {t0 t1 t2 t3 t4 t5 ρ : Type} {e0 : t0 → D} {e1 : t1 → D} {e2 : t2 → D} {e3 : t3 → D} {e4 : t4 → D} {e5 : t5 → D} {er : ρ → D} {f : t0 → t1 → t2 → t3 → t4 → t5 → M ρ} {d0 d1 d2 d3 d4 d5 : DEx} {f0 : M t0} {f1 : M t1} {f2 : M t2} {f3 : M t3} {f4 : M t4} {f5 : M t5} {env : Ev} (h0 : We e0 d0 env f0) (h1 : We e1 d1 env f1) (h2 : We e2 d2 env f2) (h3 : We e3 d3 env f3) (h4 : We e4 d4 env f4) (h5 : We e5 d5 env f5) : We er (dCall (F6 (pr6 e0 e1 e2 e3 e4 e5 er f)) (dCons d0 (dCons d1 (dCons d2 (dCons d3 (dCons d4 (dCons d5 dNil))))))) env (fun G => f0 fun x0 => f1 fun x1 => f2 fun x2 => f3 fun x3 => f4 fun x4 => f5 fun x5 => f x0 x1 x2 x3 x4 x5 G) := fun Q G hG g0 => h0 _ _ (fun x0 g1 => h1 _ _ (fun x1 g2 => h2 _ _ (fun x2 g3 => h3 _ _ (fun x3 g4 => h4 _ _ (fun x4 g5 => h5 _ _ (fun x5 g6 => ⟨x0, x1, x2, x3, x4, x5, G, rfl, rfl, rfl, rfl, rfl, rfl, g6, hG⟩) g5) g4) g3) g2) g1) g0
theorem w_callS6 {t0 t1 t2 t3 t4 t5 ρ : Type} {e0 : t0 → D} {e1 : t1 → D} {e2 : t2 → D} {e3 : t3 → D} {e4 : t4 → D} {e5 : t5 → D} {er : ρ → D} {f : t0 → t1 → t2 → t3 → t4 → t5 → M ρ} {d0 d1 d2 d3 d4 d5 : DEx} {f0 : M t0} {f1 : M t1} {f2 : M t2} {f3 : M t3} {f4 : M t4} {f5 : M t5} {env : Ev} {i : Nat} (hst : eget env i = some .st) (h0 : We e0 d0 env f0) (h1 : We e1 d1 env f1) (h2 : We e2 d2 env f2) (h3 : We e3 d3 env f3) (h4 : We e4 d4 env f4) (h5 : We e5 d5 env f5) : We er (dCallS i (F6 (pr6 e0 e1 e2 e3 e4 e5 er f)) (dCons d0 (dCons d1 (dCons d2 (dCons d3 (dCons d4 (dCons d5 dNil))))))) env (fun G => f0 fun x0 => f1 fun x1 => f2 fun x2 => f3 fun x3 => f4 fun x4 => f5 fun x5 => f x0 x1 x2 x3 x4 x5 G) := fun Q G hG g0 => by unfold dCallS; rw [hst]; exact h0 _ _ (fun x0 g1 => h1 _ _ (fun x1 g2 => h2 _ _ (fun x2 g3 => h3 _ _ (fun x3 g4 => h4 _ _ (fun x4 g5 => h5 _ _ (fun x5 g6 => ⟨x0, x1, x2, x3, x4, x5, G, rfl, rfl, rfl, rfl, rfl, rfl, g6, hG⟩) g5) g4) g3) g2) g1) g0
def topS (i : Nat) : Stmt := PySem.Challenge.pw_onepolicy_k15_whole_talks_segment_by_seg.main.body.getD i (.Pass ⟨0, 0, 0, 0⟩)
abbrev s_after : Stmt := topS 3
abbrev Ns_after : List Str := ["number", "steps"]
theorem x_after : FnScope Ns_after ["number", "steps"] (defScope s_after) := ⟨rfl, rfl, rfl, by decide +kernel, rfl, by decide +kernel, by decide +kernel⟩
abbrev s_between : Stmt := topS 4
abbrev Ns_between : List Str := ["number", "first"]
theorem x_between : FnScope Ns_between ["number", "first"] (defScope s_between) := ⟨rfl, rfl, rfl, by decide +kernel, rfl, by decide +kernel, by decide +kernel⟩
abbrev s_later : Stmt := topS 5
abbrev Ns_later : List Str := ["a", "b"]
theorem x_later : FnScope Ns_later ["a", "b"] (defScope s_later) := ⟨rfl, rfl, rfl, by decide +kernel, rfl, by decide +kernel, by decide +kernel⟩
abbrev s_later_one : Stmt := topS 6
abbrev Ns_later_one : List Str := ["a", "b"]
theorem x_later_one : FnScope Ns_later_one ["a", "b"] (defScope s_later_one) := ⟨rfl, rfl, rfl, by decide +kernel, rfl, by decide +kernel, by decide +kernel⟩
abbrev s_lies : Stmt := topS 7
abbrev Ns_lies : List Str := ["number", "first", "last"]
theorem x_lies : FnScope Ns_lies ["number", "first", "last"] (defScope s_lies) := ⟨rfl, rfl, rfl, by decide +kernel, rfl, by decide +kernel, by decide +kernel⟩
abbrev s_shift_of : Stmt := topS 9
abbrev Ns_shift_of : List Str := ["options", "at", "length"]
theorem x_shift_of : FnScope Ns_shift_of ["options"] (defScope s_shift_of) := ⟨rfl, rfl, rfl, by decide +kernel, rfl, by decide +kernel, by decide +kernel⟩
abbrev s_length_at : Stmt := topS 10
abbrev Ns_length_at : List Str := ["options", "at", "length"]
theorem x_length_at : FnScope Ns_length_at ["options", "at"] (defScope s_length_at) := ⟨rfl, rfl, rfl, by decide +kernel, rfl, by decide +kernel, by decide +kernel⟩
abbrev s_segment_end : Stmt := topS 32
abbrev Ns_segment_end : List Str := ["segment", "flags", "marks"]
theorem x_segment_end : FnScope Ns_segment_end ["segment"] (defScope s_segment_end) := ⟨rfl, rfl, rfl, by decide +kernel, rfl, by decide +kernel, by decide +kernel⟩
abbrev s_begun : Stmt := topS 33
abbrev Ns_begun : List Str := ["segment", "start", "wide", "end"]
theorem x_begun : FnScope Ns_begun ["segment"] (defScope s_begun) := ⟨rfl, rfl, rfl, by decide +kernel, rfl, by decide +kernel, by decide +kernel⟩
abbrev s_tracked : Stmt := topS 34
abbrev Ns_tracked : List Str := ["talk", "x", "segment", "state"]
theorem x_tracked : FnScope Ns_tracked ["talk", "x", "segment"] (defScope s_tracked) := ⟨rfl, rfl, rfl, by decide +kernel, rfl, by decide +kernel, by decide +kernel⟩
abbrev s_form : Stmt := topS 35
abbrev Ns_form : List Str := ["segment"]
theorem x_form : FnScope Ns_form ["segment"] (defScope s_form) := ⟨rfl, rfl, rfl, by decide +kernel, rfl, by decide +kernel, by decide +kernel⟩
abbrev s_is_odd : Stmt := topS 36
abbrev Ns_is_odd : List Str := ["segment", "form"]
theorem x_is_odd : FnScope Ns_is_odd ["segment"] (defScope s_is_odd) := ⟨rfl, rfl, rfl, by decide +kernel, rfl, by decide +kernel, by decide +kernel⟩
abbrev s_is_rst : Stmt := topS 37
abbrev Ns_is_rst : List Str := ["segment"]
theorem x_is_rst : FnScope Ns_is_rst ["segment"] (defScope s_is_rst) := ⟨rfl, rfl, rfl, by decide +kernel, rfl, by decide +kernel, by decide +kernel⟩
abbrev s_width : Stmt := topS 38
abbrev Ns_width : List Str := ["window"]
theorem x_width : FnScope Ns_width ["window"] (defScope s_width) := ⟨rfl, rfl, rfl, by decide +kernel, rfl, by decide +kernel, by decide +kernel⟩
abbrev s_ended : Stmt := topS 39
abbrev Ns_ended : List Str := ["talk"]
theorem x_ended : FnScope Ns_ended ["talk"] (defScope s_ended) := ⟨rfl, rfl, rfl, by decide +kernel, rfl, by decide +kernel, by decide +kernel⟩
abbrev s_is_first_syn : Stmt := topS 40
abbrev Ns_is_first_syn : List Str := ["talk", "x", "segment"]
theorem x_is_first_syn : FnScope Ns_is_first_syn ["talk", "x", "segment"] (defScope s_is_first_syn) := ⟨rfl, rfl, rfl, by decide +kernel, rfl, by decide +kernel, by decide +kernel⟩
abbrev s_in_asked : Stmt := topS 41
abbrev Ns_in_asked : List Str := ["talk", "x", "segment", "opener", "form"]
theorem x_in_asked : FnScope Ns_in_asked ["talk", "x", "segment"] (defScope s_in_asked) := ⟨rfl, rfl, rfl, by decide +kernel, rfl, by decide +kernel, by decide +kernel⟩
abbrev s_answered : Stmt := topS 42
abbrev Ns_answered : List Str := ["opener", "segment", "start", "ack", "wide", "shift", "other_shift", "end", "answerer", "heard"]
theorem x_answered : FnScope Ns_answered ["opener", "segment"] (defScope s_answered) := ⟨rfl, rfl, rfl, by decide +kernel, rfl, by decide +kernel, by decide +kernel⟩
abbrev s_in_answered : Stmt := topS 43
abbrev Ns_in_answered : List Str := ["talk", "x", "segment"]
theorem x_in_answered : FnScope Ns_in_answered ["talk", "x", "segment"] (defScope s_in_answered) := ⟨rfl, rfl, rfl, by decide +kernel, rfl, by decide +kernel, by decide +kernel⟩
abbrev s_is_syn_ack : Stmt := topS 44
abbrev Ns_is_syn_ack : List Str := ["talk", "x", "segment", "ack"]
theorem x_is_syn_ack : FnScope Ns_is_syn_ack ["talk", "x", "segment", "ack"] (defScope s_is_syn_ack) := ⟨rfl, rfl, rfl, by decide +kernel, rfl, by decide +kernel, by decide +kernel⟩
abbrev s_lies_well : Stmt := topS 45
abbrev Ns_lies_well : List Str := ["talk", "x", "segment", "side", "other", "flags", "end"]
theorem x_lies_well : FnScope Ns_lies_well ["talk", "x", "segment"] (defScope s_lies_well) := ⟨rfl, rfl, rfl, by decide +kernel, rfl, by decide +kernel, by decide +kernel⟩
abbrev s_in_open : Stmt := topS 46
abbrev Ns_in_open : List Str := ["talk", "x", "segment", "side"]
theorem x_in_open : FnScope Ns_in_open ["talk", "x", "segment"] (defScope s_in_open) := ⟨rfl, rfl, rfl, by decide +kernel, rfl, by decide +kernel, by decide +kernel⟩
abbrev s_taken : Stmt := topS 47
abbrev Ns_taken : List Str := ["talk", "x", "segment", "start", "end", "top", "wide", "heard", "shift", "fin", "window", "ack", "reached", "side", "other"]
theorem x_taken : FnScope Ns_taken ["talk", "x", "segment"] (defScope s_taken) := ⟨rfl, rfl, rfl, by decide +kernel, rfl, by decide +kernel, by decide +kernel⟩
abbrev s_state_of : Stmt := topS 48
abbrev Ns_state_of : List Str := ["side", "other"]
theorem x_state_of : FnScope Ns_state_of ["side", "other"] (defScope s_state_of) := ⟨rfl, rfl, rfl, by decide +kernel, rfl, by decide +kernel, by decide +kernel⟩
abbrev s_word_in_over : Stmt := topS 49
abbrev Ns_word_in_over : List Str := ["talk", "x", "segment"]
theorem x_word_in_over : FnScope Ns_word_in_over ["talk", "x", "segment"] (defScope s_word_in_over) := ⟨rfl, rfl, rfl, by decide +kernel, rfl, by decide +kernel, by decide +kernel⟩
abbrev s_law_state : Stmt := topS 51
abbrev Ns_law_state : List Str := ["script", "cells", "cell"]
theorem x_law_state : FnScope Ns_law_state ["script"] (defScope s_law_state) := ⟨rfl, rfl, rfl, by decide +kernel, rfl, by decide +kernel, by decide +kernel⟩
abbrev s_law_take : Stmt := topS 52
abbrev Ns_law_take : List Str := ["state", "most", "cells", "at", "cell", "mixed"]
theorem x_law_take : FnScope Ns_law_take ["state", "most"] (defScope s_law_take) := ⟨rfl, rfl, rfl, by decide +kernel, rfl, by decide +kernel, by decide +kernel⟩
abbrev s_law_pick : Stmt := topS 53
abbrev Ns_law_pick : List Str := ["state", "row"]
theorem x_law_pick : FnScope Ns_law_pick ["state", "row"] (defScope s_law_pick) := ⟨rfl, rfl, rfl, by decide +kernel, rfl, by decide +kernel, by decide +kernel⟩
abbrev s_law_same : Stmt := topS 54
abbrev Ns_law_same : List Str := ["told", "due", "key", "k"]
theorem x_law_same : FnScope Ns_law_same ["told", "due"] (defScope s_law_same) := ⟨rfl, rfl, rfl, by decide +kernel, rfl, by decide +kernel, by decide +kernel⟩
abbrev s_law_number : Stmt := topS 55
abbrev Ns_law_number : List Str := ["state", "low", "high", "kind", "span"]
theorem x_law_number : FnScope Ns_law_number ["state", "low", "high"] (defScope s_law_number) := ⟨rfl, rfl, rfl, by decide +kernel, rfl, by decide +kernel, by decide +kernel⟩
abbrev s_law_mod : Stmt := topS 56
abbrev Ns_law_mod : List Str := ["number"]
theorem x_law_mod : FnScope Ns_law_mod ["number"] (defScope s_law_mod) := ⟨rfl, rfl, rfl, by decide +kernel, rfl, by decide +kernel, by decide +kernel⟩
abbrev s_law_later : Stmt := topS 57
abbrev Ns_law_later : List Str := ["a", "b", "far"]
theorem x_law_later : FnScope Ns_law_later ["a", "b"] (defScope s_law_later) := ⟨rfl, rfl, rfl, by decide +kernel, rfl, by decide +kernel, by decide +kernel⟩
abbrev s_law_shift : Stmt := topS 58
abbrev Ns_law_shift : List Str := ["options", "k"]
theorem x_law_shift : FnScope Ns_law_shift ["options"] (defScope s_law_shift) := ⟨rfl, rfl, rfl, by decide +kernel, rfl, by decide +kernel, by decide +kernel⟩
abbrev s_law_form : Stmt := topS 59
abbrev Ns_law_form : List Str := ["segment", "flags"]
theorem x_law_form : FnScope Ns_law_form ["segment"] (defScope s_law_form) := ⟨rfl, rfl, rfl, by decide +kernel, rfl, by decide +kernel, by decide +kernel⟩
abbrev s_law_is_odd : Stmt := topS 60
abbrev Ns_law_is_odd : List Str := ["segment", "form", "known"]
theorem x_law_is_odd : FnScope Ns_law_is_odd ["segment"] (defScope s_law_is_odd) := ⟨rfl, rfl, rfl, by decide +kernel, rfl, by decide +kernel, by decide +kernel⟩
abbrev s_law_end : Stmt := topS 61
abbrev Ns_law_end : List Str := ["segment", "form"]
theorem x_law_end : FnScope Ns_law_end ["segment"] (defScope s_law_end) := ⟨rfl, rfl, rfl, by decide +kernel, rfl, by decide +kernel, by decide +kernel⟩
abbrev s_law_well : Stmt := topS 62
abbrev Ns_law_well : List Str := ["talk", "x", "segment", "own", "other", "end", "form", "low"]
theorem x_law_well : FnScope Ns_law_well ["talk", "x", "segment"] (defScope s_law_well) := ⟨rfl, rfl, rfl, by decide +kernel, rfl, by decide +kernel, by decide +kernel⟩
abbrev s_law_behind : Stmt := topS 63
abbrev Ns_law_behind : List Str := ["talk", "x", "segment", "own", "other", "end", "window", "k", "top", "state", "rows"]
theorem x_law_behind : FnScope Ns_law_behind ["talk", "x", "segment"] (defScope s_law_behind) := ⟨rfl, rfl, rfl, by decide +kernel, rfl, by decide +kernel, by decide +kernel⟩
abbrev s_law_asked : Stmt := topS 64
abbrev Ns_law_asked : List Str := ["talk", "x", "segment", "opener", "form", "seq", "ack", "window", "over", "one", "two", "answerer"]
theorem x_law_asked : FnScope Ns_law_asked ["talk", "x", "segment"] (defScope s_law_asked) := ⟨rfl, rfl, rfl, by decide +kernel, rfl, by decide +kernel, by decide +kernel⟩
abbrev s_law_track : Stmt := topS 65
abbrev Ns_law_track : List Str := ["talk", "x", "segment", "form", "seq", "ack", "known", "well", "hit"]
theorem x_law_track : FnScope Ns_law_track ["talk", "x", "segment"] (defScope s_law_track) := ⟨rfl, rfl, rfl, by decide +kernel, rfl, by decide +kernel, by decide +kernel⟩
abbrev s_law_options : Stmt := topS 66
abbrev Ns_law_options : List Str := ["state", "front", "row"]
theorem x_law_options : FnScope Ns_law_options ["state"] (defScope s_law_options) := ⟨rfl, rfl, rfl, by decide +kernel, rfl, by decide +kernel, by decide +kernel⟩
abbrev s_law_segment : Stmt := topS 67
abbrev Ns_law_segment : List Str := ["state", "seq", "ack", "flags", "size", "ports", "extra", "window", "first"]
theorem x_law_segment : FnScope Ns_law_segment ["state", "seq", "ack", "flags", "size"] (defScope s_law_segment) := ⟨rfl, rfl, rfl, by decide +kernel, rfl, by decide +kernel, by decide +kernel⟩
abbrev s_law_near_segment : Stmt := topS 68
abbrev Ns_law_near_segment : List Str := ["state", "talk", "x", "own", "other", "step", "seqs", "seq", "acks", "ack", "flags", "size"]
theorem x_law_near_segment : FnScope Ns_law_near_segment ["state", "talk", "x"] (defScope s_law_near_segment) := ⟨rfl, rfl, rfl, by decide +kernel, rfl, by decide +kernel, by decide +kernel⟩
abbrev s_law_good_segment : Stmt := topS 69
abbrev Ns_law_good_segment : List Str := ["state", "talk", "x", "own", "other", "size", "flags", "room"]
theorem x_law_good_segment : FnScope Ns_law_good_segment ["state", "talk", "x"] (defScope s_law_good_segment) := ⟨rfl, rfl, rfl, by decide +kernel, rfl, by decide +kernel, by decide +kernel⟩
abbrev s_law_start : Stmt := topS 70
abbrev Ns_law_start : List Str := ["state"]
theorem x_law_start : FnScope Ns_law_start ["state"] (defScope s_law_start) := ⟨rfl, rfl, rfl, by decide +kernel, rfl, by decide +kernel, by decide +kernel⟩
abbrev s_law_begun : Stmt := topS 71
abbrev Ns_law_begun : List Str := ["segment", "start", "end"]
theorem x_law_begun : FnScope Ns_law_begun ["segment"] (defScope s_law_begun) := ⟨rfl, rfl, rfl, by decide +kernel, rfl, by decide +kernel, by decide +kernel⟩
abbrev s_law_worked : Stmt := topS 72
abbrev Ns_law_worked : List Str := ["syn", "talk", "both", "answered", "last", "due"]
theorem x_law_worked : FnScope Ns_law_worked [] (defScope s_law_worked) := ⟨rfl, rfl, rfl, by decide +kernel, rfl, by decide +kernel, by decide +kernel⟩
abbrev s_law : Stmt := topS 73
abbrev Ns_law : List Str := ["script", "state", "syn", "talk", "turn", "x", "good", "segment", "kept", "due"]
theorem x_law : FnScope Ns_law ["script"] (defScope s_law) := ⟨rfl, rfl, rfl, by decide +kernel, rfl, by decide +kernel, by decide +kernel⟩
/-- what the top has written -/
structure Df (K : PySem.W.Frag) (mg : Str → Option Value) (x : Str) (st : Stmt) (ps : List Str) (a : Addr) (fd : FuncData) : Prop where
  F : Fun K x x st a fd
  b : Binds K fd ps []
  g : mg x = some (.ref a)
structure Tx (K : PySem.W.Frag) (mg : Str → Option Value) where
  ad_after : Addr
  fd_after : FuncData
  d_after : Df K mg "after" s_after ["number", "steps"] ad_after fd_after
  ad_between : Addr
  fd_between : FuncData
  d_between : Df K mg "between" s_between ["number", "first"] ad_between fd_between
  ad_later : Addr
  fd_later : FuncData
  d_later : Df K mg "later" s_later ["a", "b"] ad_later fd_later
  ad_later_one : Addr
  fd_later_one : FuncData
  d_later_one : Df K mg "later_one" s_later_one ["a", "b"] ad_later_one fd_later_one
  ad_lies : Addr
  fd_lies : FuncData
  d_lies : Df K mg "lies" s_lies ["number", "first", "last"] ad_lies fd_lies
  ad_shift_of : Addr
  fd_shift_of : FuncData
  d_shift_of : Df K mg "shift_of" s_shift_of ["options"] ad_shift_of fd_shift_of
  ad_length_at : Addr
  fd_length_at : FuncData
  d_length_at : Df K mg "_length_at" s_length_at ["options", "at"] ad_length_at fd_length_at
  ad_segment_end : Addr
  fd_segment_end : FuncData
  d_segment_end : Df K mg "segment_end" s_segment_end ["segment"] ad_segment_end fd_segment_end
  ad_begun : Addr
  fd_begun : FuncData
  d_begun : Df K mg "begun" s_begun ["segment"] ad_begun fd_begun
  ad_tracked : Addr
  fd_tracked : FuncData
  d_tracked : Df K mg "tracked" s_tracked ["talk", "x", "segment"] ad_tracked fd_tracked
  ad_form : Addr
  fd_form : FuncData
  d_form : Df K mg "_form" s_form ["segment"] ad_form fd_form
  ad_is_odd : Addr
  fd_is_odd : FuncData
  d_is_odd : Df K mg "_is_odd" s_is_odd ["segment"] ad_is_odd fd_is_odd
  ad_is_rst : Addr
  fd_is_rst : FuncData
  d_is_rst : Df K mg "_is_rst" s_is_rst ["segment"] ad_is_rst fd_is_rst
  ad_width : Addr
  fd_width : FuncData
  d_width : Df K mg "_width" s_width ["window"] ad_width fd_width
  ad_ended : Addr
  fd_ended : FuncData
  d_ended : Df K mg "_ended" s_ended ["talk"] ad_ended fd_ended
  ad_is_first_syn : Addr
  fd_is_first_syn : FuncData
  d_is_first_syn : Df K mg "_is_first_syn" s_is_first_syn ["talk", "x", "segment"] ad_is_first_syn fd_is_first_syn
  ad_in_asked : Addr
  fd_in_asked : FuncData
  d_in_asked : Df K mg "_in_asked" s_in_asked ["talk", "x", "segment"] ad_in_asked fd_in_asked
  ad_answered : Addr
  fd_answered : FuncData
  d_answered : Df K mg "_answered" s_answered ["opener", "segment"] ad_answered fd_answered
  ad_in_answered : Addr
  fd_in_answered : FuncData
  d_in_answered : Df K mg "_in_answered" s_in_answered ["talk", "x", "segment"] ad_in_answered fd_in_answered
  ad_is_syn_ack : Addr
  fd_is_syn_ack : FuncData
  d_is_syn_ack : Df K mg "_is_syn_ack" s_is_syn_ack ["talk", "x", "segment", "ack"] ad_is_syn_ack fd_is_syn_ack
  ad_lies_well : Addr
  fd_lies_well : FuncData
  d_lies_well : Df K mg "_lies_well" s_lies_well ["talk", "x", "segment"] ad_lies_well fd_lies_well
  ad_in_open : Addr
  fd_in_open : FuncData
  d_in_open : Df K mg "_in_open" s_in_open ["talk", "x", "segment"] ad_in_open fd_in_open
  ad_taken : Addr
  fd_taken : FuncData
  d_taken : Df K mg "_taken" s_taken ["talk", "x", "segment"] ad_taken fd_taken
  ad_state_of : Addr
  fd_state_of : FuncData
  d_state_of : Df K mg "_state_of" s_state_of ["side", "other"] ad_state_of fd_state_of
  ad_word_in_over : Addr
  fd_word_in_over : FuncData
  d_word_in_over : Df K mg "_word_in_over" s_word_in_over ["talk", "x", "segment"] ad_word_in_over fd_word_in_over
  ad_law_state : Addr
  fd_law_state : FuncData
  d_law_state : Df K mg "_law_state" s_law_state ["script"] ad_law_state fd_law_state
  ad_law_take : Addr
  fd_law_take : FuncData
  d_law_take : Df K mg "_law_take" s_law_take ["state", "most"] ad_law_take fd_law_take
  ad_law_pick : Addr
  fd_law_pick : FuncData
  d_law_pick : Df K mg "_law_pick" s_law_pick ["state", "row"] ad_law_pick fd_law_pick
  ad_law_same : Addr
  fd_law_same : FuncData
  d_law_same : Df K mg "_law_same" s_law_same ["told", "due"] ad_law_same fd_law_same
  ad_law_number : Addr
  fd_law_number : FuncData
  d_law_number : Df K mg "_law_number" s_law_number ["state", "low", "high"] ad_law_number fd_law_number
  ad_law_mod : Addr
  fd_law_mod : FuncData
  d_law_mod : Df K mg "_law_mod" s_law_mod ["number"] ad_law_mod fd_law_mod
  ad_law_later : Addr
  fd_law_later : FuncData
  d_law_later : Df K mg "_law_later" s_law_later ["a", "b"] ad_law_later fd_law_later
  ad_law_shift : Addr
  fd_law_shift : FuncData
  d_law_shift : Df K mg "_law_shift" s_law_shift ["options"] ad_law_shift fd_law_shift
  ad_law_form : Addr
  fd_law_form : FuncData
  d_law_form : Df K mg "_law_form" s_law_form ["segment"] ad_law_form fd_law_form
  ad_law_is_odd : Addr
  fd_law_is_odd : FuncData
  d_law_is_odd : Df K mg "_law_is_odd" s_law_is_odd ["segment"] ad_law_is_odd fd_law_is_odd
  ad_law_end : Addr
  fd_law_end : FuncData
  d_law_end : Df K mg "_law_end" s_law_end ["segment"] ad_law_end fd_law_end
  ad_law_well : Addr
  fd_law_well : FuncData
  d_law_well : Df K mg "_law_well" s_law_well ["talk", "x", "segment"] ad_law_well fd_law_well
  ad_law_behind : Addr
  fd_law_behind : FuncData
  d_law_behind : Df K mg "_law_behind" s_law_behind ["talk", "x", "segment"] ad_law_behind fd_law_behind
  ad_law_asked : Addr
  fd_law_asked : FuncData
  d_law_asked : Df K mg "_law_asked" s_law_asked ["talk", "x", "segment"] ad_law_asked fd_law_asked
  ad_law_track : Addr
  fd_law_track : FuncData
  d_law_track : Df K mg "_law_track" s_law_track ["talk", "x", "segment"] ad_law_track fd_law_track
  ad_law_options : Addr
  fd_law_options : FuncData
  d_law_options : Df K mg "_law_options" s_law_options ["state"] ad_law_options fd_law_options
  ad_law_segment : Addr
  fd_law_segment : FuncData
  d_law_segment : Df K mg "_law_segment" s_law_segment ["state", "seq", "ack", "flags", "size"] ad_law_segment fd_law_segment
  ad_law_near_segment : Addr
  fd_law_near_segment : FuncData
  d_law_near_segment : Df K mg "_law_near_segment" s_law_near_segment ["state", "talk", "x"] ad_law_near_segment fd_law_near_segment
  ad_law_good_segment : Addr
  fd_law_good_segment : FuncData
  d_law_good_segment : Df K mg "_law_good_segment" s_law_good_segment ["state", "talk", "x"] ad_law_good_segment fd_law_good_segment
  ad_law_start : Addr
  fd_law_start : FuncData
  d_law_start : Df K mg "_law_start" s_law_start ["state"] ad_law_start fd_law_start
  ad_law_begun : Addr
  fd_law_begun : FuncData
  d_law_begun : Df K mg "_law_begun" s_law_begun ["segment"] ad_law_begun fd_law_begun
  ad_law_worked : Addr
  fd_law_worked : FuncData
  d_law_worked : Df K mg "_law_worked" s_law_worked [] ad_law_worked fd_law_worked
  ad_law : Addr
  fd_law : FuncData
  d_law : Df K mg "law" s_law ["script"] ad_law fd_law
  b_len : mg "len" = none
  b_min : mg "min" = none
  b_max : mg "max" = none
  b_abs : mg "abs" = none
  b_int : mg "int" = none
  b_isinstance : mg "isinstance" = none
  b_dict : mg "dict" = none
  b_all : mg "all" = none
  b_bool : mg "bool" = none
  b_str : mg "str" = none
  b_tuple : mg "tuple" = none
  b_list : mg "list" = none
  b_range : mg "range" = none
  b_repr : mg "repr" = none
  t_AROUND : Tok
  c_AROUND : mg "AROUND" = some (Value.int 4294967296 t_AROUND)
  t_HALF : Tok
  c_HALF : mg "HALF" = some (Value.int 2147483648 t_HALF)
  t_SYN : Tok
  c_SYN : mg "SYN" = some (Value.int 2 t_SYN)
  t_SYN_ACK : Tok
  c_SYN_ACK : mg "SYN_ACK" = some (Value.int 18 t_SYN_ACK)
  t_ACK : Tok
  c_ACK : mg "ACK" = some (Value.int 16 t_ACK)
  t_FIN_ACK : Tok
  c_FIN_ACK : mg "FIN_ACK" = some (Value.int 17 t_FIN_ACK)
  t_RST : Tok
  c_RST : mg "RST" = some (Value.int 4 t_RST)
  t_RST_ACK : Tok
  c_RST_ACK : mg "RST_ACK" = some (Value.int 20 t_RST_ACK)
  t_START : Tok
  c_START : mg "START" = some (Value.int 0 t_START)
  t_END : Tok
  c_END : mg "END" = some (Value.int 1 t_END)
  t_TOP : Tok
  c_TOP : mg "TOP" = some (Value.int 2 t_TOP)
  t_WIDE : Tok
  c_WIDE : mg "WIDE" = some (Value.int 3 t_WIDE)
  t_HEARD : Tok
  c_HEARD : mg "HEARD" = some (Value.int 4 t_HEARD)
  t_SHIFT : Tok
  c_SHIFT : mg "SHIFT" = some (Value.int 5 t_SHIFT)
  t_FIN : Tok
  c_FIN : mg "FIN" = some (Value.int 6 t_FIN)
  t_SEQ : Tok
  c_SEQ : mg "SEQ" = some (Value.int 3 t_SEQ)
  t_ACKED : Tok
  c_ACKED : mg "ACKED" = some (Value.int 4 t_ACKED)
  t_FLAGS : Tok
  c_FLAGS : mg "FLAGS" = some (Value.int 5 t_FLAGS)
  t_WINDOW : Tok
  c_WINDOW : mg "WINDOW" = some (Value.int 6 t_WINDOW)
  t_OPTIONS : Tok
  c_OPTIONS : mg "OPTIONS" = some (Value.int 8 t_OPTIONS)
  t_DATA : Tok
  c_DATA : mg "DATA" = some (Value.int 9 t_DATA)
  t_BEHIND : Tok
  c_BEHIND : mg "BEHIND" = some (Value.int 1073741824 t_BEHIND)
section
variable {P : Program} {w : World} {K : PySem.W.Frag} {mg : Str → Option Value} {base : Heap}
theorem ixL0 {K : PySem.W.Frag} {H : Hp} {a : Addr} {xs : List V} {i : Int} {v : V} {Q : VK} (h : H a = some (.lst xs)) (hi : atI xs i = some v) (q : Q v H) : rIx K (.ref a) (.int i) H Q :=
  .inl ⟨a, xs, i, v, rfl, rfl, SqL.of h, hi, q⟩
theorem fits64 {m : Int} (h0 : 0 < m) (h : m < 2 ^ 64) : CDivW 0 m := wide_div (b := 64) h0 (by omega) (by decide) (by decide)
theorem ok0_law_take (T : Tx K mg) : FnOk P w K mg base CX0 1 T.ad_law_take T.fd_law_take ["state", "most"] spTake0 := by
  refine T.d_law_take.F.ok x_law_take (fun vs H Q E h => ?_) (fun cdv A outer s H vs Q E hr h => ?_)
  · obtain ⟨p, c, m, rfl, _⟩ := h
    rfl
  · obtain ⟨p, c, m, rfl, hL, hm, q⟩ := h
    have nd := x_law_take.nd
    have npc := hL.ne
    obtain ⟨k, ns, h1, h2, h3⟩ := id hL
    refine ⟨_, (pss_cons (ps_if (pt_cmpR op_lt (pv 1) pe_int (nomark _)) (pss_one (ps_ret pe_int)) pss_nil)
        (pss_cons (ps_set (i := 2) nd rfl (Or.inl rfl) (pe_ix ix_seq (pv 0) pe_int (fun _ _ => rfl)))
        (pss_cons (ps_set (i := 3) nd rfl (Or.inl rfl) (pe_op op_mod (pe_callTy call_int1 (by rfl) T.b_int (by decide +kernel) (pa_cons (pe_ix ix_seq (pv 0) pe_int (fun _ _ => rfl)) pa_nil)) (pe_callB call_len_seq (by rfl) T.b_len (by decide +kernel) (pa_cons (pv 2) pa_nil))))
        (pss_cons (ps_set (i := 4) nd rfl (Or.inl rfl) (pe_ix ix_seq (pv 2) (pv 3) (fun _ _ => rfl)))
        (pss_cons (ps_if (pt_cmpR op_ge (pv 4) pe_int (nomark _)) (pss_cons (ps_asg (pe_op op_fdivW (pv 4) (pv 1)) (pg_sub (pv 2) (pv 3) set_list))
        (pss_one (ps_ret (pe_op op_mod (pe_callTy call_int1 (by rfl) T.b_int (by decide +kernel) (pa_cons (pv 4) pa_nil)) (pv 1))))) pss_nil)
        (pss_cons (ps_asg (pe_op op_add (pe_ix ix_seq (pv 0) pe_int (fun _ _ => rfl)) pe_int) (pg_sub (pv 0) pe_int set_list))
        (pss_cons (ps_set (i := 5) nd rfl (Or.inl rfl) (pe_op op_mod (pe_callTy call_int1 (by rfl) T.b_int (by decide +kernel) (pa_cons (pe_op op_add (pe_op op_mul (pv 4) pe_int) (pe_op op_mul (pe_ix ix_seq (pv 0) pe_int (fun _ _ => rfl)) pe_int)) pa_nil)) pe_int))
        (pss_cons (ps_set (i := 5) nd rfl (Or.inl rfl) (pe_op op_mod (pe_callTy call_int1 (by rfl) T.b_int (by decide +kernel) (pa_cons (pe_op op_add (pe_op op_mul (pv 5) pe_int) (pe_op op_mul (pe_ix ix_seq (pv 0) pe_int (fun _ _ => rfl)) pe_int)) pa_nil)) pe_int))
        (pss_one (ps_ret (pe_op op_mod (pe_callTy call_int1 (by rfl) T.b_int (by decide +kernel) (pa_cons (pe_op op_fdiv (pv 5) pe_int) pa_nil)) (pv 1)))))))))))), ?_⟩
    refine ⟨_, rfl, _, _, rfl, rfl, _, rfl, ite2 (fun e => ?_) (fun e => ?_)⟩
    · exact q 0 H (by decide) (.inr (by decide)) hL (Keep.refl _ _)
    have e2 : ¬ m < 2 := of_decide_eq_false (Bool.not_eq_true _ ▸ e)
    have hm0 : 0 < m := by omega
    have cd : ∀ x : Int, CDivW x m := fun x => fits64 hm0 hm
    have hl0 : (ns.map V.int) ≠ [] := by
      cases ns with
      | nil => exact absurd rfl h3
      | cons _ _ => intro z; cases z
    obtain ⟨j, v, ej, hj, hv⟩ := at_mod hl0 k
    have hjn : j < ns.length := by rw [List.length_map] at hj; exact hj
    obtain ⟨x, hx, rfl⟩ : ∃ x, ns[j]? = some x ∧ v = V.int x := by
      rw [List.getElem?_map] at hv
      cases e : ns[j]? with
      | none => rw [e] at hv; cases hv
      | some x => rw [e] at hv; exact ⟨x, rfl, (Option.some.inj hv).symm⟩
    have hpos : (0 : Int) < ((ns.map V.int).length : Int) := by omega
    refine ⟨_, rfl, ixL0 h1 (atI_nat (j := 1) rfl) ?_⟩
    refine ⟨_, rfl, ixL0 h1 (atI_nat (j := 0) rfl) (.inl ⟨_, rfl, ?_⟩)⟩
    refine ⟨_, rfl, _, _, rfl, .inl (SqL.of h2), _, _, rfl, rfl, hpos, ?_⟩
    refine ⟨_, rfl, _, rfl, ixL0 h2 (at_of ej hv) ?_⟩
    refine ⟨_, rfl, _, _, rfl, rfl, _, rfl, ite2 (fun eb => ?_) (fun eb => ?_)⟩
    · refine ⟨_, rfl, _, rfl, _, _, rfl, rfl, cd _, _, rfl, _, rfl, _, _, _, j, rfl, rfl, h2, ?_, ?_⟩
      · rw [ej]
        unfold ixN
        rw [if_pos (by omega), if_pos (by omega)]
        exact congrArg some (by omega)
      · refine ⟨_, rfl, .inl ⟨_, rfl, _, rfl, _, _, rfl, rfl, hm0, ?_⟩⟩
        have r := emod_rng x (m := m) hm0
        refine q _ _ r.1 (.inl r.2) ⟨k, ns.set j (x / m), by rw [upd_ne npc]; exact h1, by rw [upd_same, List.map_set], ?_⟩ fun b o e hb => by
          rw [upd_ne (fun z => hb (by rw [z]; simp))]
          exact e
        intro z
        have zz := congrArg List.length z
        rw [List.length_set] at zz
        have : ns.length = 0 := zz
        omega
    · refine ⟨_, rfl, ixL0 h1 (atI_nat (j := 0) rfl) ⟨_, _, rfl, rfl, _, rfl, _, _, _, 0, rfl, rfl, h1, rfl, ?_⟩⟩
      have g1 : (upd H p (.lst ([V.int k, V.ref c].set 0 (.int (k + 1))))) p = some (.lst [V.int (k + 1), V.ref c]) := upd_same
      have hL' : LS (upd H p (.lst ([V.int k, V.ref c].set 0 (.int (k + 1))))) p c := ⟨k + 1, ns, g1, by rw [upd_ne npc.symm]; exact h2, h3⟩
      have hk : Keep [p, c] H (upd H p (.lst ([V.int k, V.ref c].set 0 (.int (k + 1))))) := fun b o e hb => by
        rw [upd_ne (fun z => hb (by rw [z]; simp))]
        exact e
      generalize upd H p (.lst ([V.int k, V.ref c].set 0 (.int (k + 1)))) = H1 at g1 hL' hk ⊢
      refine ⟨_, rfl, _, _, rfl, rfl, .inr ⟨by decide, by decide⟩, _, rfl, ixL0 g1 (atI_nat (j := 0) rfl) ⟨_, _, rfl, rfl, .inr ⟨by decide, by decide⟩, _, _, rfl, rfl, .inl ⟨_, rfl, _, _, rfl, rfl, (by show (0 : Int) < 2147483647; decide), ?_⟩⟩⟩
      refine ⟨_, rfl, _, _, rfl, rfl, .inr ⟨by decide, by decide⟩, _, rfl, ixL0 g1 (atI_nat (j := 0) rfl) ⟨_, _, rfl, rfl, .inr ⟨by decide, by decide⟩, _, _, rfl, rfl, .inl ⟨_, rfl, _, _, rfl, rfl, (by show (0 : Int) < 1000000007; decide), ?_⟩⟩⟩
      refine ⟨_, rfl, _, _, rfl, rfl, ⟨by decide, by decide⟩, .inl ⟨_, rfl, _, rfl, _, _, rfl, rfl, hm0, ?_⟩⟩
      have r := emod_rng ((((x * 48271 + (k + 1) * 69621) % 2147483647 * 16807 + (k + 1) * 7919) % 1000000007) / 7) (m := m) hm0
      exact q _ _ r.1 (.inl r.2) hL' hk
theorem ok_law_take (T : Tx K mg) : FnOk P w K mg base CX0 1 T.ad_law_take T.fd_law_take ["state", "most"] (spS K (F1 sTake0)) := (ok0_law_take T).imp take0_of
theorem ok_law_state (T : Tx K mg) : FnOk P w K mg base CX0 1 T.ad_law_state T.fd_law_state ["script"] (spState K) := by
  refine T.d_law_state.F.ok x_law_state (fun vs H Q E h => ?_) (fun cdv A outer s H vs Q E hr h => ?_)
  · obtain ⟨a, ns, rfl, _⟩ := h
    rfl
  · obtain ⟨a, ns, rfl, hS, hlen, q⟩ := h
    have nd := x_law_state.nd
    refine ⟨_, (pss_cons (ps_setLc (i := 1) (own := [("cell", 2)]) (g := (gName 2)) rfl nd rfl rfl (sw_true rfl rfl rfl (by decide +kernel)) (pi_list (pe_slice sl_list (pv 0) po_none (po_some pe_int))) (blkOk_by (own := [("cell", 2)]) (N := Ns_law_state) (sc := defScope s_law_state) (by decide +kernel)) (fun _ _ _ _ _ => (pg_name (i := 2) nd rfl (Or.inl rfl))) (fun _ _ _ _ _ => pts_nil) (fun _ _ _ _ _ => (pe_callB call_abs (by rfl) T.b_abs (by decide +kernel) (pa_cons (pv 2) pa_nil))))
        (pss_cons (ps_if (pt_cmpR op_eq (pe_callB call_len_seq (by rfl) T.b_len (by decide +kernel) (pa_cons (pv 1) pa_nil)) pe_int (nomark _)) (pss_one (ps_set (i := 1) nd rfl (Or.inl rfl) (pe_lst (pa_cons pe_int pa_nil)))) pss_nil)
        (pss_one (ps_ret (pe_lst (pa_cons pe_int (pa_cons (pv 1) pa_nil))))))), ?_⟩
    have hml : (ns.map V.int).length ≤ 63 := by rw [List.length_map]; exact hlen
    refine ⟨_, rfl, 63, rfl, a, _, rfl, hS, fun p np => ?_⟩
    rw [cut63 _ hml]
    have g0 : (upd H p (.lst (ns.map V.int))) p = some (.lst (ns.map V.int)) := upd_same
    have s0 : Same H (upd H p (.lst (ns.map V.int))) := same_upd np
    generalize upd H p (.lst (ns.map V.int)) = H0 at g0 s0 ⊢
    refine ⟨p, rfl, ⟨_, SqL.of g0⟩, fun L hD => lc_list (K := K) (a := p) (xs := ns.map V.int) (fun i H1 => Same H0 H1 ∧ H1 L = some (.lst (((ns.take i).map fun x => if x < 0 then -x else x).map V.int))) ⟨same_upd hD, upd_same⟩ (fun i H1 _ z => SqL.of (z.1 _ _ g0)) ?_ ?_⟩
    · rintro i x H1 hi ⟨s1, g1⟩
      obtain ⟨z, hz, rfl⟩ : ∃ z, ns[i]? = some z ∧ x = V.int z := by
        rw [List.getElem?_map] at hi
        cases e : ns[i]? with
        | none => rw [e] at hi; cases hi
        | some z => rw [e] at hi; exact ⟨z, rfl, (Option.some.inj hi).symm⟩
      have hil := (List.getElem?_eq_some_iff.mp hz).1
      refine ⟨rfl, ?_⟩
      refine ⟨_, rfl, z, rfl, _, g1, ?_, fun b o e => ?_, ?_⟩
      · rw [List.length_map, List.length_map, List.length_take]
        exact small1000 (by omega)
      · rw [upd_ne (ne_of_none e hD)]
        exact s1 _ _ e
      · rw [upd_same, List.take_add_one, hz]
        simp
    · rintro H1 ⟨s1, g1⟩
      rw [List.length_map, List.take_length] at g1
      have np2 : H L = none := s0.free hD
      refine ⟨_, rfl, L, _, rfl, .inl (SqL.of g1), rfl, _, rfl, ite2 (fun e => ?_) (fun e => ?_)⟩
      · refine ⟨by show 1 ≤ sizeLine; decide, fun c hc => ?_⟩
        refine ⟨_, rfl, by show 2 ≤ sizeLine; decide, fun r hr' => ?_⟩
        have s2 : Same H1 (upd H1 c (.lst [.int 0])) := same_upd hc
        have s3 : Same (upd H1 c (.lst [.int 0])) (upd (upd H1 c (.lst [.int 0])) r (.lst [.int 0, .ref c])) := same_upd hr'
        refine q r c _ ⟨0, [0], upd_same, s3 _ _ upd_same, by intro z; cases z⟩ (s0.trans (s1.trans (s2.trans s3))) ?_ ?_
        · exact s0.free (s1.free (s2.free hr'))
        · exact s0.free (s1.free hc)
      · refine ⟨_, rfl, by show 2 ≤ sizeLine; decide, fun r hr' => ?_⟩
        have s3 : Same H1 (upd H1 r (.lst [.int 0, .ref L])) := same_upd hr'
        refine q r L _ ⟨0, _, upd_same, s3 _ _ g1, ?_⟩ (s0.trans (s1.trans s3)) (s0.free (s1.free hr')) np2
        intro z
        refine e (decide_eq_true (congrArg V.int ?_))
        rw [List.length_map, z]
        rfl
end

section
variable {P : Program} {w : World} {K : PySem.W.Frag} {mg : Str → Option Value} {base : Heap}
theorem ok_same0 (T : Tx K mg) : FnOk P w K mg base CX0 1 T.ad_law_same T.fd_law_same ["told", "due"] (spSame K 0) := by
  refine T.d_law_same.F.ok x_law_same (fun vs H Q E h => ?_) (fun cdv A outer s H vs Q E hr h => ?_)
  · obtain ⟨x, y, rfl, _⟩ := h
    rfl
  · obtain ⟨x, y, rfl, ⟨rfl, hf⟩, q⟩ := h
    have nd := x_law_same.nd
    refine ⟨_, (pss_cons (ps_if (pt_cmpR op_isN (pv 1) pe_non (nomark _)) (pss_one (ps_ret (pe_cmpR op_isN (pv 0) pe_non (nomark _)))) pss_nil)
        (pss_cons (ps_if (pt_val (pe_callB call_isiT (by rfl) T.b_isinstance (by decide +kernel) (pa_cons (pv 1) (pa_cons (pe_tup (pa_cons (pe_bltn (v := .ty "bool") (by rfl) T.b_bool (by decide +kernel) rfl) (pa_cons (pe_bltn (v := .ty "str") (by rfl) T.b_str (by decide +kernel) rfl) pa_nil))) pa_nil)))) (pss_one (ps_ret (pe_and (pe_cmpR op_eq (pe_callB call_isi (by rfl) T.b_isinstance (by decide +kernel) (pa_cons (pv 0) (pa_cons (pe_bltn (v := .ty "bool") (by rfl) T.b_bool (by decide +kernel) rfl) pa_nil))) (pe_callB call_isi (by rfl) T.b_isinstance (by decide +kernel) (pa_cons (pv 1) (pa_cons (pe_bltn (v := .ty "bool") (by rfl) T.b_bool (by decide +kernel) rfl) pa_nil))) (nomark _)) (pe_and (pe_cmpR op_eq (pe_callB call_isi (by rfl) T.b_isinstance (by decide +kernel) (pa_cons (pv 0) (pa_cons (pe_bltn (v := .ty "str") (by rfl) T.b_str (by decide +kernel) rfl) pa_nil))) (pe_callB call_isi (by rfl) T.b_isinstance (by decide +kernel) (pa_cons (pv 1) (pa_cons (pe_bltn (v := .ty "str") (by rfl) T.b_str (by decide +kernel) rfl) pa_nil))) (nomark _)) (pe_one (pe_cmpR op_eq (pv 0) (pv 1) (nomark _))))))) pss_nil)
        (pss_cons (ps_if (pt_val (pe_callB call_isi (by rfl) T.b_isinstance (by decide +kernel) (pa_cons (pv 1) (pa_cons (pe_bltn (v := .ty "int") (by rfl) T.b_int (by decide +kernel) rfl) pa_nil)))) (pss_one (ps_ret (pe_and (pe_callB call_isi (by rfl) T.b_isinstance (by decide +kernel) (pa_cons (pv 0) (pa_cons (pe_bltn (v := .ty "int") (by rfl) T.b_int (by decide +kernel) rfl) pa_nil))) (pe_and (pe_not (pe_callB call_isi (by rfl) T.b_isinstance (by decide +kernel) (pa_cons (pv 0) (pa_cons (pe_bltn (v := .ty "bool") (by rfl) T.b_bool (by decide +kernel) rfl) pa_nil)))) (pe_one (pe_cmpR op_eq (pv 0) (pv 1) (nomark _))))))) pss_nil)
        pss_never))), ?_⟩
    cases x with
    | non => exact ⟨_, rfl, rfl, _, rfl, _, rfl, rfl, q H (Same.refl H)⟩
    | int i =>
      refine ⟨_, rfl, rfl, _, rfl, _, rfl, by show 2 ≤ sizeLine; decide, fun t ht => ?_⟩
      have s1 := same_upd (o := .tup [.ty "bool", .ty "str"]) ht
      refine ⟨_, t, _, _, _, _, rfl, upd_same, .cons (.ty _) (.cons (.ty _) .nil), .base (.int i), ka2 k_ib k_is, _, rfl, ?_⟩
      refine ⟨_, rfl, _, _, _, _, _, rfl, .ty _, .base (.int i), k_ii, _, rfl, ?_⟩
      refine ⟨_, rfl, _, _, _, _, _, rfl, .ty _, .base (.int i), k_ii, _, rfl, ?_⟩
      refine ⟨_, rfl, _, _, _, _, _, rfl, .ty _, .base (.int i), k_ib, _, rfl, _, rfl, ?_⟩
      refine ⟨_, rfl, _, rfl, rfl, ?_⟩
      rw [decide_eq_true rfl]
      exact q _ s1
    | bl i =>
      refine ⟨_, rfl, rfl, _, rfl, _, rfl, by show 2 ≤ sizeLine; decide, fun t ht => ?_⟩
      have s1 := same_upd (o := .tup [.ty "bool", .ty "str"]) ht
      refine ⟨_, t, _, _, _, _, rfl, upd_same, .cons (.ty _) (.cons (.ty _) .nil), .base (.bl i), ka2 k_bb k_bs, _, rfl, ?_⟩
      refine ⟨_, rfl, _, _, _, _, _, rfl, .ty _, .base (.bl i), k_bb, _, rfl, _, _, _, _, _, rfl, .ty _, .base (.bl i), k_bb, rfl, _, rfl, ite2 (fun _ => ?_) (fun e => absurd (decide_eq_true rfl) e)⟩
      refine ⟨_, rfl, _, _, _, _, _, rfl, .ty _, .base (.bl i), k_bs, _, rfl, _, _, _, _, _, rfl, .ty _, .base (.bl i), k_bs, rfl, _, rfl, ite2 (fun _ => ?_) (fun e => absurd (decide_eq_true rfl) e)⟩
      refine ⟨_, rfl, _, rfl, rfl, ?_⟩
      rw [decide_eq_true rfl]
      exact q _ s1
    | str i =>
      refine ⟨_, rfl, rfl, _, rfl, _, rfl, by show 2 ≤ sizeLine; decide, fun t ht => ?_⟩
      have s1 := same_upd (o := .tup [.ty "bool", .ty "str"]) ht
      refine ⟨_, t, _, _, _, _, rfl, upd_same, .cons (.ty _) (.cons (.ty _) .nil), .base (.str i), ka2 k_sb k_ss, _, rfl, ?_⟩
      refine ⟨_, rfl, _, _, _, _, _, rfl, .ty _, .base (.str i), k_sb, _, rfl, _, _, _, _, _, rfl, .ty _, .base (.str i), k_sb, rfl, _, rfl, ite2 (fun _ => ?_) (fun e => absurd (decide_eq_true rfl) e)⟩
      refine ⟨_, rfl, _, _, _, _, _, rfl, .ty _, .base (.str i), k_ss, _, rfl, _, _, _, _, _, rfl, .ty _, .base (.str i), k_ss, rfl, _, rfl, ite2 (fun _ => ?_) (fun e => absurd (decide_eq_true rfl) e)⟩
      refine ⟨_, rfl, _, rfl, rfl, ?_⟩
      rw [decide_eq_true rfl]
      exact q _ s1
    | _ => cases hf
theorem ok_same1 (T : Tx K mg) {m : Nat} (G : FnOk P w K mg base CX0 (m + 1) T.ad_law_same T.fd_law_same ["told", "due"] (spSame K m)) :
    FnOk P w K mg base CX0 (m + 2) T.ad_law_same T.fd_law_same ["told", "due"] (spSeq K m) := by
  refine T.d_law_same.F.ok x_law_same (fun vs H Q E h => ?_) (fun cdv A outer s H vs Q E hr h => ?_)
  · obtain ⟨x, y, xs, ys, rfl, _⟩ := h
    rfl
  · obtain ⟨a, b, xs, ys, rfl, hS, hl, hle, hi, q⟩ := h
    have nd := x_law_same.nd
    have hrS := hr
    refine ⟨_, (pss_cons (ps_if (pt_cmpR op_isN (pv 1) pe_non (nomark _)) (pss_one (ps_ret (pe_cmpR op_isN (pv 0) pe_non (nomark _)))) pss_nil)
        (pss_cons (ps_if (pt_val (pe_callB call_isiT (by rfl) T.b_isinstance (by decide +kernel) (pa_cons (pv 1) (pa_cons (pe_tup (pa_cons (pe_bltn (v := .ty "bool") (by rfl) T.b_bool (by decide +kernel) rfl) (pa_cons (pe_bltn (v := .ty "str") (by rfl) T.b_str (by decide +kernel) rfl) pa_nil))) pa_nil)))) (pss_one (ps_ret (pe_and (pe_cmpR op_eq (pe_callB call_isi (by rfl) T.b_isinstance (by decide +kernel) (pa_cons (pv 0) (pa_cons (pe_bltn (v := .ty "bool") (by rfl) T.b_bool (by decide +kernel) rfl) pa_nil))) (pe_callB call_isi (by rfl) T.b_isinstance (by decide +kernel) (pa_cons (pv 1) (pa_cons (pe_bltn (v := .ty "bool") (by rfl) T.b_bool (by decide +kernel) rfl) pa_nil))) (nomark _)) (pe_and (pe_cmpR op_eq (pe_callB call_isi (by rfl) T.b_isinstance (by decide +kernel) (pa_cons (pv 0) (pa_cons (pe_bltn (v := .ty "str") (by rfl) T.b_str (by decide +kernel) rfl) pa_nil))) (pe_callB call_isi (by rfl) T.b_isinstance (by decide +kernel) (pa_cons (pv 1) (pa_cons (pe_bltn (v := .ty "str") (by rfl) T.b_str (by decide +kernel) rfl) pa_nil))) (nomark _)) (pe_one (pe_cmpR op_eq (pv 0) (pv 1) (nomark _))))))) pss_nil)
        (pss_cons (ps_if (pt_val (pe_callB call_isi (by rfl) T.b_isinstance (by decide +kernel) (pa_cons (pv 1) (pa_cons (pe_bltn (v := .ty "int") (by rfl) T.b_int (by decide +kernel) rfl) pa_nil)))) (pss_one (ps_ret (pe_and (pe_callB call_isi (by rfl) T.b_isinstance (by decide +kernel) (pa_cons (pv 0) (pa_cons (pe_bltn (v := .ty "int") (by rfl) T.b_int (by decide +kernel) rfl) pa_nil))) (pe_and (pe_not (pe_callB call_isi (by rfl) T.b_isinstance (by decide +kernel) (pa_cons (pv 0) (pa_cons (pe_bltn (v := .ty "bool") (by rfl) T.b_bool (by decide +kernel) rfl) pa_nil)))) (pe_one (pe_cmpR op_eq (pv 0) (pv 1) (nomark _))))))) pss_nil)
        (pss_cons (ps_if (pt_val (pe_callB call_isi (by rfl) T.b_isinstance (by decide +kernel) (pa_cons (pv 1) (pa_cons (pe_bltn (v := .ty "dict") (by rfl) T.b_dict (by decide +kernel) rfl) pa_nil)))) pss_never pss_nil)
        (pss_cons (ps_if (PW.pt (pw_or (pt_cmpR op_ne (pe_callB call_isi (by rfl) T.b_isinstance (by decide +kernel) (pa_cons (pv 0) (pa_cons (pe_bltn (v := .ty "tuple") (by rfl) T.b_tuple (by decide +kernel) rfl) pa_nil))) (pe_callB call_isi (by rfl) T.b_isinstance (by decide +kernel) (pa_cons (pv 1) (pa_cons (pe_bltn (v := .ty "tuple") (by rfl) T.b_tuple (by decide +kernel) rfl) pa_nil))) (nomark _)) (pw_or (pt_not (pt_val (pe_callB call_isiT (by rfl) T.b_isinstance (by decide +kernel) (pa_cons (pv 0) (pa_cons (pe_tup (pa_cons (pe_bltn (v := .ty "tuple") (by rfl) T.b_tuple (by decide +kernel) rfl) (pa_cons (pe_bltn (v := .ty "list") (by rfl) T.b_list (by decide +kernel) rfl) pa_nil))) pa_nil))))) (pw_or1 (pt_cmpR op_ne (pe_callB call_len_seq (by rfl) T.b_len (by decide +kernel) (pa_cons (pv 0) pa_nil)) (pe_callB call_len_seq (by rfl) T.b_len (by decide +kernel) (pa_cons (pv 1) pa_nil)) (nomark _)))))) (pss_one (ps_ret pe_bl)) pss_nil)
        (pss_one (ps_ret (pe_callB (cr_all rfl) (by rfl) T.b_all (by decide +kernel) (pa_cons (pe_lc (own := [("k", 3)]) (g := (gName 3)) rfl nd (pi_range1 (by rfl) T.b_range (pa_cons (pe_callB call_len_seq (by rfl) T.b_len (by decide +kernel) (pa_cons (pv 1) pa_nil)) pa_nil)) (blkOk_by (own := [("k", 3)]) (N := Ns_law_same) (sc := defScope s_law_same) (by decide +kernel)) (fun _ _ _ _ _ => (pg_name (i := 3) nd rfl (Or.inl rfl))) (fun _ _ _ _ _ => pts_nil) (fun _ _ _ _ _ => (pe_call G hrS (by rfl) T.d_law_same.g T.d_law_same.F.kp T.d_law_same.b .nil pass0 (pa_cons (pe_ix (r := rIx K) ix_seq (pv 0) (pv 3) (fun _ _ => rfl)) (pa_cons (pe_ix (r := rIx K) ix_seq (pv 1) (pv 3) (fun _ _ => rfl)) pa_nil))))) pa_nil))))))))), ?_⟩
    have hb : ∃ tn, (∀ H1, Same H H1 → TyX K H1 (.ref b) (.type tn) ∧ TyX K H1 (.ref a) (.type tn)) ∧ kitB tn "bool" = some false ∧ kitB tn "str" = some false ∧ kitB tn "int" = some false ∧ kitB tn "dict" = some false ∧ ∃ ip, kitB tn "tuple" = some ip ∧ ∃ il, kitB tn "list" = some il ∧ (ip || il) = true := by
      rcases hS with ⟨h1, h2⟩ | ⟨h1, h2⟩
      · exact ⟨"list", fun H1 s1 => ⟨tyx_L (s1.seq h2), tyx_L (s1.seq h1)⟩, by decide +kernel, by decide +kernel, by decide +kernel, by decide +kernel, false, by decide +kernel, true, by decide +kernel, rfl⟩
      · exact ⟨"tuple", fun H1 s1 => ⟨tyx_T (sqT_same s1 h2), tyx_T (sqT_same s1 h1)⟩, by decide +kernel, by decide +kernel, by decide +kernel, by decide +kernel, true, by decide +kernel, false, by decide +kernel, rfl⟩
    obtain ⟨tn, hT, e1, e2, e3, e4, ip, e5, il, e6, e7⟩ := hb
    have ea : ∀ H1, Same H H1 → (SqL K H1 a xs ∨ SqT K H1 a xs) := fun H1 s1 => by
      rcases hS with ⟨h1, h2⟩ | ⟨h1, h2⟩
      · exact .inl (s1.seq h1)
      · exact .inr (sqT_same s1 h1)
    have eb : ∀ H1, Same H H1 → (SqL K H1 b ys ∨ SqT K H1 b ys) := fun H1 s1 => by
      rcases hS with ⟨h1, h2⟩ | ⟨h1, h2⟩
      · exact .inl (s1.seq h2)
      · exact .inr (sqT_same s1 h2)
    have ek : PySem.W.kitAny K (.type tn) [.type "tuple", .type "list"] = some true := e7 ▸ ka2 (kt _ _ e5) (kt _ _ e6)
    refine ⟨_, rfl, rfl, _, rfl, _, rfl, by show 2 ≤ sizeLine; decide, fun t ht => ?_⟩
    have s1 := same_upd (o := .tup [.ty "bool", .ty "str"]) ht
    refine ⟨_, t, _, _, _, _, rfl, upd_same, .cons (.ty _) (.cons (.ty _) .nil), (hT _ s1).1, ka2 (kt _ _ e1) (kt _ _ e2), _, rfl, ?_⟩
    refine ⟨_, rfl, _, _, _, _, _, rfl, .ty _, (hT _ s1).1, kt _ _ e3, _, rfl, ?_⟩
    refine ⟨_, rfl, _, _, _, _, _, rfl, .ty _, (hT _ s1).1, kt _ _ e4, _, rfl, ?_⟩
    refine ⟨_, rfl, _, _, _, _, _, rfl, .ty _, (hT _ s1).2, kt _ _ e5, _, rfl, _, _, _, _, _, rfl, .ty _, (hT _ s1).1, kt _ _ e5, rfl, _, rfl, iteNS rfl ?_⟩
    refine ⟨_, rfl, by show 2 ≤ sizeLine; decide, fun t2 ht2 => ?_⟩
    have s2 := s1.trans (same_upd (o := .tup [.ty "tuple", .ty "list"]) ht2)
    refine ⟨_, t2, _, _, _, _, rfl, upd_same, .cons (.ty _) (.cons (.ty _) .nil), (hT _ s2).2, ek, _, rfl, ?_⟩
    refine ⟨_, rfl, a, xs, rfl, ea _ s2, _, rfl, b, ys, rfl, eb _ s2, rfl, _, rfl, iteNS (congrArg V.int (congrArg Nat.cast hl)) ?_⟩
    generalize upd (upd H t (.tup [.ty "bool", .ty "str"])) t2 (.tup [.ty "tuple", .ty "list"]) = H2 at s2 ⊢
    refine ⟨_, rfl, b, ys, rfl, eb _ s2, _, rfl, by omega, by omega, fun D hD => ?_⟩
    refine lc_range (lo := 0) (n := (ys.length : Int).toNat) (fun i H1 => Same H2 H1 ∧ H1 D = some (.lst ((List.replicate i true).map V.bl))) ⟨same_upd hD, upd_same⟩ ?_ ?_
    · rintro i H1 hin ⟨s3, g3⟩
      have h23 := s2.trans s3
      have hix : i < xs.length := by omega
      have hiy : i < ys.length := by omega
      refine ⟨rfl, _, rfl, _, rfl, ix_sq (ea _ h23) (at_of (j := i) (by omega) (List.getElem?_eq_getElem hix)) ?_⟩
      refine ⟨_, rfl, _, rfl, ix_sq (eb _ h23) (at_of (j := i) (by omega) (List.getElem?_eq_getElem hiy)) ?_⟩
      refine ⟨_, _, rfl, (hi i _ _ (List.getElem?_eq_getElem hix) (List.getElem?_eq_getElem hiy)).same h23, fun H4 s4 => ⟨_, s4 _ _ g3, ?_, fun c o e => ?_, ?_⟩⟩
      · rw [List.length_map, List.length_replicate]
        exact Nat.lt_of_le_of_lt (m := 100000) (by omega) (by decide)
      · rw [upd_ne (ne_of_none e hD)]
        exact s4 _ _ (s3 _ _ e)
      · rw [upd_same, List.replicate_succ', List.map_append]
        rfl
    · rintro H1 ⟨s3, g3⟩
      refine ⟨D, _, rfl, SqL.of g3, ?_⟩
      have ht : (List.replicate (ys.length : Int).toNat true).all id = true := by
        rw [List.all_eq_true]
        intro z hz
        exact (List.mem_replicate.mp hz).2
      rw [ht]
      exact q H1 (s2.trans s3)
theorem ok_same (T : Tx K mg) : ∀ n : Nat, FnOk P w K mg base CX0 (n + 1) T.ad_law_same T.fd_law_same ["told", "due"] (spSame K n)
  | 0 => ok_same0 T
  | n + 1 => by
    have F0 : FnOk P w K mg base CX0 (n + 2) T.ad_law_same T.fd_law_same ["told", "due"] (spSame K 0) := (ok_same0 T).mono (by omega)
    have F1 := ok_same1 (P := P) (w := w) (base := base) T (ok_same T n)
    refine ⟨fun vs H Q E h => ?_, fun A outer s H args us vs Q E hr he hb hv hs => ?_⟩
    · obtain ⟨x, y, rfl, _⟩ := h
      rfl
    · obtain ⟨x, y, rfl, h | ⟨a, b, xs, ys, rfl, rfl, h⟩, q⟩ := hs
      · exact F0.run A outer s H args us _ Q E hr he hb hv ⟨x, y, rfl, h, q⟩
      · obtain ⟨h1, h2, h3, h4⟩ := h
        exact F1.run A outer s H args us _ Q E hr he hb hv ⟨a, b, xs, ys, rfl, h1, h2, h3, h4, q⟩
/-- the same data, twice -/
theorem ok_law_same (T : Tx K mg) : FnOk P w K mg base CX0 (5 + 1) T.ad_law_same T.fd_law_same ["told", "due"] (spD K (F2 (sSame 5))) := (ok_same T 5).imp same_of
end

section
variable {P : Program} {w : World} {K : PySem.W.Frag} {mg : Str → Option Value} {base : Heap}
theorem pick_run {ds : List D} {Q : D → Prop} (h : ds ≠ [] ∧ ds.length ≤ 100000 ∧ ∀ d ∈ ds, Q d) : ((ds.length : Int) < 2 ^ 64) ∧ ∀ r : Int, 0 ≤ r → (r < (ds.length : Int) ∨ r < 1) → match dix ds r with | some d => Q d | none => False := by
  have h0 : 0 < ds.length := List.length_pos_iff.mpr h.1
  exact ⟨by omega, fun r h0 h1 => dix_all h0 (by omega) fun d hd => h.2.2 d hd⟩
theorem ok_law_pick (T : Tx K mg) : FnOk P w K mg base CX0 2 T.ad_law_pick T.fd_law_pick ["state", "row"] (spS K (F1 sPick)) := by
  refine T.d_law_pick.F.ok x_law_pick (fun vs H Q E h => spS_len F1_len h) (fun cdv A outer s H vs Q E hr h => ?_)
  have nd := x_law_pick.nd
  refine ⟨_, (pss_one (ps_ret (pe_ix ix_seq (pv 1) (pe_call (ok_law_take T) hr (by rfl) T.d_law_take.g T.d_law_take.F.kp T.d_law_take.b .nil pass0 (pa_cons (pv 0) (pa_cons (pe_callB call_len_seq (by rfl) T.b_len (by decide +kernel) (pa_cons (pv 1) pa_nil)) pa_nil))) (fun _ _ => rfl)))), fn_state ((rs_ret (ro rv_ix (RfE.b (rn 1)) (RfE.b (re_callS (raC (re_cb ro_len (rbC (RfE.b (rn 1)) rbN)) raN)))))) h (by rw [spS_len F1_len h]; decide) (F1_in fun a0 Qd q => ?_)⟩
  cases a0 with
  | list ds => simp only [true_and, ↓q_sTake, ↓q_sTake0, ↓q_sPick, ↓q_sNumber, rng_1, rng_2, rng_3, rng_4, rng_6, ↓q_dKd, dix_0, dix_1, dix_2, dix_3, dix_4, dix_5, dix_6, dix_7, dix_8, dix_9, Bool.not_false, Bool.not_true, Bool.and_true, Bool.true_and, Bool.and_false, Bool.false_and, decide_eq_true_eq, Bool.not_eq_true', decide_eq_false_iff_not, Bool.false_eq_true, if_true, if_false, ↓q_F0, ↓q_F1, ↓q_F2, ↓q_F3, ↓q_F4, ↓q_F5, ↓q_F6, ↓q_dParO1, ↓q_dParO2, ↓q_dEnumT, ↓q_oRepr, ↓q_dUn, ↓q_oNeg, ↓q_dSeq, ↓q_dRet, ↓q_dRetN, ↓q_dIf, ↓q_dAsg, ↓q_dDrop, ↓q_dBreak, ↓q_dCont, ↓q_dNext, ↓q_dOwn, ↓q_dApp, ↓q_dSetIx, ↓q_dFrz, frz, ↓q_dPar, ↓q_dAug, ↓q_dFor, ↓q_dN, ↓q_dNB, ↓q_dC, ↓q_dOp, ↓q_oI, ↓q_oI0, ↓q_oB, ↓q_oEq, ↓q_oEqS, eqS, ↓q_oIsN, isNo, ↓q_oIx, ↓q_oIx_1, ↓q_oIxS, seqOf, ↓q_oCat, ↓q_oCatT, ↓q_oCatS, ↓q_oIn, ↓q_oInS, ↓q_dTb, ↓q_dAnd, ↓q_dOr, ↓q_dNot, ↓q_dYes, ↓q_dAndV, ↓q_dOrV, ↓q_dNotV, ↓q_dIfV, ↓q_dChain, ↓q_dNil, ↓q_dCons, ↓q_dL, ↓q_dTup, ↓q_dCB, ↓q_oAbs, ↓q_oI2, ↓q_oLen, ↓q_oLenS, ↓q_oInt, ↓q_oInt_1, ↓q_oSum, ↓q_oBs, ↓q_oTupOf, ↓q_dSeqOf, ↓q_dIsi, it_bool_none, it_bool_bool, it_bool_int, it_bool_str, it_bool_list, it_bool_tuple, it_bool_dict, it_int_none, it_int_bool, it_int_int, it_int_str, it_int_list, it_int_tuple, it_int_dict, it_str_none, it_str_bool, it_str_int, it_str_str, it_str_list, it_str_tuple, it_str_dict, it_list_none, it_list_bool, it_list_int, it_list_str, it_list_list, it_list_tuple, it_list_dict, it_tuple_none, it_tuple_bool, it_tuple_int, it_tuple_str, it_tuple_list, it_tuple_tuple, it_tuple_dict, it_dict_none, it_dict_bool, it_dict_int, it_dict_str, it_dict_list, it_dict_tuple, it_dict_dict, ↓q_dNoP, ↓q_dPart, ↓q_dSlT, ↓q_dSlL, ↓q_dSlS, ↓q_dCall, ↓q_dCallS, ↓q_dItL, ↓q_dItT, ↓q_dItS, ↓q_dR1, ↓q_dR2, ↓q_dZip, ↓q_dEnum, ↓q_gN, ↓q_gNi, ↓q_gCo, ↓q_gCo_1, ↓q_gT, ↓q_dLc, ↓q_dDc, ↓q_dK, ↓q_oLenD, ↓q_dCL, ↓q_oRep, ↓q_oRepT, ↓q_dSortSet, ↓q_dSort2, ↓q_sSame, ↓q_oStr, ↓q_oIntS, ↓q_oOrd, ↓q_oMulS, ↓q_dM0, ↓q_dM1, ↓q_sLower, ↓q_sUpper, ↓q_sStarts, ↓q_sEnds, ↓q_dSplit, ↓q_dJoin, ↓q_dFmt, ↓q_dJn, ↓q_dJc, ↓q_dFs, ↓q_dDg, ↓q_dDin, ↓q_dDgx, keyOf, Option.isSome_some, wipeE, eget, eset, List.set, ev0, List.map_cons, List.map_nil, List.cons_append, List.nil_append, List.replicate_succ, List.replicate_zero, noOwn, isOwn, List.all_cons, List.all_nil, List.length_cons, List.length_nil, Bool.true_eq_false, not_false_eq_true, not_true_eq_false]; exact pick_run q
  | tuple ds => simp only [true_and, ↓q_sTake, ↓q_sTake0, ↓q_sPick, ↓q_sNumber, rng_1, rng_2, rng_3, rng_4, rng_6, ↓q_dKd, dix_0, dix_1, dix_2, dix_3, dix_4, dix_5, dix_6, dix_7, dix_8, dix_9, Bool.not_false, Bool.not_true, Bool.and_true, Bool.true_and, Bool.and_false, Bool.false_and, decide_eq_true_eq, Bool.not_eq_true', decide_eq_false_iff_not, Bool.false_eq_true, if_true, if_false, ↓q_F0, ↓q_F1, ↓q_F2, ↓q_F3, ↓q_F4, ↓q_F5, ↓q_F6, ↓q_dParO1, ↓q_dParO2, ↓q_dEnumT, ↓q_oRepr, ↓q_dUn, ↓q_oNeg, ↓q_dSeq, ↓q_dRet, ↓q_dRetN, ↓q_dIf, ↓q_dAsg, ↓q_dDrop, ↓q_dBreak, ↓q_dCont, ↓q_dNext, ↓q_dOwn, ↓q_dApp, ↓q_dSetIx, ↓q_dFrz, frz, ↓q_dPar, ↓q_dAug, ↓q_dFor, ↓q_dN, ↓q_dNB, ↓q_dC, ↓q_dOp, ↓q_oI, ↓q_oI0, ↓q_oB, ↓q_oEq, ↓q_oEqS, eqS, ↓q_oIsN, isNo, ↓q_oIx, ↓q_oIx_1, ↓q_oIxS, seqOf, ↓q_oCat, ↓q_oCatT, ↓q_oCatS, ↓q_oIn, ↓q_oInS, ↓q_dTb, ↓q_dAnd, ↓q_dOr, ↓q_dNot, ↓q_dYes, ↓q_dAndV, ↓q_dOrV, ↓q_dNotV, ↓q_dIfV, ↓q_dChain, ↓q_dNil, ↓q_dCons, ↓q_dL, ↓q_dTup, ↓q_dCB, ↓q_oAbs, ↓q_oI2, ↓q_oLen, ↓q_oLenS, ↓q_oInt, ↓q_oInt_1, ↓q_oSum, ↓q_oBs, ↓q_oTupOf, ↓q_dSeqOf, ↓q_dIsi, it_bool_none, it_bool_bool, it_bool_int, it_bool_str, it_bool_list, it_bool_tuple, it_bool_dict, it_int_none, it_int_bool, it_int_int, it_int_str, it_int_list, it_int_tuple, it_int_dict, it_str_none, it_str_bool, it_str_int, it_str_str, it_str_list, it_str_tuple, it_str_dict, it_list_none, it_list_bool, it_list_int, it_list_str, it_list_list, it_list_tuple, it_list_dict, it_tuple_none, it_tuple_bool, it_tuple_int, it_tuple_str, it_tuple_list, it_tuple_tuple, it_tuple_dict, it_dict_none, it_dict_bool, it_dict_int, it_dict_str, it_dict_list, it_dict_tuple, it_dict_dict, ↓q_dNoP, ↓q_dPart, ↓q_dSlT, ↓q_dSlL, ↓q_dSlS, ↓q_dCall, ↓q_dCallS, ↓q_dItL, ↓q_dItT, ↓q_dItS, ↓q_dR1, ↓q_dR2, ↓q_dZip, ↓q_dEnum, ↓q_gN, ↓q_gNi, ↓q_gCo, ↓q_gCo_1, ↓q_gT, ↓q_dLc, ↓q_dDc, ↓q_dK, ↓q_oLenD, ↓q_dCL, ↓q_oRep, ↓q_oRepT, ↓q_dSortSet, ↓q_dSort2, ↓q_sSame, ↓q_oStr, ↓q_oIntS, ↓q_oOrd, ↓q_oMulS, ↓q_dM0, ↓q_dM1, ↓q_sLower, ↓q_sUpper, ↓q_sStarts, ↓q_sEnds, ↓q_dSplit, ↓q_dJoin, ↓q_dFmt, ↓q_dJn, ↓q_dJc, ↓q_dFs, ↓q_dDg, ↓q_dDin, ↓q_dDgx, keyOf, Option.isSome_some, wipeE, eget, eset, List.set, ev0, List.map_cons, List.map_nil, List.cons_append, List.nil_append, List.replicate_succ, List.replicate_zero, noOwn, isOwn, List.all_cons, List.all_nil, List.length_cons, List.length_nil, Bool.true_eq_false, not_false_eq_true, not_true_eq_false]; exact pick_run q
  | _ => exact q.elim
theorem ok_law_number (T : Tx K mg) : FnOk P w K mg base CX0 2 T.ad_law_number T.fd_law_number ["state", "low", "high"] (spS K (F2 sNumber)) := by
  refine T.d_law_number.F.ok x_law_number (fun vs H Q E h => spS_len F2_len h) (fun cdv A outer s H vs Q E hr h => ?_)
  have nd := x_law_number.nd
  refine ⟨_, (pss_cons (ps_set (i := 3) nd rfl (Or.inl rfl) (pe_call (ok_law_take T) hr (by rfl) T.d_law_take.g T.d_law_take.F.kp T.d_law_take.b .nil pass0 (pa_cons (pv 0) (pa_cons pe_int pa_nil))))
        (pss_cons (ps_if (pt_cmpR op_eq (pv 3) pe_int (nomark _)) (pss_one (ps_ret (pv 1))) pss_nil)
        (pss_cons (ps_if (pt_cmpR op_eq (pv 3) pe_int (nomark _)) (pss_one (ps_ret (pv 2))) pss_nil)
        (pss_cons (ps_if (pt_cmpR op_eq (pv 3) pe_int (nomark _)) (pss_one (ps_ret (pe_callB (call_min2 rfl) (by rfl) T.b_min (by decide +kernel) (pa_cons (pv 2) (pa_cons (pe_op op_add (pe_op op_add (pv 1) pe_int) (pe_call (ok_law_take T) hr (by rfl) T.d_law_take.g T.d_law_take.F.kp T.d_law_take.b .nil pass0 (pa_cons (pv 0) (pa_cons pe_int pa_nil)))) pa_nil))))) pss_nil)
        (pss_cons (ps_if (pt_cmpR op_eq (pv 3) pe_int (nomark _)) (pss_one (ps_ret (pe_callB (call_max2 rfl) (by rfl) T.b_max (by decide +kernel) (pa_cons (pv 1) (pa_cons (pe_op op_sub (pe_op op_sub (pv 2) pe_int) (pe_call (ok_law_take T) hr (by rfl) T.d_law_take.g T.d_law_take.F.kp T.d_law_take.b .nil pass0 (pa_cons (pv 0) (pa_cons pe_int pa_nil)))) pa_nil))))) pss_nil)
        (pss_cons (ps_set (i := 4) nd rfl (Or.inl rfl) (pe_op op_add (pe_op op_sub (pv 2) (pv 1)) pe_int))
        (pss_one (ps_ret (pe_op op_add (pv 1) (pe_op op_mod (pe_callTy call_int1 (by rfl) T.b_int (by decide +kernel) (pa_cons (pe_op op_add (pe_op op_mul (pe_call (ok_law_take T) hr (by rfl) T.d_law_take.g T.d_law_take.F.kp T.d_law_take.b .nil pass0 (pa_cons (pv 0) (pa_cons pe_int pa_nil))) pe_int) (pe_call (ok_law_take T) hr (by rfl) T.d_law_take.g T.d_law_take.F.kp T.d_law_take.b .nil pass0 (pa_cons (pv 0) (pa_cons pe_int pa_nil)))) pa_nil)) (pv 4))))))))))), fn_state ((rs_seq (rs_asg (re_callS (raC (rc_int _) raN)) (rg_name 3))
        (rs_seq (rs_if (rt_test (ro rv_eq (RfE.b (rn 3)) (RfE.b (rc_int _)))) (rs_ret (rn 1)) rs_next)
        (rs_seq (rs_if (rt_test (ro rv_eq (RfE.b (rn 3)) (RfE.b (rc_int _)))) (rs_ret (rn 2)) rs_next)
        (rs_seq (rs_if (rt_test (ro rv_eq (RfE.b (rn 3)) (RfE.b (rc_int _)))) (rs_ret (re_cb ro_min (rbC (RfE.b (rn 2)) (rbC (RfE.b (ro rv_add (RfE.b (ro rv_add (RfE.b (rn 1)) (RfE.b (rc_int _)))) (RfE.b (re_callS (raC (rc_int _) raN))))) rbN)))) rs_next)
        (rs_seq (rs_if (rt_test (ro rv_eq (RfE.b (rn 3)) (RfE.b (rc_int _)))) (rs_ret (re_cb ro_max (rbC (RfE.b (rn 1)) (rbC (RfE.b (ro rv_sub (RfE.b (ro rv_sub (RfE.b (rn 2)) (RfE.b (rc_int _)))) (RfE.b (re_callS (raC (rc_int _) raN))))) rbN)))) rs_next)
        (rs_seq (rs_asg (ro rv_add (RfE.b (ro rv_sub (RfE.b (rn 2)) (RfE.b (rn 1)))) (RfE.b (rc_int _))) (rg_name 4))
        (rs_ret (ro rv_add (RfE.b (rn 1)) (RfE.b (ro rv_mod (RfE.b (re_cb ro_int (rbC (RfE.b (ro rv_add (RfE.b (ro rv_mul (RfE.b (re_callS (raC (rc_int _) raN))) (RfE.b (rc_int _)))) (RfE.b (re_callS (raC (rc_int _) raN))))) rbN))) (RfE.b (rn 4))))))))))))) h (by rw [spS_len F2_len h]; decide) (F2_in fun a0 a1 Qd q => ?_)⟩
  cases a0 with
  | int lo =>
    cases a1 with
    | int hi =>
      obtain ⟨hle, hb, q⟩ := q
      simp only [true_and, ↓q_sTake, ↓q_sTake0, ↓q_sPick, ↓q_sNumber, rng_1, rng_2, rng_3, rng_4, rng_6, ↓q_dKd, dix_0, dix_1, dix_2, dix_3, dix_4, dix_5, dix_6, dix_7, dix_8, dix_9, Bool.not_false, Bool.not_true, Bool.and_true, Bool.true_and, Bool.and_false, Bool.false_and, decide_eq_true_eq, Bool.not_eq_true', decide_eq_false_iff_not, Bool.false_eq_true, if_true, if_false, ↓q_F0, ↓q_F1, ↓q_F2, ↓q_F3, ↓q_F4, ↓q_F5, ↓q_F6, ↓q_dParO1, ↓q_dParO2, ↓q_dEnumT, ↓q_oRepr, ↓q_dUn, ↓q_oNeg, ↓q_dSeq, ↓q_dRet, ↓q_dRetN, ↓q_dIf, ↓q_dAsg, ↓q_dDrop, ↓q_dBreak, ↓q_dCont, ↓q_dNext, ↓q_dOwn, ↓q_dApp, ↓q_dSetIx, ↓q_dFrz, frz, ↓q_dPar, ↓q_dAug, ↓q_dFor, ↓q_dN, ↓q_dNB, ↓q_dC, ↓q_dOp, ↓q_oI, ↓q_oI0, ↓q_oB, ↓q_oEq, ↓q_oEqS, eqS, ↓q_oIsN, isNo, ↓q_oIx, ↓q_oIx_1, ↓q_oIxS, seqOf, ↓q_oCat, ↓q_oCatT, ↓q_oCatS, ↓q_oIn, ↓q_oInS, ↓q_dTb, ↓q_dAnd, ↓q_dOr, ↓q_dNot, ↓q_dYes, ↓q_dAndV, ↓q_dOrV, ↓q_dNotV, ↓q_dIfV, ↓q_dChain, ↓q_dNil, ↓q_dCons, ↓q_dL, ↓q_dTup, ↓q_dCB, ↓q_oAbs, ↓q_oI2, ↓q_oLen, ↓q_oLenS, ↓q_oInt, ↓q_oInt_1, ↓q_oSum, ↓q_oBs, ↓q_oTupOf, ↓q_dSeqOf, ↓q_dIsi, it_bool_none, it_bool_bool, it_bool_int, it_bool_str, it_bool_list, it_bool_tuple, it_bool_dict, it_int_none, it_int_bool, it_int_int, it_int_str, it_int_list, it_int_tuple, it_int_dict, it_str_none, it_str_bool, it_str_int, it_str_str, it_str_list, it_str_tuple, it_str_dict, it_list_none, it_list_bool, it_list_int, it_list_str, it_list_list, it_list_tuple, it_list_dict, it_tuple_none, it_tuple_bool, it_tuple_int, it_tuple_str, it_tuple_list, it_tuple_tuple, it_tuple_dict, it_dict_none, it_dict_bool, it_dict_int, it_dict_str, it_dict_list, it_dict_tuple, it_dict_dict, ↓q_dNoP, ↓q_dPart, ↓q_dSlT, ↓q_dSlL, ↓q_dSlS, ↓q_dCall, ↓q_dCallS, ↓q_dItL, ↓q_dItT, ↓q_dItS, ↓q_dR1, ↓q_dR2, ↓q_dZip, ↓q_dEnum, ↓q_gN, ↓q_gNi, ↓q_gCo, ↓q_gCo_1, ↓q_gT, ↓q_dLc, ↓q_dDc, ↓q_dK, ↓q_oLenD, ↓q_dCL, ↓q_oRep, ↓q_oRepT, ↓q_dSortSet, ↓q_dSort2, ↓q_sSame, ↓q_oStr, ↓q_oIntS, ↓q_oOrd, ↓q_oMulS, ↓q_dM0, ↓q_dM1, ↓q_sLower, ↓q_sUpper, ↓q_sStarts, ↓q_sEnds, ↓q_dSplit, ↓q_dJoin, ↓q_dFmt, ↓q_dJn, ↓q_dJc, ↓q_dFs, ↓q_dDg, ↓q_dDin, ↓q_dDgx, keyOf, Option.isSome_some, wipeE, eget, eset, List.set, ev0, List.map_cons, List.map_nil, List.cons_append, List.nil_append, List.replicate_succ, List.replicate_zero, noOwn, isOwn, List.all_cons, List.all_nil, List.length_cons, List.length_nil, Bool.true_eq_false, not_false_eq_true, not_true_eq_false]
      refine ⟨by decide, fun kd _ _ => ?_⟩
      split
      · exact q lo (by omega) hle
      split
      · exact q hi hle (by omega)
      split
      · refine ⟨by decide, fun r h0 h1 => q _ ?_ ?_⟩ <;> split <;> omega
      split
      · refine ⟨by decide, fun r h0 h1 => q _ ?_ ?_⟩ <;> split <;> omega
      · refine ⟨by decide, fun r h0 h1 => ⟨.inl ⟨by omega, by omega⟩, by decide, fun r1 _ _ => ⟨by omega, ?_⟩⟩⟩
        have e := emod_rng (r * 65536 + r1) (m := hi - lo + 1) (by omega)
        exact q _ (by omega) (by omega)
    | _ => exact q.elim
  | _ => exact q.elim
end

abbrev Side := (Int × Int × Int × Int × Int × (Option Int) × (Option Int))
abbrev eSide : Side → D := (eT7 PyData.int PyData.int PyData.int PyData.int PyData.int (eO PyData.int) (eO PyData.int))
abbrev Talk := (Str × Side × (Option Side))
abbrev eTalk : Talk → D := (eT3 PyData.str eSide (eO eSide))
abbrev Seg := (Str × Int × Int × Int × Int × Int × Int × Int × (List Int) × (List Int))
abbrev eSeg : Seg → D := (eT10 PyData.str PyData.int PyData.int PyData.int PyData.int PyData.int PyData.int PyData.int (eU PyData.int) (eU PyData.int))
def y_after (number_1 : Int) (steps_1 : Int) (Q : Int → Prop) : Prop := 0 < (4294967296 : Int) ∧ (Q ((number_1 + steps_1) % (4294967296 : Int)))
def y_between (number_1 : Int) (first_1 : Int) (Q : Int → Prop) : Prop := 0 < (4294967296 : Int) ∧ (Q ((number_1 - first_1) % (4294967296 : Int)))
def y_later (a_1 : Int) (b_1 : Int) (Q : Bool → Prop) : Prop := y_between a_1 b_1 fun v_3 => Q (decide ((0 : Int) < v_3) && decide (v_3 < (2147483648 : Int)))
def y_later_one (a_1 : Int) (b_1 : Int) (Q : Int → Prop) : Prop := y_later a_1 b_1 fun v_1 => Q (if v_1 = true then a_1 else b_1)
def y_lies (number_1 : Int) (first_1 : Int) (last_1 : Int) (Q : Bool → Prop) : Prop := y_between number_1 first_1 fun v_5 => y_between last_1 first_1 fun v_6 => Q (decide (v_5 ≤ v_6))
def y__length_at (options_1 : (List Int)) (at_1 : Int) (Q : (Option Int) → Prop) : Prop := ixT options_1 at_1 fun v_1 => if (decide (v_1 = (1 : Int))) = true then (Q (some (1 : Int))) else (if (decide ((at_1 + (1 : Int)) = (options_1.length : Int))) = true then (Q none) else (ixT options_1 (at_1 + (1 : Int)) fun length_1 => if ((decide (length_1 < (2 : Int))) || (decide ((options_1.length : Int) < (at_1 + length_1)))) = true then (Q none) else (Q (some length_1))))
def y_shift_of_w1_b (options_1 : (List Int)) (Q : (Option Int) → Prop) (kn : Int → Prop) (W : Nat → Int → Prop) (m : Nat) (at_3 : Int) : Prop := andT (decide (at_3 < (options_1.length : Int))) (fun G => ixT options_1 at_3 fun v_1 => G (!decide (v_1 = (0 : Int)))) fun v_2 => if v_2 = true then (y__length_at options_1 at_3 fun length_1 => if (length_1.isNone) = true then (Q none) else (ixT options_1 at_3 fun v_4 => if ((decide (v_4 = (3 : Int))) && (decide (length_1 = some (3 : Int)))) = true then (ixT options_1 (at_3 + (2 : Int)) fun v_7 => Q (some (if (14 : Int) < v_7 then (14 : Int) else v_7))) else (getT length_1 fun c_1 => letT ((at_3 + c_1) : Int) fun at_4 => (fun (at_3 : Int) => ∃ m', m' < m ∧ W m' at_3) at_4))) else (kn at_3)
def y_shift_of_w1 (options_1 : (List Int)) (Q : (Option Int) → Prop) (kn : Int → Prop) (at_3 : Int) : Prop := ∃ W : Nat → Int → Prop, (∃ m, W m at_3) ∧ ∀ m at_3, W m at_3 → y_shift_of_w1_b options_1 Q kn W m at_3
def y_shift_of (options_1 : (List Int)) (Q : (Option Int) → Prop) : Prop := letT ((0 : Int) : Int) fun at_1 => y_shift_of_w1 options_1 Q (fun (at_5 : Int) => Q none) at_1
def y_segment_end (segment_1 : Seg) (Q : Int → Prop) : Prop := letT (segment_1.2.2.2.2.2.1 : Int) fun flags_1 => letT (((if (!decide ((Builtin.bitAnd flags_1 (2 : Int)) = 0)) = true then (1 : Int) else (0 : Int)) + (Builtin.bitAnd flags_1 (1 : Int))) : Int) fun marks_1 => y_after segment_1.2.2.2.1 ((segment_1.2.2.2.2.2.2.2.2.2.length : Int) + marks_1) fun v_3 => Q v_3
def y__width (window_1 : Int) (Q : Int → Prop) : Prop := Q (if (1 : Int) > window_1 then (1 : Int) else window_1)
def y_begun (segment_1 : Seg) (Q : Talk → Prop) : Prop := letT (segment_1.2.2.2.1 : Int) fun start_1 => y__width segment_1.2.2.2.2.2.2.1 fun wide_1 => y_after start_1 (1 : Int) fun end_1 => y_shift_of segment_1.2.2.2.2.2.2.2.2.1 fun v_3 => Q ((Str.ofString "asked"), (start_1, end_1, end_1, wide_1, start_1, v_3, none), none)
def y__form (segment_1 : Seg) (Q : Int → Prop) : Prop := Q (Builtin.bitAnd segment_1.2.2.2.2.2.1 (23 : Int))
def y__is_odd (segment_1 : Seg) (Q : Bool → Prop) : Prop := y__form segment_1 fun form_1 => if (decide (form_1 ∈ [(((2 : Int), (18 : Int))).1, (((2 : Int), (18 : Int))).2])) = true then (Q (decide ((0 : Int) < (segment_1.2.2.2.2.2.2.2.2.2.length : Int)))) else (Q (!decide (form_1 ∈ [(((16 : Int), (17 : Int), (4 : Int), (20 : Int))).1, (((16 : Int), (17 : Int), (4 : Int), (20 : Int))).2.1, (((16 : Int), (17 : Int), (4 : Int), (20 : Int))).2.2.1, (((16 : Int), (17 : Int), (4 : Int), (20 : Int))).2.2.2])))
def y__is_first_syn (talk_1 : Talk) (x_1 : Int) (segment_1 : Seg) (Q : Bool → Prop) : Prop := andT (decide (x_1 = (0 : Int))) (fun G => y__form segment_1 fun v_5 => G ((decide (v_5 = (2 : Int))) && (decide (segment_1.2.2.2.1 = talk_1.2.1.1)))) fun v_6 => Q v_6
def y__is_syn_ack (talk_1 : Talk) (x_1 : Int) (segment_1 : Seg) (ack_1 : Int) (Q : Bool → Prop) : Prop := andT (decide (x_1 = (1 : Int))) (fun G => y__form segment_1 fun v_9 => andT (decide (v_9 = (18 : Int))) (fun G => getT talk_1.2.2 fun c_3 => G ((decide (segment_1.2.2.2.1 = c_3.1)) && (decide (segment_1.2.2.2.2.1 = ack_1)))) fun v_11 => G v_11) fun v_12 => Q v_12
def y__lies_well (talk_1 : Talk) (x_1 : Int) (segment_1 : Seg) (Q : Bool → Prop) : Prop := ixT [(PyData.str talk_1.1), (eSide talk_1.2.1), ((eO eSide) talk_1.2.2)] ((1 : Int) + x_1) fun v_1 => castT eSide v_1 fun side_1 => ixT [(PyData.str talk_1.1), (eSide talk_1.2.1), ((eO eSide) talk_1.2.2)] ((2 : Int) - x_1) fun v_2 => castT eSide v_2 fun other_1 => letT (segment_1.2.2.2.2.2.1 : Int) fun flags_1 => y_segment_end segment_1 fun end_1 => y_after side_1.2.1 (-other_1.2.2.2.1) fun v_4 => y_lies end_1 v_4 side_1.2.2.1 fun v_5 => if (!v_5) = true then (Q false) else (andT (!decide ((Builtin.bitAnd flags_1 (16 : Int)) = 0)) (fun G => y_between other_1.2.1 segment_1.2.2.2.2.1 fun v_6 => G (decide ((1073741824 : Int) < v_6))) fun v_7 => if v_7 = true then (Q false) else (if (side_1.2.2.2.2.2.2.isNone) = true then (andT (!decide ((Builtin.bitAnd flags_1 (1 : Int)) = 0)) (fun G => y_later side_1.2.1 end_1 fun v_15 => G v_15) fun v_16 => Q (!v_16)) else (getT side_1.2.2.2.2.2.2 fun c_8 => y_later end_1 c_8 fun v_22 => Q ((!v_22) && ((decide ((Builtin.bitAnd flags_1 (1 : Int)) = (0 : Int))) || (decide (some end_1 = side_1.2.2.2.2.2.2)))))))
def y__is_rst (segment_1 : Seg) (Q : Bool → Prop) : Prop := y__form segment_1 fun v_3 => Q (decide (v_3 ∈ [(((4 : Int), (20 : Int))).1, (((4 : Int), (20 : Int))).2]))
def y__ended (talk_1 : Talk) (Q : (Str × Talk) → Prop) : Prop := Q ((Str.ofString "fits"), ((Str.ofString "over"), talk_1.2.1, talk_1.2.2))
def y__state_of (side_1 : Side) (other_1 : Side) (Q : Str → Prop) : Prop := if ((side_1.2.2.2.2.2.2.isNone) && (other_1.2.2.2.2.2.2.isNone)) = true then (Q (Str.ofString "open")) else (if ((decide (side_1.2.2.2.2.2.2 = some side_1.2.2.2.2.1)) && (decide (other_1.2.2.2.2.2.2 = some other_1.2.2.2.2.1))) = true then (Q (Str.ofString "over")) else (Q (Str.ofString "closing")))
def y__taken_j1 (talk_1 : Talk) (x_1 : Int) (p_1 : Side) (window_1 : Int) (ack_1 : Int) (reached_1 : Int) (Q : Talk → Prop) (fin_1 : (Option Int)) : Prop := y_later_one reached_1 p_1.2.1 fun v_3 => letT ((p_1.1, v_3, p_1.2.2.1, (if p_1.2.2.2.1 > window_1 then p_1.2.2.2.1 else window_1), p_1.2.2.2.2.1, p_1.2.2.2.2.2.1, fin_1) : Side) fun side_1 => ixT [(PyData.str talk_1.1), (eSide talk_1.2.1), ((eO eSide) talk_1.2.2)] ((2 : Int) - x_1) fun v_4 => castT eSide v_4 fun p_2 => y__width window_1 fun v_5 => y_after ack_1 v_5 fun v_6 => y_later_one v_6 p_2.2.2.1 fun top_1 => y_later_one ack_1 p_2.2.2.2.2.1 fun v_8 => letT ((p_2.1, p_2.2.1, top_1, p_2.2.2.2.1, v_8, p_2.2.2.2.2.2.1, p_2.2.2.2.2.2.2) : Side) fun other_1 => if (decide (x_1 = (0 : Int))) = true then (y__state_of side_1 other_1 fun v_9 => Q (v_9, side_1, (some other_1))) else (y__state_of side_1 other_1 fun v_10 => Q (v_10, other_1, (some side_1)))
def y__taken (talk_1 : Talk) (x_1 : Int) (segment_1 : Seg) (Q : Talk → Prop) : Prop := ixT [(PyData.str talk_1.1), (eSide talk_1.2.1), ((eO eSide) talk_1.2.2)] ((1 : Int) + x_1) fun v_1 => castT eSide v_1 fun p_1 => getT p_1.2.2.2.2.2.1 fun c_2 => CPow segment_1.2.2.2.2.2.2.1 c_2 ∧ (letT ((segment_1.2.2.2.2.2.2.1 * 2 ^ (c_2).toNat) : Int) fun window_1 => letT (segment_1.2.2.2.2.1 : Int) fun ack_1 => y_segment_end segment_1 fun reached_1 => if (!decide ((Builtin.bitAnd segment_1.2.2.2.2.2.1 (1 : Int)) = 0)) = true then (letT (reached_1 : Int) fun fin_2 => y__taken_j1 talk_1 x_1 p_1 window_1 ack_1 reached_1 Q (some fin_2)) else (y__taken_j1 talk_1 x_1 p_1 window_1 ack_1 reached_1 Q p_1.2.2.2.2.2.2))
def y__in_open (talk_1 : Talk) (x_1 : Int) (segment_1 : Seg) (Q : (Str × Talk) → Prop) : Prop := ixT [(PyData.str talk_1.1), (eSide talk_1.2.1), ((eO eSide) talk_1.2.2)] ((1 : Int) + x_1) fun v_1 => castT eSide v_1 fun side_1 => y__is_first_syn talk_1 x_1 segment_1 fun v_2 => orT v_2 (fun G => y_after talk_1.2.1.1 (1 : Int) fun v_3 => y__is_syn_ack talk_1 x_1 segment_1 v_3 fun v_4 => G v_4) fun v_5 => if v_5 = true then (Q ((Str.ofString "again"), talk_1)) else (if (!decide ((Builtin.bitAnd segment_1.2.2.2.2.2.1 (2 : Int)) = 0)) = true then (Q ((Str.ofString "state"), talk_1)) else (y__lies_well talk_1 x_1 segment_1 fun v_6 => if (!v_6) = true then (Q ((Str.ofString "window"), talk_1)) else (y__is_rst segment_1 fun v_7 => if (!v_7) = true then (y__taken talk_1 x_1 segment_1 fun v_8 => Q ((Str.ofString "fits"), v_8)) else (if ((decide (segment_1.2.2.2.1 = side_1.2.2.2.2.1)) || (decide (segment_1.2.2.2.1 = side_1.2.1))) = true then (y__ended talk_1 fun v_9 => Q v_9) else (Q ((Str.ofString "again"), talk_1))))))
def y__answered_j1 (opener_1 : Side) (start_1 : Int) (ack_1 : Int) (wide_1 : Int) (Q : Talk → Prop) (shift_2 : (Option Int)) (other_shift_2 : (Option Int)) : Prop := y_after start_1 (1 : Int) fun end_1 => y_after end_1 opener_1.2.2.2.1 fun v_4 => letT ((start_1, end_1, v_4, wide_1, start_1, other_shift_2, ()) : (Int × Int × Int × Int × Int × (Option Int) × Unit)) fun answerer_1 => y_after ack_1 wide_1 fun v_5 => letT ((opener_1.1, opener_1.2.1, v_5, opener_1.2.2.2.1, ack_1, shift_2, opener_1.2.2.2.2.2.2) : Side) fun heard_1 => Q ((Str.ofString "answered"), heard_1, (some (answerer_1.1, answerer_1.2.1, answerer_1.2.2.1, answerer_1.2.2.2.1, answerer_1.2.2.2.2.1, answerer_1.2.2.2.2.2.1, none)))
def y__answered (opener_1 : Side) (segment_1 : Seg) (Q : Talk → Prop) : Prop := letT (segment_1.2.2.2.1 : Int) fun start_1 => letT (segment_1.2.2.2.2.1 : Int) fun ack_1 => y__width segment_1.2.2.2.2.2.2.1 fun wide_1 => letT (opener_1.2.2.2.2.2.1 : (Option Int)) fun shift_1 => y_shift_of segment_1.2.2.2.2.2.2.2.2.1 fun other_shift_1 => if ((shift_1.isNone) || (other_shift_1.isNone)) = true then (letT (((0 : Int), (0 : Int)) : (Int × Int)) fun p_1 => y__answered_j1 opener_1 start_1 ack_1 wide_1 Q (some p_1.1) (some p_1.2)) else (y__answered_j1 opener_1 start_1 ack_1 wide_1 Q shift_1 other_shift_1)
def y__in_asked (talk_1 : Talk) (x_1 : Int) (segment_1 : Seg) (Q : (Str × Talk) → Prop) : Prop := letT (talk_1.2.1 : Side) fun opener_1 => y__form segment_1 fun form_1 => y__is_first_syn talk_1 x_1 segment_1 fun v_2 => if v_2 = true then (Q ((Str.ofString "again"), talk_1)) else (andT (decide (x_1 = (0 : Int))) (fun G => y__is_rst segment_1 fun v_3 => G (v_3 && (decide (segment_1.2.2.2.1 = opener_1.2.1)))) fun v_4 => if v_4 = true then (y__ended talk_1 fun v_5 => Q v_5) else (if ((decide (x_1 = (1 : Int))) && ((decide (form_1 = (18 : Int))) && (decide (segment_1.2.2.2.2.1 = opener_1.2.1)))) = true then (y__answered opener_1 segment_1 fun v_6 => Q ((Str.ofString "fits"), v_6)) else (if ((decide (x_1 = (1 : Int))) && ((decide (form_1 = (20 : Int))) && (decide (segment_1.2.2.2.2.1 = opener_1.2.1)))) = true then (y__ended talk_1 fun v_7 => Q v_7) else (Q ((Str.ofString "state"), talk_1)))))
def y__in_answered (talk_1 : Talk) (x_1 : Int) (segment_1 : Seg) (Q : (Str × Talk) → Prop) : Prop := y__is_first_syn talk_1 x_1 segment_1 fun v_1 => orT v_1 (fun G => y__is_syn_ack talk_1 x_1 segment_1 talk_1.2.1.2.1 fun v_2 => G v_2) fun v_3 => if v_3 = true then (Q ((Str.ofString "again"), talk_1)) else (y__is_rst segment_1 fun v_4 => andT v_4 (fun G => ixT [(PyData.str talk_1.1), (eSide talk_1.2.1), ((eO eSide) talk_1.2.2)] ((1 : Int) + x_1) fun v_5 => castT eSide v_5 fun c_1 => G (decide (segment_1.2.2.2.1 = c_1.2.1))) fun v_6 => if v_6 = true then (y__ended talk_1 fun v_7 => Q v_7) else (andT (decide (x_1 = (0 : Int))) (fun G => y__form segment_1 fun v_8 => andT (decide (v_8 ∈ [(((16 : Int), (17 : Int))).1, (((16 : Int), (17 : Int))).2])) (fun G => getT talk_1.2.2 fun c_2 => G (decide (segment_1.2.2.2.2.1 = c_2.2.1))) fun v_10 => G v_10) fun v_11 => if v_11 = true then (y__in_open talk_1 x_1 segment_1 fun v_12 => Q v_12) else (Q ((Str.ofString "state"), talk_1))))
def y__word_in_over (talk_1 : Talk) (x_1 : Int) (segment_1 : Seg) (Q : Str → Prop) : Prop := andT (decide (x_1 = (0 : Int))) (fun G => y__form segment_1 fun v_1 => andT (decide (v_1 = (2 : Int))) (fun G => y_later segment_1.2.2.2.1 talk_1.2.1.2.1 fun v_2 => G v_2) fun v_3 => G v_3) fun v_4 => if v_4 = true then (Q (Str.ofString "new")) else (orT (!decide ((Builtin.bitAnd segment_1.2.2.2.2.2.1 (2 : Int)) = 0)) (fun G => orT (talk_1.2.2.isNone) (fun G => y__lies_well talk_1 x_1 segment_1 fun v_5 => G (!v_5)) fun v_6 => G v_6) fun v_7 => if v_7 = true then (Q (Str.ofString "over")) else (Q (Str.ofString "again")))
def y_tracked (talk_1 : Talk) (x_1 : Int) (segment_1 : Seg) (Q : (Str × Talk) → Prop) : Prop := letT (talk_1.1 : Str) fun state_1 => y__is_odd segment_1 fun v_1 => if v_1 = true then (Q ((Str.ofString "odd"), talk_1)) else (if (decide (state_1 = (Str.ofString "asked"))) = true then (y__in_asked talk_1 x_1 segment_1 fun v_2 => Q v_2) else (if (decide (state_1 = (Str.ofString "answered"))) = true then (y__in_answered talk_1 x_1 segment_1 fun v_3 => Q v_3) else (if (decide (state_1 = (Str.ofString "over"))) = true then (y__word_in_over talk_1 x_1 segment_1 fun v_4 => Q (v_4, talk_1)) else (y__in_open talk_1 x_1 segment_1 fun v_5 => Q v_5))))
def y__law_mod (number_1 : Int) (Q : Int → Prop) : Prop := 0 < (4294967296 : Int) ∧ (Q (number_1 % (4294967296 : Int)))
def y__law_later (a_1 : Int) (b_1 : Int) (Q : Bool → Prop) : Prop := y__law_mod (a_1 - b_1) fun far_1 => Q ((decide ((0 : Int) < far_1)) && (decide (far_1 < (2147483648 : Int))))
def y__law_shift_l1 (options_1 : (List Int)) (Q : (Option Int) → Prop) (kn : Prop) : List Int → Prop
  | [] => kn
  | k_1 :: r_1 => ixT options_1 k_1 fun v_1 => andT (decide (v_1 = (3 : Int))) (fun G => ixT options_1 (k_1 + (1 : Int)) fun v_2 => G (decide (v_2 = (3 : Int)))) fun v_3 => if v_3 = true then (ixT options_1 (k_1 + (2 : Int)) fun v_6 => Q (some (if (14 : Int) < v_6 then (14 : Int) else v_6))) else (y__law_shift_l1 options_1 Q kn r_1)
def y__law_shift (options_1 : (List Int)) (Q : (Option Int) → Prop) : Prop := (-(2 ^ 62) ≤ ((options_1.length : Int) - (2 : Int)) ∧ ((options_1.length : Int) - (2 : Int)) < 2 ^ 62) ∧ (y__law_shift_l1 options_1 Q (Q none) (rngT 0 ((options_1.length : Int) - (2 : Int)).toNat))
def y__law_form (segment_1 : Seg) (Q : (List Int) → Prop) : Prop := letT (segment_1.2.2.2.2.2.1 : Int) fun flags_1 => 0 < (2 : Int) ∧ (CDiv flags_1 (2 : Int) ∧ (0 < (2 : Int) ∧ (CDiv flags_1 (4 : Int) ∧ (0 < (2 : Int) ∧ (CDiv flags_1 (16 : Int) ∧ (0 < (2 : Int) ∧ (Q [(flags_1 % (2 : Int)), ((flags_1 / (2 : Int)) % (2 : Int)), ((flags_1 / (4 : Int)) % (2 : Int)), ((flags_1 / (16 : Int)) % (2 : Int))])))))))
def y__law_is_odd (segment_1 : Seg) (Q : Bool → Prop) : Prop := y__law_form segment_1 fun form_1 => letT ([[(0 : Int), (1 : Int), (0 : Int), (0 : Int)], [(0 : Int), (1 : Int), (0 : Int), (1 : Int)], [(0 : Int), (0 : Int), (0 : Int), (1 : Int)], [(1 : Int), (0 : Int), (0 : Int), (1 : Int)], [(0 : Int), (0 : Int), (1 : Int), (0 : Int)], [(0 : Int), (0 : Int), (1 : Int), (1 : Int)]] : (List (List Int))) fun known_1 => okD ((eL PyData.int) form_1) = true ∧ (okD ((eL (eL PyData.int)) known_1) = true ∧ (orT (!inD ((eL PyData.int) form_1) (List.map (eL PyData.int) known_1)) (fun G => ixT form_1 (1 : Int) fun v_6 => G ((decide (v_6 = (1 : Int))) && (decide ((0 : Int) < (segment_1.2.2.2.2.2.2.2.2.2.length : Int))))) fun v_7 => Q v_7))
def y__law_end (segment_1 : Seg) (Q : Int → Prop) : Prop := y__law_form segment_1 fun form_1 => ixT form_1 (0 : Int) fun v_20 => ixT form_1 (1 : Int) fun v_21 => y__law_mod (((segment_1.2.2.2.1 + (segment_1.2.2.2.2.2.2.2.2.2.length : Int)) + v_20) + v_21) fun v_22 => Q v_22
def y__law_well (talk_1 : Talk) (x_1 : Int) (segment_1 : Seg) (Q : Bool → Prop) : Prop := ixT [(PyData.str talk_1.1), (eSide talk_1.2.1), ((eO eSide) talk_1.2.2)] ((1 : Int) + x_1) fun v_1 => castT eSide v_1 fun own_1 => ixT [(PyData.str talk_1.1), (eSide talk_1.2.1), ((eO eSide) talk_1.2.2)] ((2 : Int) - x_1) fun v_2 => castT eSide v_2 fun other_1 => y__law_end segment_1 fun end_1 => y__law_form segment_1 fun form_1 => letT ((own_1.2.1 - other_1.2.2.2.1) : Int) fun low_1 => y__law_mod (end_1 - low_1) fun v_5 => y__law_mod (own_1.2.2.1 - low_1) fun v_6 => if (decide (v_6 < v_5)) = true then (Q false) else (ixT form_1 (3 : Int) fun v_7 => andT (decide (v_7 = (1 : Int))) (fun G => y__law_mod (other_1.2.1 - segment_1.2.2.2.2.1) fun v_8 => G (decide ((1073741824 : Int) < v_8))) fun v_9 => if v_9 = true then (Q false) else (if (own_1.2.2.2.2.2.2.isNone) = true then (ixT form_1 (0 : Int) fun v_18 => orT (decide (v_18 = (0 : Int))) (fun G => y__law_later own_1.2.1 end_1 fun v_20 => G (!v_20)) fun v_21 => Q v_21) else (orT (decide (some end_1 = own_1.2.2.2.2.2.2)) (fun G => ixT form_1 (0 : Int) fun v_32 => andT (decide (v_32 = (0 : Int))) (fun G => getT own_1.2.2.2.2.2.2 fun c_8 => y__law_later end_1 c_8 fun v_34 => G (!v_34)) fun v_35 => G v_35) fun v_36 => Q v_36)))
def y__law_behind_j2 (x_1 : Int) (own_4 : (List D)) (other_3 : (List D)) (Q : Talk → Prop) (state_2 : Str) : Prop := castT eSide ((eU eD) own_4) fun c_12 => castT eSide ((eU eD) other_3) fun c_13 => letT ([c_12, c_13] : (List Side)) fun rows_1 => ixT rows_1 x_1 fun v_43 => ixT rows_1 ((1 : Int) - x_1) fun v_44 => Q (state_2, v_43, (some v_44))
def y__law_behind_j3 (x_1 : Int) (other_3 : (List D)) (Q : Talk → Prop) (own_4 : (List D)) : Prop := ixT own_4 (6 : Int) fun v_40 => andT (isNo v_40) (fun G => ixT other_3 (6 : Int) fun v_41 => G (isNo v_41)) fun v_42 => letT ((if v_42 = true then (Str.ofString "open") else (Str.ofString "closing")) : Str) fun state_1 => ixT own_4 (6 : Int) fun v_45 => andT (!isNo v_45) (fun G => ixT other_3 (6 : Int) fun v_46 => andT (!isNo v_46) (fun G => ixT own_4 (4 : Int) fun v_47 => ixT own_4 (6 : Int) fun v_48 => eqT (eD v_47) (eD v_48) fun v_49 => andT v_49 (fun G => ixT other_3 (4 : Int) fun v_50 => ixT other_3 (6 : Int) fun v_51 => eqT (eD v_50) (eD v_51) fun v_52 => G v_52) fun v_53 => G v_53) fun v_54 => G v_54) fun v_55 => if v_55 = true then (letT ((Str.ofString "over") : Str) fun state_3 => y__law_behind_j2 x_1 own_4 other_3 Q state_3) else (y__law_behind_j2 x_1 own_4 other_3 Q state_1)
def y__law_behind_l1 (Q : Talk → Prop) (kn : Int → Prop) : List Int → Int → Prop
  | [], window_3 => kn window_3
  | k_1 :: r_1, window_3 => CMul window_3 (2 : Int) ∧ (letT ((window_3 * (2 : Int)) : Int) fun window_4 => y__law_behind_l1 Q kn r_1 window_4)
def y__law_behind (talk_1 : Talk) (x_1 : Int) (segment_1 : Seg) (Q : Talk → Prop) : Prop := ixT [(PyData.str talk_1.1), (eSide talk_1.2.1), ((eO eSide) talk_1.2.2)] ((1 : Int) + x_1) fun v_2 => castT (eU eD) v_2 fun own_1 => ixT [(PyData.str talk_1.1), (eSide talk_1.2.1), ((eO eSide) talk_1.2.2)] ((2 : Int) - x_1) fun v_4 => castT (eU eD) v_4 fun other_1 => y__law_end segment_1 fun end_1 => letT (segment_1.2.2.2.2.2.2.1 : Int) fun window_1 => ixT own_1 (5 : Int) fun v_6 => castT PyData.int v_6 fun c_3 => (-(2 ^ 62) ≤ c_3 ∧ c_3 < 2 ^ 62) ∧ (y__law_behind_l1 Q (fun (window_5 : Int) => ixT own_1 (1 : Int) fun v_13 => castT PyData.int v_13 fun c_5 => y__law_later end_1 c_5 fun v_14 => iteT v_14 (fun G => G (PyData.int end_1)) (fun G => ixT own_1 (1 : Int) fun v_15 => G v_15) fun v_16 => setT own_1 (1 : Int) v_16 fun own_2 => ixT own_2 (3 : Int) fun v_18 => castT PyData.int v_18 fun c_7 => setT own_2 (3 : Int) (PyData.int (if window_5 > c_7 then window_5 else c_7)) fun own_3 => y__law_mod (segment_1.2.2.2.2.1 + (if (1 : Int) > window_5 then (1 : Int) else window_5)) fun top_1 => ixT other_1 (2 : Int) fun v_26 => castT PyData.int v_26 fun c_9 => y__law_later top_1 c_9 fun v_27 => iteT v_27 (fun G => G (PyData.int top_1)) (fun G => ixT other_1 (2 : Int) fun v_28 => G v_28) fun v_29 => setT other_1 (2 : Int) v_29 fun other_2 => ixT other_2 (4 : Int) fun v_36 => castT PyData.int v_36 fun c_11 => y__law_later segment_1.2.2.2.2.1 c_11 fun v_37 => iteT v_37 (fun G => G (PyData.int segment_1.2.2.2.2.1)) (fun G => ixT other_2 (4 : Int) fun v_38 => G v_38) fun v_39 => setT other_2 (4 : Int) v_39 fun other_3 => y__law_form segment_1 fun v_56 => ixT v_56 (0 : Int) fun v_57 => if (decide (v_57 = (1 : Int))) = true then (setT own_3 (6 : Int) (PyData.int end_1) fun own_5 => y__law_behind_j3 x_1 other_3 Q own_5) else (y__law_behind_j3 x_1 other_3 Q own_3)) (rngT 0 c_3.toNat) window_1)
def y__law_asked_j1 (opener_1 : Side) (p_1 : ((List Int) × Int × Int × Int)) (Q : (Str × Talk) → Prop) (one_2 : (Option Int)) (two_2 : (Option Int)) : Prop := y__law_mod (p_1.2.1 + (1 : Int)) fun v_13 => y__law_mod ((p_1.2.1 + (1 : Int)) + opener_1.2.2.2.1) fun v_14 => letT ((p_1.2.1, v_13, v_14, p_1.2.2.2, p_1.2.1, two_2, ()) : (Int × Int × Int × Int × Int × (Option Int) × Unit)) fun answerer_1 => y__law_mod (p_1.2.2.1 + p_1.2.2.2) fun v_15 => Q ((Str.ofString "fits"), ((Str.ofString "answered"), (((opener_1.1, opener_1.2.1, v_15, opener_1.2.2.2.1, p_1.2.2.1, one_2, ())).1, ((opener_1.1, opener_1.2.1, v_15, opener_1.2.2.2.1, p_1.2.2.1, one_2, ())).2.1, ((opener_1.1, opener_1.2.1, v_15, opener_1.2.2.2.1, p_1.2.2.1, one_2, ())).2.2.1, ((opener_1.1, opener_1.2.1, v_15, opener_1.2.2.2.1, p_1.2.2.1, one_2, ())).2.2.2.1, ((opener_1.1, opener_1.2.1, v_15, opener_1.2.2.2.1, p_1.2.2.1, one_2, ())).2.2.2.2.1, ((opener_1.1, opener_1.2.1, v_15, opener_1.2.2.2.1, p_1.2.2.1, one_2, ())).2.2.2.2.2.1, none), (some (answerer_1.1, answerer_1.2.1, answerer_1.2.2.1, answerer_1.2.2.2.1, answerer_1.2.2.2.2.1, answerer_1.2.2.2.2.2.1, none))))
def y__law_asked (talk_1 : Talk) (x_1 : Int) (segment_1 : Seg) (Q : (Str × Talk) → Prop) : Prop := letT (talk_1.2.1 : Side) fun opener_1 => y__law_form segment_1 fun v_1 => letT ((v_1, segment_1.2.2.2.1, segment_1.2.2.2.2.1, (if (1 : Int) > segment_1.2.2.2.2.2.2.1 then (1 : Int) else segment_1.2.2.2.2.2.2.1)) : ((List Int) × Int × Int × Int)) fun p_1 => letT (((Str.ofString "fits"), ((Str.ofString "over"), opener_1, ())) : (Str × (Str × Side × Unit))) fun over_1 => andT (decide (x_1 = (0 : Int))) (fun G => ixT p_1.1 (2 : Int) fun v_2 => G (decide (v_2 = (0 : Int)))) fun v_3 => if v_3 = true then (eqT ((eL PyData.int) p_1.1) ((eL PyData.int) [(0 : Int), (1 : Int), (0 : Int), (0 : Int)]) fun v_4 => Q ((if (v_4 && (decide (p_1.2.1 = opener_1.1))) = true then (Str.ofString "again") else (Str.ofString "state")), talk_1)) else (if (decide (x_1 = (0 : Int))) = true then (Q (if (decide (p_1.2.1 = opener_1.2.1)) = true then (over_1.1, (over_1.2.1, over_1.2.2.1, none)) else ((Str.ofString "state"), talk_1))) else (ixT p_1.1 (3 : Int) fun v_5 => orT (decide (v_5 = (0 : Int))) (fun G => orT (!decide (p_1.2.2.1 = opener_1.2.1)) (fun G => ixT p_1.1 (1 : Int) fun v_6 => andT (decide (v_6 = (0 : Int))) (fun G => ixT p_1.1 (2 : Int) fun v_7 => G (decide (v_7 = (0 : Int)))) fun v_8 => G v_8) fun v_9 => G v_9) fun v_10 => if v_10 = true then (Q ((Str.ofString "state"), talk_1)) else (ixT p_1.1 (2 : Int) fun v_11 => if (decide (v_11 = (1 : Int))) = true then (Q (over_1.1, (over_1.2.1, over_1.2.2.1, none))) else (letT (opener_1.2.2.2.2.2.1 : (Option Int)) fun one_1 => y__law_shift segment_1.2.2.2.2.2.2.2.2.1 fun two_1 => if ((one_1.isNone) || (two_1.isNone)) = true then (letT (((0 : Int), (0 : Int)) : (Int × Int)) fun p_2 => y__law_asked_j1 opener_1 p_1 Q (some p_2.1) (some p_2.2)) else (y__law_asked_j1 opener_1 p_1 Q one_1 two_1)))))
def y__law_track_j1 (talk_1 : Talk) (x_1 : Int) (segment_1 : Seg) (form_1 : (List Int)) (seq_1 : Int) (Q : (Str × Talk) → Prop) : Prop := y__law_well talk_1 x_1 segment_1 fun v_22 => if (!v_22) = true then (Q ((Str.ofString "window"), talk_1)) else (ixT form_1 (2 : Int) fun v_23 => if (decide (v_23 = (1 : Int))) = true then (ixT [(PyData.str talk_1.1), (eSide talk_1.2.1), ((eO eSide) talk_1.2.2)] ((1 : Int) + x_1) fun v_24 => castT eSide v_24 fun c_2 => orT (decide (seq_1 = c_2.2.1)) (fun G => ixT [(PyData.str talk_1.1), (eSide talk_1.2.1), ((eO eSide) talk_1.2.2)] ((1 : Int) + x_1) fun v_25 => castT eSide v_25 fun c_3 => G (decide (seq_1 = c_3.2.2.2.2.1))) fun hit_1 => Q (if hit_1 = true then ((Str.ofString "fits"), ((Str.ofString "over"), talk_1.2.1, talk_1.2.2)) else ((Str.ofString "again"), talk_1))) else (y__law_behind talk_1 x_1 segment_1 fun v_27 => Q ((Str.ofString "fits"), v_27)))
def y__law_track (talk_1 : Talk) (x_1 : Int) (segment_1 : Seg) (Q : (Str × Talk) → Prop) : Prop := y__law_is_odd segment_1 fun v_1 => if v_1 = true then (Q ((Str.ofString "odd"), talk_1)) else (if (decide (talk_1.1 = (Str.ofString "asked"))) = true then (y__law_asked talk_1 x_1 segment_1 fun v_2 => Q v_2) else (y__law_form segment_1 fun form_1 => letT (segment_1.2.2.2.1 : Int) fun seq_1 => letT (segment_1.2.2.2.2.1 : Int) fun ack_1 => andT (!talk_1.2.2.isNone) (fun G => ixT [(PyData.str talk_1.1), (eSide talk_1.2.1), ((eO eSide) talk_1.2.2)] ((1 : Int) + x_1) fun v_4 => castT eSide v_4 fun c_1 => andT (decide (seq_1 = c_1.1)) (fun G => ixT form_1 (1 : Int) fun v_5 => andT (decide (v_5 = (1 : Int))) (fun G => ixT form_1 (3 : Int) fun v_6 => G (decide (v_6 = x_1))) fun v_7 => G v_7) fun v_8 => G v_8) fun known_1 => andT known_1 (fun G => orT (decide (x_1 = (0 : Int))) (fun G => y__law_mod (talk_1.2.1.1 + (1 : Int)) fun v_10 => G (decide (ack_1 = v_10))) fun v_11 => G v_11) fun known_2 => if (decide (talk_1.1 = (Str.ofString "over"))) = true then (andT (decide (x_1 = (0 : Int))) (fun G => eqT ((eL PyData.int) form_1) ((eL PyData.int) [(0 : Int), (1 : Int), (0 : Int), (0 : Int)]) fun v_13 => andT v_13 (fun G => y__law_later seq_1 talk_1.2.1.2.1 fun v_14 => G v_14) fun v_15 => G v_15) fun v_16 => if v_16 = true then (Q ((Str.ofString "new"), talk_1)) else (ixT form_1 (1 : Int) fun v_17 => andT (decide (v_17 = (0 : Int))) (fun G => andT (!talk_1.2.2.isNone) (fun G => y__law_well talk_1 x_1 segment_1 fun v_18 => G v_18) fun v_19 => G v_19) fun well_1 => Q ((if well_1 = true then (Str.ofString "again") else (Str.ofString "over")), talk_1))) else (ixT form_1 (1 : Int) fun v_21 => if (decide (v_21 = (1 : Int))) = true then (Q ((if known_2 = true then (Str.ofString "again") else (Str.ofString "state")), talk_1)) else (if (decide (talk_1.1 = (Str.ofString "answered"))) = true then (ixT form_1 (2 : Int) fun v_28 => if (decide (v_28 = (1 : Int))) = true then (ixT [(PyData.str talk_1.1), (eSide talk_1.2.1), ((eO eSide) talk_1.2.2)] ((1 : Int) + x_1) fun v_29 => castT eSide v_29 fun c_4 => Q (if (decide (seq_1 = c_4.2.1)) = true then ((Str.ofString "fits"), ((Str.ofString "over"), talk_1.2.1, talk_1.2.2)) else ((Str.ofString "state"), talk_1))) else (orT (decide (x_1 = (1 : Int))) (fun G => getT talk_1.2.2 fun c_5 => G (!decide (ack_1 = c_5.2.1))) fun v_31 => if v_31 = true then (Q ((Str.ofString "state"), talk_1)) else (y__law_track_j1 talk_1 x_1 segment_1 form_1 seq_1 Q))) else (y__law_track_j1 talk_1 x_1 segment_1 form_1 seq_1 Q)))))
def y__law_options (Q : (List Int) → Prop) : Prop := take0T (3 : Int) fun v_1 => if (decide (v_1 = (0 : Int))) = true then (Q []) else (take0T (6 : Int) fun front_1 => [(1 : Int)] ≠ [] ∧ ((0 ≤ front_1 ∧ front_1 ≤ 10000) ∧ ([(1 : Int)].length ≤ 100 ∧ (pickT [(0 : Int), (1 : Int), (2 : Int), (7 : Int), (13 : Int), (14 : Int), (15 : Int), (255 : Int)] fun v_4 => ((List.replicate front_1.toNat [(1 : Int)]).flatten).length + [(((3 : Int), (3 : Int), v_4)).1, (((3 : Int), (3 : Int), v_4)).2.1, (((3 : Int), (3 : Int), v_4)).2.2].length ≤ sizeLine ∧ (letT (((List.replicate front_1.toNat [(1 : Int)]).flatten ++ [(((3 : Int), (3 : Int), v_4)).1, (((3 : Int), (3 : Int), v_4)).2.1, (((3 : Int), (3 : Int), v_4)).2.2]) : (List Int)) fun row_1 => 0 < (4 : Int) ∧ ([(1 : Int)] ≠ [] ∧ ((0 ≤ ((-(row_1.length : Int)) % (4 : Int)) ∧ ((-(row_1.length : Int)) % (4 : Int)) ≤ 10000) ∧ ([(1 : Int)].length ≤ 100 ∧ (row_1.length + ((List.replicate ((-(row_1.length : Int)) % (4 : Int)).toNat [(1 : Int)]).flatten).length ≤ sizeLine ∧ (Q (row_1 ++ (List.replicate ((-(row_1.length : Int)) % (4 : Int)).toNat [(1 : Int)]).flatten)))))))))))
def y__law_segment (seq_1 : Int) (ack_1 : Int) (flags_1 : Int) (size_1 : Int) (Q : Seg → Prop) : Prop := numT (1 : Int) (65535 : Int) fun v_1 => numT (1 : Int) (65535 : Int) fun v_2 => letT ((v_1, v_2) : (Int × Int)) fun ports_1 => pickT [(0 : Int), (0 : Int), (8 : Int), (32 : Int), (64 : Int), (128 : Int), (200 : Int)] fun extra_1 => take0T (65536 : Int) fun v_5 => pickT [(0 : Int), (1 : Int), (2 : Int), (10 : Int), (5000 : Int), (65535 : Int), v_5] fun window_1 => y__law_mod seq_1 fun v_6 => y__law_mod ack_1 fun v_7 => take0T (2 : Int) fun v_8 => letT (((Str.ofString "tcp"), ports_1.1, ports_1.2, v_6, v_7, (flags_1 + extra_1), window_1, v_8) : (Str × Int × Int × Int × Int × Int × Int × Int)) fun first_1 => y__law_options fun v_11 => [(7 : Int)] ≠ [] ∧ ((0 ≤ size_1 ∧ size_1 ≤ 10000) ∧ ([(7 : Int)].length ≤ 100 ∧ (Q (first_1.1, first_1.2.1, first_1.2.2.1, first_1.2.2.2.1, first_1.2.2.2.2.1, first_1.2.2.2.2.2.1, first_1.2.2.2.2.2.2.1, first_1.2.2.2.2.2.2.2, v_11, (List.replicate size_1.toNat [(7 : Int)]).flatten))))
def y__law_near_segment_j1 (ack_1 : Int) (flags_1 : Int) (size_2 : Int) (Q : Seg → Prop) (seq_2 : Int) : Prop := y__law_segment seq_2 ack_1 flags_1 size_2 fun v_58 => Q v_58
def y__law_near_segment_j2 (seq_1 : Int) (ack_1 : Int) (flags_1 : Int) (Q : Seg → Prop) (size_2 : Int) : Prop := take0T (4 : Int) fun v_59 => if (decide (v_59 = (0 : Int))) = true then (0 < (2 : Int) ∧ (letT (((seq_1 - size_2) - (flags_1 % (2 : Int))) : Int) fun seq_3 => y__law_near_segment_j1 ack_1 flags_1 size_2 Q seq_3)) else (y__law_near_segment_j1 ack_1 flags_1 size_2 Q seq_1)
def y__law_near_segment_j3 (own_2 : (Option Side)) (Q : Seg → Prop) (other_2 : (Option Side)) : Prop := pickT [(0 : Int), (0 : Int), (0 : Int), (1 : Int), (-1 : Int), (2 : Int), (2147483648 : Int), (-2147483648 : Int)] fun step_1 => getT own_2 fun c_16 => getT own_2 fun c_17 => getT own_2 fun c_18 => getT own_2 fun c_19 => getT own_2 fun c_20 => getT own_2 fun c_23 => getT other_2 fun c_24 => getT own_2 fun c_12 => iteT (c_12.2.2.2.2.2.2.isNone) (fun G => getT own_2 fun c_15 => G (some c_15.2.1)) (fun G => getT own_2 fun c_14 => G c_14.2.2.2.2.2.2) fun v_17 => letT ([(some c_16.1), (some c_17.2.1), (some c_18.2.1), (some c_19.2.2.1), (some c_20.2.2.2.2.1), (some (c_23.2.1 - c_24.2.2.2.1)), v_17] : (List (Option Int))) fun seqs_1 => pickT seqs_1 fun v_28 => getT v_28 fun c_25 => letT ((c_25 + step_1) : Int) fun seq_1 => getT other_2 fun c_37 => getT other_2 fun c_38 => getT other_2 fun c_39 => getT other_2 fun c_41 => getT other_2 fun c_43 => getT other_2 fun c_33 => iteT (c_33.2.2.2.2.2.2.isNone) (fun G => getT other_2 fun c_36 => G (some c_36.2.1)) (fun G => getT other_2 fun c_35 => G c_35.2.2.2.2.2.2) fun v_40 => letT ([(some c_37.2.1), (some c_38.2.1), (some c_39.2.2.2.2.1), (some (c_41.1 + (1 : Int))), (some (c_43.2.1 - (1073741824 : Int))), v_40] : (List (Option Int))) fun acks_1 => pickT acks_1 fun v_50 => getT v_50 fun c_44 => pickT [(0 : Int), (0 : Int), (0 : Int), (1 : Int), (-1 : Int)] fun v_51 => letT ((c_44 + v_51) : Int) fun ack_1 => take0T (32 : Int) fun v_53 => pickT [(16 : Int), (16 : Int), (16 : Int), (16 : Int), (17 : Int), (17 : Int), (2 : Int), (18 : Int), (4 : Int), (20 : Int), v_53] fun flags_1 => take0T (30 : Int) fun v_55 => pickT [(0 : Int), (0 : Int), (0 : Int), (1 : Int), (2 : Int), (5 : Int), v_55] fun size_1 => andT (decide (flags_1 ∈ [(2 : Int), (18 : Int)])) (fun G => take0T (4 : Int) fun v_60 => G (decide ((0 : Int) < v_60))) fun v_61 => if v_61 = true then (letT ((0 : Int) : Int) fun size_3 => y__law_near_segment_j2 seq_1 ack_1 flags_1 Q size_3) else (y__law_near_segment_j2 seq_1 ack_1 flags_1 Q size_1)
def y__law_near_segment_j4 (other_1 : (Option Side)) (Q : Seg → Prop) (own_2 : (Option Side)) : Prop := if (other_1.isNone) = true then (letT (((5 : Int), (6 : Int), (7 : Int), (1 : Int), (5 : Int), (0 : Int), ()) : (Int × Int × Int × Int × Int × Int × Unit)) fun other_3 => y__law_near_segment_j3 own_2 Q (some (other_3.1, other_3.2.1, other_3.2.2.1, other_3.2.2.2.1, other_3.2.2.2.2.1, (some other_3.2.2.2.2.2.1), none))) else (y__law_near_segment_j3 own_2 Q other_1)
def y__law_near_segment (talk_1 : Talk) (x_1 : Int) (Q : Seg → Prop) : Prop := ixT [(PyData.str talk_1.1), (eSide talk_1.2.1), ((eO eSide) talk_1.2.2)] ((1 : Int) + x_1) fun v_1 => castT (eO eSide) v_1 fun own_1 => ixT [(PyData.str talk_1.1), (eSide talk_1.2.1), ((eO eSide) talk_1.2.2)] ((2 : Int) - x_1) fun v_2 => castT (eO eSide) v_2 fun other_1 => if (own_1.isNone) = true then (letT (((5 : Int), (6 : Int), (7 : Int), (1 : Int), (5 : Int), (0 : Int), ()) : (Int × Int × Int × Int × Int × Int × Unit)) fun own_3 => y__law_near_segment_j4 other_1 Q (some (own_3.1, own_3.2.1, own_3.2.2.1, own_3.2.2.2.1, own_3.2.2.2.2.1, (some own_3.2.2.2.2.2.1), none))) else (y__law_near_segment_j4 other_1 Q own_1)
def y__law_good_segment_j1 (own_1 : (Option Side)) (other_1 : (Option Side)) (Q : Seg → Prop) (size_3 : Int) (flags_2 : Int) : Prop := getT own_1 fun c_24 => getT other_1 fun c_25 => getT other_1 fun c_26 => getT other_1 fun c_27 => pickT [c_25.2.1, c_26.2.1, c_27.2.2.2.2.1] fun v_47 => y__law_segment c_24.2.1 v_47 flags_2 size_3 fun v_51 => Q v_51
def y__law_good_segment (talk_1 : Talk) (x_1 : Int) (Q : Seg → Prop) : Prop := ixT [(PyData.str talk_1.1), (eSide talk_1.2.1), ((eO eSide) talk_1.2.2)] ((1 : Int) + x_1) fun v_1 => castT (eO eSide) v_1 fun own_1 => ixT [(PyData.str talk_1.1), (eSide talk_1.2.1), ((eO eSide) talk_1.2.2)] ((2 : Int) - x_1) fun v_2 => castT (eO eSide) v_2 fun other_1 => if (decide (talk_1.1 = (Str.ofString "asked"))) = true then (iteT (decide (x_1 = (0 : Int))) (fun G => getT own_1 fun c_5 => G c_5.1) (fun G => G (4294967295 : Int)) fun v_15 => take0T (9 : Int) fun v_16 => pickT [v_15, v_16] fun v_13 => y__law_segment v_13 talk_1.2.1.2.1 (if (decide (x_1 = (0 : Int))) = true then (2 : Int) else (18 : Int)) (0 : Int) fun v_17 => Q v_17) else (pickT [(0 : Int), (0 : Int), (1 : Int), (3 : Int), (20 : Int)] fun size_1 => if ((decide (talk_1.1 = (Str.ofString "answered"))) && (decide (x_1 = (1 : Int)))) = true then (getT own_1 fun c_10 => getT other_1 fun c_11 => y__law_segment c_10.1 c_11.2.1 (18 : Int) (0 : Int) fun v_27 => Q v_27) else (take0T (6 : Int) fun v_28 => letT ((if (decide (v_28 = (0 : Int))) = true then (17 : Int) else (16 : Int)) : Int) fun flags_1 => getT own_1 fun c_14 => getT own_1 fun c_15 => y__law_mod (c_14.2.2.1 - c_15.2.1) fun room_1 => letT ((if (if (room_1 - (1 : Int)) < size_1 then (room_1 - (1 : Int)) else size_1) > (0 : Int) then (if (room_1 - (1 : Int)) < size_1 then (room_1 - (1 : Int)) else size_1) else (0 : Int)) : Int) fun size_2 => getT own_1 fun c_28 => if (!c_28.2.2.2.2.2.2.isNone) = true then (letT (((16 : Int), (0 : Int)) : (Int × Int)) fun p_1 => y__law_good_segment_j1 own_1 other_1 Q p_1.2 p_1.1) else (y__law_good_segment_j1 own_1 other_1 Q size_2 flags_1)))
def y__law_start (Q : Int → Prop) : Prop := numT (0 : Int) (4294967295 : Int) fun v_6 => pickT [(0 : Int), (4294967295 : Int), (4294967290 : Int), (2147483647 : Int), v_6] fun v_5 => Q v_5
def y__law_begun (segment_1 : Seg) (Q : Talk → Prop) : Prop := letT (segment_1.2.2.2.1 : Int) fun start_1 => y__law_mod (start_1 + (1 : Int)) fun end_1 => y__law_shift segment_1.2.2.2.2.2.2.2.2.1 fun v_2 => Q ((Str.ofString "asked"), (start_1, end_1, end_1, (if (1 : Int) > segment_1.2.2.2.2.2.2.1 then (1 : Int) else segment_1.2.2.2.2.2.2.1), start_1, v_2, none), none)
def y__law_worked (Q : Bool → Prop) : Prop := letT (((Str.ofString "tcp"), (1 : Int), (2 : Int), (4294967295 : Int), (0 : Int), (2 : Int), (100 : Int), (0 : Int), ((3 : Int), (3 : Int), (2 : Int), (1 : Int)), ()) : (Str × Int × Int × Int × Int × Int × Int × Int × (Int × Int × Int × Int) × Unit)) fun syn_1 => letT (((Str.ofString "asked"), ((4294967295 : Int), (0 : Int), (0 : Int), (100 : Int), (4294967295 : Int), (2 : Int), ()), ()) : (Str × (Int × Int × Int × Int × Int × Int × Unit) × Unit)) fun talk_1 => y_begun (syn_1.1, syn_1.2.1, syn_1.2.2.1, syn_1.2.2.2.1, syn_1.2.2.2.2.1, syn_1.2.2.2.2.2.1, syn_1.2.2.2.2.2.2.1, syn_1.2.2.2.2.2.2.2.1, [syn_1.2.2.2.2.2.2.2.2.1.1, syn_1.2.2.2.2.2.2.2.2.1.2.1, syn_1.2.2.2.2.2.2.2.2.1.2.2.1, syn_1.2.2.2.2.2.2.2.2.1.2.2.2], []) fun v_1 => sameT 5 (eTalk v_1) ((eT3 PyData.str (eT7 PyData.int PyData.int PyData.int PyData.int PyData.int PyData.int eN) eN) talk_1) fun v_2 => if (!v_2) = true then (Q false) else (letT (((Str.ofString "tcp"), (2 : Int), (1 : Int), (7 : Int), (0 : Int), (18 : Int), (50 : Int), (0 : Int), (), ()) : (Str × Int × Int × Int × Int × Int × Int × Int × Unit × Unit)) fun both_1 => letT (((Str.ofString "answered"), ((4294967295 : Int), (0 : Int), (50 : Int), (100 : Int), (0 : Int), (0 : Int), ()), ((7 : Int), (8 : Int), (108 : Int), (50 : Int), (7 : Int), (0 : Int), ())) : (Str × (Int × Int × Int × Int × Int × Int × Unit) × (Int × Int × Int × Int × Int × Int × Unit))) fun answered_1 => y_tracked (talk_1.1, (talk_1.2.1.1, talk_1.2.1.2.1, talk_1.2.1.2.2.1, talk_1.2.1.2.2.2.1, talk_1.2.1.2.2.2.2.1, (some talk_1.2.1.2.2.2.2.2.1), none), none) (1 : Int) (both_1.1, both_1.2.1, both_1.2.2.1, both_1.2.2.2.1, both_1.2.2.2.2.1, both_1.2.2.2.2.2.1, both_1.2.2.2.2.2.2.1, both_1.2.2.2.2.2.2.2.1, [], []) fun v_3 => sameT 5 ((eT2 PyData.str eTalk) v_3) ((eT2 PyData.str (eT3 PyData.str (eT7 PyData.int PyData.int PyData.int PyData.int PyData.int PyData.int eN) (eT7 PyData.int PyData.int PyData.int PyData.int PyData.int PyData.int eN))) ((Str.ofString "fits"), answered_1)) fun v_4 => if (!v_4) = true then (Q false) else (letT (((Str.ofString "tcp"), (1 : Int), (2 : Int), (0 : Int), (8 : Int), (16 : Int), (10 : Int), (0 : Int), (), ((1 : Int), (2 : Int), (3 : Int))) : (Str × Int × Int × Int × Int × Int × Int × Int × Unit × (Int × Int × Int))) fun last_1 => letT (((Str.ofString "open"), ((4294967295 : Int), (3 : Int), (50 : Int), (100 : Int), (0 : Int), (0 : Int), ()), ((7 : Int), (8 : Int), (108 : Int), (50 : Int), (8 : Int), (0 : Int), ())) : (Str × (Int × Int × Int × Int × Int × Int × Unit) × (Int × Int × Int × Int × Int × Int × Unit))) fun due_1 => y_tracked (answered_1.1, (answered_1.2.1.1, answered_1.2.1.2.1, answered_1.2.1.2.2.1, answered_1.2.1.2.2.2.1, answered_1.2.1.2.2.2.2.1, (some answered_1.2.1.2.2.2.2.2.1), none), (some (answered_1.2.2.1, answered_1.2.2.2.1, answered_1.2.2.2.2.1, answered_1.2.2.2.2.2.1, answered_1.2.2.2.2.2.2.1, (some answered_1.2.2.2.2.2.2.2.1), none))) (0 : Int) (last_1.1, last_1.2.1, last_1.2.2.1, last_1.2.2.2.1, last_1.2.2.2.2.1, last_1.2.2.2.2.2.1, last_1.2.2.2.2.2.2.1, last_1.2.2.2.2.2.2.2.1, [], [last_1.2.2.2.2.2.2.2.2.2.1, last_1.2.2.2.2.2.2.2.2.2.2.1, last_1.2.2.2.2.2.2.2.2.2.2.2]) fun v_9 => sameT 5 ((eT2 PyData.str eTalk) v_9) ((eT2 PyData.str (eT3 PyData.str (eT7 PyData.int PyData.int PyData.int PyData.int PyData.int PyData.int eN) (eT7 PyData.int PyData.int PyData.int PyData.int PyData.int PyData.int eN))) ((Str.ofString "fits"), due_1)) fun v_10 => Q v_10))
def y_law_j2 (talk_3 : Talk) (x_2 : Int) (Q : Bool → Prop) (go0 : Talk → Prop) (segment_2 : Seg) : Prop := y_segment_end segment_2 fun v_20 => y__law_end segment_2 fun v_21 => sameT 5 (PyData.int v_20) (PyData.int v_21) fun v_22 => if (!v_22) = true then (Q false) else (reprT ((eL (eU eD)) [[(PyData.str talk_3.1), (eSide talk_3.2.1), ((eO eSide) talk_3.2.2)], [(PyData.str segment_2.1), (PyData.int segment_2.2.1), (PyData.int segment_2.2.2.1), (PyData.int segment_2.2.2.2.1), (PyData.int segment_2.2.2.2.2.1), (PyData.int segment_2.2.2.2.2.2.1), (PyData.int segment_2.2.2.2.2.2.2.1), (PyData.int segment_2.2.2.2.2.2.2.2.1), ((eU PyData.int) segment_2.2.2.2.2.2.2.2.2.1), ((eU PyData.int) segment_2.2.2.2.2.2.2.2.2.2)]]) fun kept_1 => y__law_track talk_3 x_2 segment_2 fun due_1 => y_tracked talk_3 x_2 segment_2 fun v_25 => sameT 5 ((eT2 PyData.str eTalk) v_25) ((eT2 PyData.str eTalk) due_1) fun v_26 => orT (!v_26) (fun G => reprT ((eL (eU eD)) [[(PyData.str talk_3.1), (eSide talk_3.2.1), ((eO eSide) talk_3.2.2)], [(PyData.str segment_2.1), (PyData.int segment_2.2.1), (PyData.int segment_2.2.2.1), (PyData.int segment_2.2.2.2.1), (PyData.int segment_2.2.2.2.2.1), (PyData.int segment_2.2.2.2.2.2.1), (PyData.int segment_2.2.2.2.2.2.2.1), (PyData.int segment_2.2.2.2.2.2.2.2.1), ((eU PyData.int) segment_2.2.2.2.2.2.2.2.2.1), ((eU PyData.int) segment_2.2.2.2.2.2.2.2.2.2)]]) fun v_27 => G (!decide (v_27 = kept_1))) fun v_28 => if v_28 = true then (Q false) else (letT (due_1.2 : Talk) fun talk_4 => go0 talk_4))
def y_law_j3 (talk_3 : Talk) (Q : Bool → Prop) (go0 : Talk → Prop) (x_2 : Int) : Prop := take0T (3 : Int) fun v_16 => letT (((decide ((0 : Int) < v_16)) && (!decide (talk_3.1 = (Str.ofString "over")))) : Bool) fun good_1 => iteT good_1 (fun G => y__law_good_segment talk_3 x_2 fun v_17 => G v_17) (fun G => y__law_near_segment talk_3 x_2 fun v_18 => G v_18) fun segment_1 => andT (!good_1) (fun G => y__law_form segment_1 fun v_29 => ixT v_29 (2 : Int) fun v_30 => andT (decide (v_30 = (1 : Int))) (fun G => take0T (3 : Int) fun v_31 => G (decide ((0 : Int) < v_31))) fun v_32 => G v_32) fun v_33 => if v_33 = true then (iteT (!decide (talk_3.1 = (Str.ofString "over"))) (fun G => y__law_good_segment talk_3 x_2 fun v_34 => G v_34) (fun G => y__law_near_segment talk_3 x_2 fun v_35 => G v_35) fun segment_3 => y_law_j2 talk_3 x_2 Q go0 segment_3) else (y_law_j2 talk_3 x_2 Q go0 segment_1)
def y_law_l1 (Q : Bool → Prop) (kn : Talk → Prop) : List Int → Talk → Prop
  | [], talk_3 => kn talk_3
  | turn_1 :: r_1, talk_3 => take0T (2 : Int) fun x_1 => andT (decide (talk_3.1 = (Str.ofString "asked"))) (fun G => take0T (2 : Int) fun v_37 => G (decide (v_37 = (0 : Int)))) fun v_38 => if v_38 = true then (letT ((1 : Int) : Int) fun x_3 => y_law_j3 talk_3 Q (y_law_l1 Q kn r_1) x_3) else (y_law_j3 talk_3 Q (y_law_l1 Q kn r_1) x_1)
def y_law (Q : Bool → Prop) : Prop := y__law_worked fun v_1 => if (!v_1) = true then (Q false) else (y__law_start fun v_2 => take0T (3 : Int) fun v_3 => y__law_segment v_2 v_3 (2 : Int) (0 : Int) fun syn_1 => y_segment_end syn_1 fun v_5 => y__law_end syn_1 fun v_6 => sameT 5 (PyData.int v_5) (PyData.int v_6) fun v_7 => orT (!v_7) (fun G => y_begun syn_1 fun v_8 => y__law_begun syn_1 fun v_9 => sameT 5 (eTalk v_8) (eTalk v_9) fun v_10 => G (!v_10)) fun v_11 => if v_11 = true then (Q false) else (y__law_begun syn_1 fun talk_1 => take0T (50 : Int) fun v_14 => (-(2 ^ 62) ≤ ((10 : Int) + v_14) ∧ ((10 : Int) + v_14) < 2 ^ 62) ∧ (y_law_l1 Q (fun (talk_5 : Talk) => Q true) (rngT 0 ((10 : Int) + v_14).toNat) talk_1)))
section
variable {P : Program} {w : World} {K : PySem.W.Frag} {mg : Str → Option Value} {base : Heap}
theorem ok_after (T : Tx K mg) : FnOk P w K mg base CX0 1 T.ad_after T.fd_after ["number", "steps"] (spD K (F2 (pr2 PyData.int PyData.int PyData.int y_after))) := by
  refine T.d_after.F.ok x_after (fun vs H Q E h => spD_len F2_len h) (fun cdv A outer s H vs Q E hr h => ?_)
  have nd := x_after.nd
  refine ⟨_, (pss_one (ps_ret (pe_op op_mod (pe_op op_add (pv 0) (pv 1)) (pe_glob (v := .int 4294967296) rfl T.c_AROUND ⟨_, rfl⟩)))), fn_pure ((rs_ret (ro rv_mod (RfE.b (ro rv_add (RfE.b (rn 0)) (RfE.b (rn 1)))) (RfE.b (rc_int _))))) h (by rw [spD_len F2_len h]; decide) (F2_in fun a0 a1 Qd q => ?_)⟩
  obtain ⟨number_1, steps_1, G, rfl, rfl, q, hQ⟩ := q
  delta y_after at q
  exact (s_ret (e := PyData.int) (w_I (g' := fun i j => i % j) (w_I0 (g' := fun i j => i + j) (w_name (e := PyData.int) (x := number_1) rfl) (w_name (e := PyData.int) (x := steps_1) rfl) (fun _ _ => rfl)) (w_dC (e := PyData.int) (x := (4294967296 : Int)) rfl) (fun _ _ => rfl)) hQ q)
theorem ok_between (T : Tx K mg) : FnOk P w K mg base CX0 1 T.ad_between T.fd_between ["number", "first"] (spD K (F2 (pr2 PyData.int PyData.int PyData.int y_between))) := by
  refine T.d_between.F.ok x_between (fun vs H Q E h => spD_len F2_len h) (fun cdv A outer s H vs Q E hr h => ?_)
  have nd := x_between.nd
  refine ⟨_, (pss_one (ps_ret (pe_op op_mod (pe_op op_sub (pv 0) (pv 1)) (pe_glob (v := .int 4294967296) rfl T.c_AROUND ⟨_, rfl⟩)))), fn_pure ((rs_ret (ro rv_mod (RfE.b (ro rv_sub (RfE.b (rn 0)) (RfE.b (rn 1)))) (RfE.b (rc_int _))))) h (by rw [spD_len F2_len h]; decide) (F2_in fun a0 a1 Qd q => ?_)⟩
  obtain ⟨number_1, first_1, G, rfl, rfl, q, hQ⟩ := q
  delta y_between at q
  exact (s_ret (e := PyData.int) (w_I (g' := fun i j => i % j) (w_I0 (g' := fun i j => i - j) (w_name (e := PyData.int) (x := number_1) rfl) (w_name (e := PyData.int) (x := first_1) rfl) (fun _ _ => rfl)) (w_dC (e := PyData.int) (x := (4294967296 : Int)) rfl) (fun _ _ => rfl)) hQ q)
theorem ok_later (T : Tx K mg) : FnOk P w K mg base CX0 2 T.ad_later T.fd_later ["a", "b"] (spD K (F2 (pr2 PyData.int PyData.int PyData.bool y_later))) := by
  refine T.d_later.F.ok x_later (fun vs H Q E h => spD_len F2_len h) (fun cdv A outer s H vs Q E hr h => ?_)
  have nd := x_later.nd
  refine ⟨_, (pss_one (ps_ret (pe_chain op_lt op_lt pe_int (pe_call (ok_between T) hr (by rfl) T.d_between.g T.d_between.F.kp T.d_between.b .nil pass0 (pa_cons (pv 0) (pa_cons (pv 1) pa_nil))) (pe_glob (v := .int 2147483648) rfl T.c_HALF ⟨_, rfl⟩)))), fn_pure ((rs_ret (re_chain rv_lt rv_lt (RfE.b (rc_int _)) (RfE.b (re_call (raC (rn 0) (raC (rn 1) raN)))) (RfE.b (rc_int _))))) h (by rw [spD_len F2_len h]; decide) (F2_in fun a0 a1 Qd q => ?_)⟩
  obtain ⟨a_1, b_1, G, rfl, rfl, q, hQ⟩ := q
  delta y_later at q
  exact (s_ret (e := PyData.bool) (w_chainP (r := fun a b => decide (a < b)) (r' := fun a b => decide (a < b)) (w_dC (e := PyData.int) (x := (0 : Int)) rfl) (w_call2 (w_name (e := PyData.int) (x := a_1) rfl) (w_name (e := PyData.int) (x := b_1) rfl)) (w_dC (e := PyData.int) (x := (2147483648 : Int)) rfl) (fun _ _ _ q => q) (fun _ _ _ q => q)) hQ q)
theorem ok_later_one (T : Tx K mg) : FnOk P w K mg base CX0 3 T.ad_later_one T.fd_later_one ["a", "b"] (spD K (F2 (pr2 PyData.int PyData.int PyData.int y_later_one))) := by
  refine T.d_later_one.F.ok x_later_one (fun vs H Q E h => spD_len F2_len h) (fun cdv A outer s H vs Q E hr h => ?_)
  have nd := x_later_one.nd
  refine ⟨_, (pss_one (ps_ret (pe_ifExp (pt_val (pe_call (ok_later T) hr (by rfl) T.d_later.g T.d_later.F.kp T.d_later.b .nil pass0 (pa_cons (pv 0) (pa_cons (pv 1) pa_nil)))) (pv 0) (pv 1)))), fn_pure ((rs_ret (re_if (rt_val (re_call (raC (rn 0) (raC (rn 1) raN)))) (rn 0) (rn 1)))) h (by rw [spD_len F2_len h]; decide) (F2_in fun a0 a1 Qd q => ?_)⟩
  obtain ⟨a_1, b_1, G, rfl, rfl, q, hQ⟩ := q
  delta y_later_one at q
  exact (s_ret (e := PyData.int) (w_ifP (t_val (w_call2 (w_name (e := PyData.int) (x := a_1) rfl) (w_name (e := PyData.int) (x := b_1) rfl))) (w_name (e := PyData.int) (x := a_1) rfl) (w_name (e := PyData.int) (x := b_1) rfl)) hQ q)
theorem ok_lies (T : Tx K mg) : FnOk P w K mg base CX0 2 T.ad_lies T.fd_lies ["number", "first", "last"] (spD K (F3 (pr3 PyData.int PyData.int PyData.int PyData.bool y_lies))) := by
  refine T.d_lies.F.ok x_lies (fun vs H Q E h => spD_len F3_len h) (fun cdv A outer s H vs Q E hr h => ?_)
  have nd := x_lies.nd
  refine ⟨_, (pss_one (ps_ret (pe_cmpR op_le (pe_call (ok_between T) hr (by rfl) T.d_between.g T.d_between.F.kp T.d_between.b .nil pass0 (pa_cons (pv 0) (pa_cons (pv 1) pa_nil))) (pe_call (ok_between T) hr (by rfl) T.d_between.g T.d_between.F.kp T.d_between.b .nil pass0 (pa_cons (pv 2) (pa_cons (pv 1) pa_nil))) (nomark _)))), fn_pure ((rs_ret (ro rv_le (RfE.b (re_call (raC (rn 0) (raC (rn 1) raN)))) (RfE.b (re_call (raC (rn 2) (raC (rn 1) raN))))))) h (by rw [spD_len F3_len h]; decide) (F3_in fun a0 a1 a2 Qd q => ?_)⟩
  obtain ⟨number_1, first_1, last_1, G, rfl, rfl, rfl, q, hQ⟩ := q
  delta y_lies at q
  exact (s_ret (e := PyData.bool) (w_I0 (g' := fun i j => decide (i ≤ j)) (w_call2 (w_name (e := PyData.int) (x := number_1) rfl) (w_name (e := PyData.int) (x := first_1) rfl)) (w_call2 (w_name (e := PyData.int) (x := last_1) rfl) (w_name (e := PyData.int) (x := first_1) rfl)) (fun _ _ => rfl)) hQ q)
theorem ok_length_at (T : Tx K mg) : FnOk P w K mg base CX0 1 T.ad_length_at T.fd_length_at ["options", "at"] (spD K (F2 (pr2 (eU PyData.int) PyData.int (eO PyData.int) y__length_at))) := by
  refine T.d_length_at.F.ok x_length_at (fun vs H Q E h => spD_len F2_len h) (fun cdv A outer s H vs Q E hr h => ?_)
  have nd := x_length_at.nd
  refine ⟨_, (pss_cons (ps_if (pt_cmpR op_eq (pe_ix ix_seq (pv 0) (pv 1) (fun _ _ => rfl)) pe_int (nomark _)) (pss_one (ps_ret pe_int)) pss_nil)
        (pss_cons (ps_if (pt_cmpR op_eq (pe_op op_add (pv 1) pe_int) (pe_callB call_len_seq (by rfl) T.b_len (by decide +kernel) (pa_cons (pv 0) pa_nil)) (nomark _)) (pss_one (ps_ret pe_non)) pss_nil)
        (pss_cons (ps_set (i := 2) nd rfl (Or.inl rfl) (pe_ix ix_seq (pv 0) (pe_op op_add (pv 1) pe_int) (fun _ _ => rfl)))
        (pss_cons (ps_if (PW.pt (pw_or (pt_cmpR op_lt (pv 2) pe_int (nomark _)) (pw_or1 (pt_cmpR op_gt (pe_op op_add (pv 1) (pv 2)) (pe_callB call_len_seq (by rfl) T.b_len (by decide +kernel) (pa_cons (pv 0) pa_nil)) (nomark _))))) (pss_one (ps_ret pe_non)) pss_nil)
        (pss_one (ps_ret (pv 2))))))), fn_pure ((rs_seq (rs_if (rt_test (ro rv_eq (RfE.b (ro rv_ix (RfE.b (rn 0)) (RfE.b (rn 1)))) (RfE.b (rc_int _)))) (rs_ret (rc_int _)) rs_next)
        (rs_seq (rs_if (rt_test (ro rv_eq (RfE.b (ro rv_add (RfE.b (rn 1)) (RfE.b (rc_int _)))) (RfE.b (re_cb ro_len (rbC (RfE.b (rn 0)) rbN))))) (rs_ret rc_non) rs_next)
        (rs_seq (rs_asg (ro rv_ix (RfE.b (rn 0)) (RfE.b (ro rv_add (RfE.b (rn 1)) (RfE.b (rc_int _))))) (rg_name 2))
        (rs_seq (rs_if (rt_or (rt_test (ro rv_lt (RfE.b (rn 2)) (RfE.b (rc_int _)))) (rt_test (ro rv_gt (RfE.b (ro rv_add (RfE.b (rn 1)) (RfE.b (rn 2)))) (RfE.b (re_cb ro_len (rbC (RfE.b (rn 0)) rbN)))))) (rs_ret rc_non) rs_next)
        (rs_ret (rn 2))))))) h (by rw [spD_len F2_len h]; decide) (F2_in fun a0 a1 Qd q => ?_)⟩
  obtain ⟨options_1, at_1, G, rfl, rfl, q, hQ⟩ := q
  delta y__length_at at q
  exact (s_seq0 (s_if (t_val (w_eqS (r := fun (a : Int) (b : Int) => decide (a = b)) (w_ix (e := PyData.int) (w_name (e := (eU PyData.int)) (x := options_1) rfl) (w_name (e := PyData.int) (x := at_1) rfl) (fun _ => rfl)) (w_dC (e := PyData.int) (x := (1 : Int)) rfl) r_I)) (fun q => (s_ret (e := (eO PyData.int)) (w_co (e := PyData.int) (e' := (eO PyData.int)) (fun a : Int => ((some a) : (Option Int))) (w_dC (e := PyData.int) (x := (1 : Int)) rfl) (fun _ => rfl)) hQ q)) (fun q => (s_next (s_seq0 (s_if (t_val (w_eqS (r := fun (a : Int) (b : Int) => decide (a = b)) (w_I0 (g' := fun i j => i + j) (w_name (e := PyData.int) (x := at_1) rfl) (w_dC (e := PyData.int) (x := (1 : Int)) rfl) (fun _ _ => rfl)) (w_len (e := PyData.int) (w_name (e := (eU PyData.int)) (x := options_1) rfl) (fun _ => rfl)) r_I)) (fun q => (s_ret (e := (eO PyData.int)) (w_co (e := eN) (e' := (eO PyData.int)) (fun a : Unit => (none : (Option Int))) (w_dC (e := eN) (x := ()) rfl) (fun _ => rfl)) hQ q)) (fun q => (s_next (s_seq0 (s_asg (e := PyData.int) (w_ix (e := PyData.int) (w_name (e := (eU PyData.int)) (x := options_1) rfl) (w_I0 (g' := fun i j => i + j) (w_name (e := PyData.int) (x := at_1) rfl) (w_dC (e := PyData.int) (x := (1 : Int)) rfl) (fun _ _ => rfl)) (fun _ => rfl)) (fun length_1 : Int => [sv ((eU PyData.int) options_1), sv (PyData.int at_1), sv (PyData.int length_1)]) (fun _ => rfl) (fun length_1 q => (s_seq0 (s_if (t_orP (t_val (w_I0 (g' := fun i j => decide (i < j)) (w_name (e := PyData.int) (x := length_1) rfl) (w_dC (e := PyData.int) (x := (2 : Int)) rfl) (fun _ _ => rfl))) (t_val (w_I0 (g' := fun i j => decide (j < i)) (w_I0 (g' := fun i j => i + j) (w_name (e := PyData.int) (x := at_1) rfl) (w_name (e := PyData.int) (x := length_1) rfl) (fun _ _ => rfl)) (w_len (e := PyData.int) (w_name (e := (eU PyData.int)) (x := options_1) rfl) (fun _ => rfl)) (fun _ _ => rfl)))) (fun q => (s_ret (e := (eO PyData.int)) (w_co (e := eN) (e' := (eO PyData.int)) (fun a : Unit => (none : (Option Int))) (w_dC (e := eN) (x := ()) rfl) (fun _ => rfl)) hQ q)) (fun q => (s_next (s_ret (e := (eO PyData.int)) (w_co (e := PyData.int) (e' := (eO PyData.int)) (fun a : Int => ((some a) : (Option Int))) (w_name (e := PyData.int) (x := length_1) rfl) (fun _ => rfl)) hQ q))) q))) q)))) q)))) q))
theorem ok_shift_of (T : Tx K mg) : FnOk P w K mg base CX0 2 T.ad_shift_of T.fd_shift_of ["options"] (spD K (F1 (pr1 (eU PyData.int) (eO PyData.int) y_shift_of))) := by
  refine T.d_shift_of.F.ok x_shift_of (fun vs H Q E h => spD_len F1_len h) (fun cdv A outer s H vs Q E hr h => ?_)
  have nd := x_shift_of.nd
  refine ⟨_, (pss_cons (ps_set (i := 1) nd rfl (Or.inl rfl) pe_int)
        (pss_cons (ps_while PassesOwn.never (PW.pt (pw_and (pt_cmpR op_lt (pv 1) (pe_callB call_len_seq (by rfl) T.b_len (by decide +kernel) (pa_cons (pv 0) pa_nil)) (nomark _)) (pw_and1 (pt_cmpR op_ne (pe_ix ix_seq (pv 0) (pv 1) (fun _ _ => rfl)) pe_int (nomark _))))) (pss_cons (ps_set (i := 2) nd rfl (Or.inl rfl) (pe_call (ok_length_at T) hr (by rfl) T.d_length_at.g T.d_length_at.F.kp T.d_length_at.b .nil pass0 (pa_cons (pv 0) (pa_cons (pv 1) pa_nil))))
        (pss_cons (ps_if (pt_cmpR op_isN (pv 2) pe_non (nomark _)) (pss_one (ps_ret pe_non)) pss_nil)
        (pss_cons (ps_if (PW.pt (pw_and (pt_cmpR op_eq (pe_ix ix_seq (pv 0) (pv 1) (fun _ _ => rfl)) pe_int (nomark _)) (pw_and1 (pt_cmpR op_eq (pv 2) pe_int (nomark _))))) (pss_one (ps_ret (pe_callB (call_min2 rfl) (by rfl) T.b_min (by decide +kernel) (pa_cons (pe_ix ix_seq (pv 0) (pe_op op_add (pv 1) pe_int) (fun _ _ => rfl)) (pa_cons pe_int pa_nil))))) pss_nil)
        (pss_one (ps_aug (i := 1) nd rfl (Or.inl rfl) (pv 2) ip_add))))))
        (pss_one (ps_ret pe_non)))), fn_pure ((rs_seq (rs_asg (rc_int _) (rg_name 1))
        (rs_seq (rs_while (rt_and (rt_test (ro rv_lt (RfE.b (rn 1)) (RfE.b (re_cb ro_len (rbC (RfE.b (rn 0)) rbN))))) (rt_test (ro rv_ne (RfE.b (ro rv_ix (RfE.b (rn 0)) (RfE.b (rn 1)))) (RfE.b (rc_int _))))) (rs_seq (rs_asg (re_call (raC (rn 0) (raC (rn 1) raN))) (rg_name 2))
        (rs_seq (rs_if (rt_test (ro rv_isN (RfE.b (rn 2)) (RfE.b rc_non))) (rs_ret rc_non) rs_next)
        (rs_seq (rs_if (rt_and (rt_test (ro rv_eq (RfE.b (ro rv_ix (RfE.b (rn 0)) (RfE.b (rn 1)))) (RfE.b (rc_int _)))) (rt_test (ro rv_eq (RfE.b (rn 2)) (RfE.b (rc_int _))))) (rs_ret (re_cb ro_min (rbC (RfE.b (ro rv_ix (RfE.b (rn 0)) (RfE.b (ro rv_add (RfE.b (rn 1)) (RfE.b (rc_int _)))))) (rbC (RfE.b (rc_int _)) rbN)))) rs_next)
        (rs_aug 1 (rn 2))))))
        (rs_ret rc_non)))) h (by rw [spD_len F1_len h]; decide) (F1_in fun a0 Qd q => ?_)⟩
  obtain ⟨options_1, G, rfl, q, hQ⟩ := q
  delta y_shift_of at q
  exact (s_seq0 (s_asg (e := PyData.int) (w_dC (e := PyData.int) (x := (0 : Int)) rfl) (fun at_1 : Int => [sv ((eU PyData.int) options_1), sv (PyData.int at_1), none]) (fun _ => rfl) (fun at_1 q => (s_seq0 (s_whileE (fun (s_1 : Int) => (fun (at_5 : Int) => G none) s_1) (fun (s_1 : Int) (u_4 : Option D) => [sv ((eU PyData.int) options_1), sv (PyData.int s_1), (Option.map En.d u_4)]) (fun (W : Nat → Int → Prop) (m : Nat) (s_1 : Int) => y_shift_of_w1_b options_1 G (fun (at_5 : Int) => G none) (fun m at_3 => W m at_3) m s_1) at_1 none rfl (fun s_1 u_4 q => (s_ret (e := (eO PyData.int)) (w_co (e := eN) (e' := (eO PyData.int)) (fun a : Unit => (none : (Option Int))) (w_dC (e := eN) (x := ()) rfl) (fun _ => rfl)) hQ q)) (fun W m s_1 u_4 N_1 B_1 hN_1 hB_1 q => (s_cond (t_and (t_val (w_I0 (g' := fun i j => decide (i < j)) (w_name (e := PyData.int) (x := s_1) rfl) (w_len (e := PyData.int) (w_name (e := (eU PyData.int)) (x := options_1) rfl) (fun _ => rfl)) (fun _ _ => rfl))) (t_val (w_neS (r := fun (a : Int) (b : Int) => decide (a = b)) (w_ix (e := PyData.int) (w_name (e := (eU PyData.int)) (x := options_1) rfl) (w_name (e := PyData.int) (x := s_1) rfl) (fun _ => rfl)) (w_dC (e := PyData.int) (x := (0 : Int)) rfl) r_I))) (fun q => (s_seq0 (s_asg (e := (eO PyData.int)) (w_call2 (w_name (e := (eU PyData.int)) (x := options_1) rfl) (w_name (e := PyData.int) (x := s_1) rfl)) (fun length_1 : (Option Int) => [sv ((eU PyData.int) options_1), sv (PyData.int s_1), sv ((eO PyData.int) length_1)]) (fun _ => rfl) (fun length_1 q => (s_seq0 (s_if (t_val (w_isN (r := fun a : (Option Int) => a.isNone) (w_name (e := (eO PyData.int)) (x := length_1) rfl) (n_O (fun _ => rfl)))) (fun q => (s_ret (e := (eO PyData.int)) (w_co (e := eN) (e' := (eO PyData.int)) (fun a : Unit => (none : (Option Int))) (w_dC (e := eN) (x := ()) rfl) (fun _ => rfl)) hQ q)) (fun q => (s_next (s_seq0 (s_if (t_andP (t_val (w_eqS (r := fun (a : Int) (b : Int) => decide (a = b)) (w_ix (e := PyData.int) (w_name (e := (eU PyData.int)) (x := options_1) rfl) (w_name (e := PyData.int) (x := s_1) rfl) (fun _ => rfl)) (w_dC (e := PyData.int) (x := (3 : Int)) rfl) r_I)) (t_val (w_eqS (r := fun (a : (Option Int)) (b : Int) => decide (a = some b)) (w_name (e := (eO PyData.int)) (x := length_1) rfl) (w_dC (e := PyData.int) (x := (3 : Int)) rfl) r_OI))) (fun q => (s_ret (e := (eO PyData.int)) (w_co (e := PyData.int) (e' := (eO PyData.int)) (fun a : Int => ((some a) : (Option Int))) (w_I2 (w_ix (e := PyData.int) (w_name (e := (eU PyData.int)) (x := options_1) rfl) (w_I0 (g' := fun i j => i + j) (w_name (e := PyData.int) (x := s_1) rfl) (w_dC (e := PyData.int) (x := (2 : Int)) rfl) (fun _ _ => rfl)) (fun _ => rfl)) (w_dC (e := PyData.int) (x := (14 : Int)) rfl)) (fun _ => rfl)) hQ q)) (fun q => (s_next (s_aug (x := s_1) rfl (w_get (e := PyData.int) (w_name (e := (eO PyData.int)) (x := length_1) rfl)) (fun at_4 => [sv ((eU PyData.int) options_1), sv (PyData.int at_4), sv ((eO PyData.int) length_1)]) (fun _ => rfl) (fun at_4 q => (Exists.elim q fun m' w => hN_1 m' at_4 (some ((eO PyData.int) length_1)) w)) q))) q)))) q))) q))) (fun q => (hB_1 s_1 u_4 q)) q)) (by obtain ⟨W, h0, hW⟩ := q; exact ⟨fun m s_1 => W m s_1, h0, fun m s_1 w => hW m s_1 w⟩)))) q))
theorem ok_segment_end (T : Tx K mg) : FnOk P w K mg base CX0 2 T.ad_segment_end T.fd_segment_end ["segment"] (spD K (F1 (pr1 eSeg PyData.int y_segment_end))) := by
  refine T.d_segment_end.F.ok x_segment_end (fun vs H Q E h => spD_len F1_len h) (fun cdv A outer s H vs Q E hr h => ?_)
  have nd := x_segment_end.nd
  refine ⟨_, (pss_cons (ps_set (i := 1) nd rfl (Or.inl rfl) (pe_ix ix_seq (pv 0) (pe_glob (v := .int 5) rfl T.c_FLAGS ⟨_, rfl⟩) (fun _ _ => rfl)))
        (pss_cons (ps_set (i := 2) nd rfl (Or.inl rfl) (pe_op op_add (pe_ifExp (pt_truth (pe_op op_and (pv 1) pe_int) (by intro _; rfl)) pe_int pe_int) (pe_op op_and (pv 1) pe_int)))
        (pss_one (ps_ret (pe_call (ok_after T) hr (by rfl) T.d_after.g T.d_after.F.kp T.d_after.b .nil pass0 (pa_cons (pe_ix ix_seq (pv 0) (pe_glob (v := .int 3) rfl T.c_SEQ ⟨_, rfl⟩) (fun _ _ => rfl)) (pa_cons (pe_op op_add (pe_callB call_len_seq (by rfl) T.b_len (by decide +kernel) (pa_cons (pe_ix ix_seq (pv 0) (pe_glob (v := .int 9) rfl T.c_DATA ⟨_, rfl⟩) (fun _ _ => rfl)) pa_nil)) (pv 2)) pa_nil))))))), fn_pure ((rs_seq (rs_asg (ro rv_ix (RfE.b (rn 0)) (RfE.b (rc_int _))) (rg_name 1))
        (rs_seq (rs_asg (ro rv_add (RfE.b (re_if (rt_tru (RfE.b (ro rv_and (RfE.b (rn 1)) (RfE.b (rc_int _))))) (rc_int _) (rc_int _))) (RfE.b (ro rv_and (RfE.b (rn 1)) (RfE.b (rc_int _))))) (rg_name 2))
        (rs_ret (re_call (raC (ro rv_ix (RfE.b (rn 0)) (RfE.b (rc_int _))) (raC (ro rv_add (RfE.b (re_cb ro_len (rbC (RfE.b (ro rv_ix (RfE.b (rn 0)) (RfE.b (rc_int _)))) rbN))) (RfE.b (rn 2))) raN))))))) h (by rw [spD_len F1_len h]; decide) (F1_in fun a0 Qd q => ?_)⟩
  obtain ⟨segment_1, G, rfl, q, hQ⟩ := q
  delta y_segment_end at q
  exact (s_seq0 (s_asg (e := PyData.int) (w_prj (e := eSeg) (e' := PyData.int) 5 (fun p : Seg => p.2.2.2.2.2.1) (w_name (e := eSeg) (x := segment_1) rfl) (fun _ => ⟨_, rfl, dix_nn (by decide) rfl⟩)) (fun flags_1 : Int => [sv (eSeg segment_1), sv (PyData.int flags_1), none]) (fun _ => rfl) (fun flags_1 q => (s_seq0 (s_asg (e := PyData.int) (w_I0 (g' := fun i j => i + j) (w_ifP (t_tru (tr_of tr_I (w_I0 (g' := Builtin.bitAnd) (w_name (e := PyData.int) (x := flags_1) rfl) (w_dC (e := PyData.int) (x := (2 : Int)) rfl) (fun _ _ => rfl)))) (w_dC (e := PyData.int) (x := (1 : Int)) rfl) (w_dC (e := PyData.int) (x := (0 : Int)) rfl)) (w_I0 (g' := Builtin.bitAnd) (w_name (e := PyData.int) (x := flags_1) rfl) (w_dC (e := PyData.int) (x := (1 : Int)) rfl) (fun _ _ => rfl)) (fun _ _ => rfl)) (fun marks_1 : Int => [sv (eSeg segment_1), sv (PyData.int flags_1), sv (PyData.int marks_1)]) (fun _ => rfl) (fun marks_1 q => (s_ret (e := PyData.int) (w_call2 (w_prj (e := eSeg) (e' := PyData.int) 3 (fun p : Seg => p.2.2.2.1) (w_name (e := eSeg) (x := segment_1) rfl) (fun _ => ⟨_, rfl, dix_nn (by decide) rfl⟩)) (w_I0 (g' := fun i j => i + j) (w_len (e := PyData.int) (w_prj (e := eSeg) (e' := (eU PyData.int)) 9 (fun p : Seg => p.2.2.2.2.2.2.2.2.2) (w_name (e := eSeg) (x := segment_1) rfl) (fun _ => ⟨_, rfl, dix_nn (by decide) rfl⟩)) (fun _ => rfl)) (w_name (e := PyData.int) (x := marks_1) rfl) (fun _ _ => rfl))) hQ q)) q))) q))
theorem ok_width (T : Tx K mg) : FnOk P w K mg base CX0 1 T.ad_width T.fd_width ["window"] (spD K (F1 (pr1 PyData.int PyData.int y__width))) := by
  refine T.d_width.F.ok x_width (fun vs H Q E h => spD_len F1_len h) (fun cdv A outer s H vs Q E hr h => ?_)
  have nd := x_width.nd
  refine ⟨_, (pss_one (ps_ret (pe_callB (call_max2 rfl) (by rfl) T.b_max (by decide +kernel) (pa_cons (pv 0) (pa_cons pe_int pa_nil))))), fn_pure ((rs_ret (re_cb ro_max (rbC (RfE.b (rn 0)) (rbC (RfE.b (rc_int _)) rbN))))) h (by rw [spD_len F1_len h]; decide) (F1_in fun a0 Qd q => ?_)⟩
  obtain ⟨window_1, G, rfl, q, hQ⟩ := q
  delta y__width at q
  exact (s_ret (e := PyData.int) (w_I2 (w_name (e := PyData.int) (x := window_1) rfl) (w_dC (e := PyData.int) (x := (1 : Int)) rfl)) hQ q)
theorem ok_begun (T : Tx K mg) : FnOk P w K mg base CX0 3 T.ad_begun T.fd_begun ["segment"] (spD K (F1 (pr1 eSeg eTalk y_begun))) := by
  refine T.d_begun.F.ok x_begun (fun vs H Q E h => spD_len F1_len h) (fun cdv A outer s H vs Q E hr h => ?_)
  have nd := x_begun.nd
  refine ⟨_, (pss_cons (ps_par (i := 1) (j := 2) (by rfl) nd rfl rfl (by decide) rfl rfl (pa_cons (pe_ix ix_seq (pv 0) (pe_glob (v := .int 3) rfl T.c_SEQ ⟨_, rfl⟩) (fun _ _ => rfl)) (pa_cons (pe_call (ok_width T) (hr.mono (by decide)) (by rfl) T.d_width.g T.d_width.F.kp T.d_width.b .nil pass0 (pa_cons (pe_ix ix_seq (pv 0) (pe_glob (v := .int 6) rfl T.c_WINDOW ⟨_, rfl⟩) (fun _ _ => rfl)) pa_nil)) pa_nil)) (by rfl))
        (pss_cons (ps_set (i := 3) nd rfl (Or.inl rfl) (pe_call (ok_after T) (hr.mono (by decide)) (by rfl) T.d_after.g T.d_after.F.kp T.d_after.b .nil pass0 (pa_cons (pv 1) (pa_cons pe_int pa_nil))))
        (pss_one (ps_ret (pe_tup (pa_cons pe_str (pa_cons (pe_tup (pa_cons (pv 1) (pa_cons (pv 3) (pa_cons (pv 3) (pa_cons (pv 2) (pa_cons (pv 1) (pa_cons (pe_call (ok_shift_of T) hr (by rfl) T.d_shift_of.g T.d_shift_of.F.kp T.d_shift_of.b .nil pass0 (pa_cons (pe_ix ix_seq (pv 0) (pe_glob (v := .int 8) rfl T.c_OPTIONS ⟨_, rfl⟩) (fun _ _ => rfl)) pa_nil)) (pa_cons pe_non pa_nil)))))))) (pa_cons pe_non pa_nil)))))))), fn_pure ((rs_seq (rs_par 1 2 (raC (ro rv_ix (RfE.b (rn 0)) (RfE.b (rc_int _))) (raC (re_call (raC (ro rv_ix (RfE.b (rn 0)) (RfE.b (rc_int _))) raN)) raN)))
        (rs_seq (rs_asg (re_call (raC (rn 1) (raC (rc_int _) raN))) (rg_name 3))
        (rs_ret (re_tup (raC (rc_str _) (raC (re_tup (raC (rn 1) (raC (rn 3) (raC (rn 3) (raC (rn 2) (raC (rn 1) (raC (re_call (raC (ro rv_ix (RfE.b (rn 0)) (RfE.b (rc_int _))) raN)) (raC rc_non raN)))))))) (raC rc_non raN)))))))) h (by rw [spD_len F1_len h]; decide) (F1_in fun a0 Qd q => ?_)⟩
  obtain ⟨segment_1, G, rfl, q, hQ⟩ := q
  delta y_begun at q
  exact (s_seq0 (s_par (e := PyData.int) (e' := PyData.int) (w_prj (e := eSeg) (e' := PyData.int) 3 (fun p : Seg => p.2.2.2.1) (w_name (e := eSeg) (x := segment_1) rfl) (fun _ => ⟨_, rfl, dix_nn (by decide) rfl⟩)) (w_call1 (w_prj (e := eSeg) (e' := PyData.int) 6 (fun p : Seg => p.2.2.2.2.2.2.1) (w_name (e := eSeg) (x := segment_1) rfl) (fun _ => ⟨_, rfl, dix_nn (by decide) rfl⟩))) (fun start_1 wide_1 => [sv (eSeg segment_1), sv (PyData.int start_1), sv (PyData.int wide_1), none]) (fun _ _ => rfl) (fun start_1 wide_1 q => (s_seq0 (s_asg (e := PyData.int) (w_call2 (w_name (e := PyData.int) (x := start_1) rfl) (w_dC (e := PyData.int) (x := (1 : Int)) rfl)) (fun end_1 : Int => [sv (eSeg segment_1), sv (PyData.int start_1), sv (PyData.int wide_1), sv (PyData.int end_1)]) (fun _ => rfl) (fun end_1 q => (s_ret (e := eTalk) (w_tup3 (w_dC (e := PyData.str) (x := (Str.ofString "asked")) rfl) (w_tup7 (w_name (e := PyData.int) (x := start_1) rfl) (w_name (e := PyData.int) (x := end_1) rfl) (w_name (e := PyData.int) (x := end_1) rfl) (w_name (e := PyData.int) (x := wide_1) rfl) (w_name (e := PyData.int) (x := start_1) rfl) (w_call1 (w_prj (e := eSeg) (e' := (eU PyData.int)) 8 (fun p : Seg => p.2.2.2.2.2.2.2.2.1) (w_name (e := eSeg) (x := segment_1) rfl) (fun _ => ⟨_, rfl, dix_nn (by decide) rfl⟩))) (w_co (e := eN) (e' := (eO PyData.int)) (fun a : Unit => (none : (Option Int))) (w_dC (e := eN) (x := ()) rfl) (fun _ => rfl))) (w_co (e := eN) (e' := (eO eSide)) (fun a : Unit => (none : (Option Side))) (w_dC (e := eN) (x := ()) rfl) (fun _ => rfl))) hQ q)) q))) q))
theorem ok_form (T : Tx K mg) : FnOk P w K mg base CX0 1 T.ad_form T.fd_form ["segment"] (spD K (F1 (pr1 eSeg PyData.int y__form))) := by
  refine T.d_form.F.ok x_form (fun vs H Q E h => spD_len F1_len h) (fun cdv A outer s H vs Q E hr h => ?_)
  have nd := x_form.nd
  refine ⟨_, (pss_one (ps_ret (pe_op op_and (pe_ix ix_seq (pv 0) (pe_glob (v := .int 5) rfl T.c_FLAGS ⟨_, rfl⟩) (fun _ _ => rfl)) pe_int))), fn_pure ((rs_ret (ro rv_and (RfE.b (ro rv_ix (RfE.b (rn 0)) (RfE.b (rc_int _)))) (RfE.b (rc_int _))))) h (by rw [spD_len F1_len h]; decide) (F1_in fun a0 Qd q => ?_)⟩
  obtain ⟨segment_1, G, rfl, q, hQ⟩ := q
  delta y__form at q
  exact (s_ret (e := PyData.int) (w_I0 (g' := Builtin.bitAnd) (w_prj (e := eSeg) (e' := PyData.int) 5 (fun p : Seg => p.2.2.2.2.2.1) (w_name (e := eSeg) (x := segment_1) rfl) (fun _ => ⟨_, rfl, dix_nn (by decide) rfl⟩)) (w_dC (e := PyData.int) (x := (23 : Int)) rfl) (fun _ _ => rfl)) hQ q)
theorem ok_is_odd (T : Tx K mg) : FnOk P w K mg base CX0 2 T.ad_is_odd T.fd_is_odd ["segment"] (spD K (F1 (pr1 eSeg PyData.bool y__is_odd))) := by
  refine T.d_is_odd.F.ok x_is_odd (fun vs H Q E h => spD_len F1_len h) (fun cdv A outer s H vs Q E hr h => ?_)
  have nd := x_is_odd.nd
  refine ⟨_, (pss_cons (ps_set (i := 1) nd rfl (Or.inl rfl) (pe_call (ok_form T) hr (by rfl) T.d_form.g T.d_form.F.kp T.d_form.b .nil pass0 (pa_cons (pv 0) pa_nil)))
        (pss_cons (ps_if (pt_cmpR op_in_seq (pv 1) (pe_tup (pa_cons (pe_glob (v := .int 2) rfl T.c_SYN ⟨_, rfl⟩) (pa_cons (pe_glob (v := .int 18) rfl T.c_SYN_ACK ⟨_, rfl⟩) pa_nil))) (by rfl)) (pss_one (ps_ret (pe_cmpR op_gt (pe_callB call_len_seq (by rfl) T.b_len (by decide +kernel) (pa_cons (pe_ix ix_seq (pv 0) (pe_glob (v := .int 9) rfl T.c_DATA ⟨_, rfl⟩) (fun _ _ => rfl)) pa_nil)) pe_int (nomark _)))) pss_nil)
        (pss_one (ps_ret (pe_cmpR op_notIn_seq (pv 1) (pe_tup (pa_cons (pe_glob (v := .int 16) rfl T.c_ACK ⟨_, rfl⟩) (pa_cons (pe_glob (v := .int 17) rfl T.c_FIN_ACK ⟨_, rfl⟩) (pa_cons (pe_glob (v := .int 4) rfl T.c_RST ⟨_, rfl⟩) (pa_cons (pe_glob (v := .int 20) rfl T.c_RST_ACK ⟨_, rfl⟩) pa_nil))))) (by rfl)))))), fn_pure ((rs_seq (rs_asg (re_call (raC (rn 0) raN)) (rg_name 1))
        (rs_seq (rs_if (rt_test (ro (rv_in false) (RfE.b (rn 1)) (RfE.b (re_tup (raC (rc_int _) (raC (rc_int _) raN)))))) (rs_ret (ro rv_gt (RfE.b (re_cb ro_len (rbC (RfE.b (ro rv_ix (RfE.b (rn 0)) (RfE.b (rc_int _)))) rbN))) (RfE.b (rc_int _)))) rs_next)
        (rs_ret (ro (rv_in true) (RfE.b (rn 1)) (RfE.b (re_tup (raC (rc_int _) (raC (rc_int _) (raC (rc_int _) (raC (rc_int _) raN))))))))))) h (by rw [spD_len F1_len h]; decide) (F1_in fun a0 Qd q => ?_)⟩
  obtain ⟨segment_1, G, rfl, q, hQ⟩ := q
  delta y__is_odd at q
  exact (s_seq0 (s_asg (e := PyData.int) (w_call1 (w_name (e := eSeg) (x := segment_1) rfl)) (fun form_1 : Int => [sv (eSeg segment_1), sv (PyData.int form_1)]) (fun _ => rfl) (fun form_1 q => (s_seq0 (s_if (t_val (w_in fl_I (w_name (e := PyData.int) (x := form_1) rfl) (w_co (e := (eT2 PyData.int PyData.int)) (e' := (eU PyData.int)) (fun a : (Int × Int) => ([a.1, a.2] : (List Int))) (w_tup2 (w_dC (e := PyData.int) (x := (2 : Int)) rfl) (w_dC (e := PyData.int) (x := (18 : Int)) rfl)) (fun _ => rfl)) (fun _ => rfl))) (fun q => (s_ret (e := PyData.bool) (w_I0 (g' := fun i j => decide (j < i)) (w_len (e := PyData.int) (w_prj (e := eSeg) (e' := (eU PyData.int)) 9 (fun p : Seg => p.2.2.2.2.2.2.2.2.2) (w_name (e := eSeg) (x := segment_1) rfl) (fun _ => ⟨_, rfl, dix_nn (by decide) rfl⟩)) (fun _ => rfl)) (w_dC (e := PyData.int) (x := (0 : Int)) rfl) (fun _ _ => rfl)) hQ q)) (fun q => (s_next (s_ret (e := PyData.bool) (w_nin fl_I (w_name (e := PyData.int) (x := form_1) rfl) (w_co (e := (eT4 PyData.int PyData.int PyData.int PyData.int)) (e' := (eU PyData.int)) (fun a : (Int × Int × Int × Int) => ([a.1, a.2.1, a.2.2.1, a.2.2.2] : (List Int))) (w_tup4 (w_dC (e := PyData.int) (x := (16 : Int)) rfl) (w_dC (e := PyData.int) (x := (17 : Int)) rfl) (w_dC (e := PyData.int) (x := (4 : Int)) rfl) (w_dC (e := PyData.int) (x := (20 : Int)) rfl)) (fun _ => rfl)) (fun _ => rfl)) hQ q))) q))) q))
theorem ok_is_first_syn (T : Tx K mg) : FnOk P w K mg base CX0 2 T.ad_is_first_syn T.fd_is_first_syn ["talk", "x", "segment"] (spD K (F3 (pr3 eTalk PyData.int eSeg PyData.bool y__is_first_syn))) := by
  refine T.d_is_first_syn.F.ok x_is_first_syn (fun vs H Q E h => spD_len F3_len h) (fun cdv A outer s H vs Q E hr h => ?_)
  have nd := x_is_first_syn.nd
  refine ⟨_, (pss_one (ps_ret (pe_and (pe_cmpR op_eq (pv 1) pe_int (nomark _)) (pe_and (pe_cmpR op_eq (pe_call (ok_form T) hr (by rfl) T.d_form.g T.d_form.F.kp T.d_form.b .nil pass0 (pa_cons (pv 2) pa_nil)) (pe_glob (v := .int 2) rfl T.c_SYN ⟨_, rfl⟩) (nomark _)) (pe_one (pe_cmpR op_eq (pe_ix ix_seq (pv 2) (pe_glob (v := .int 3) rfl T.c_SEQ ⟨_, rfl⟩) (fun _ _ => rfl)) (pe_ix ix_seq (pe_ix ix_seq (pv 0) pe_int (fun _ _ => rfl)) (pe_glob (v := .int 0) rfl T.c_START ⟨_, rfl⟩) (fun _ _ => rfl)) (nomark _))))))), fn_pure ((rs_ret (re_and (ro rv_eq (RfE.b (rn 1)) (RfE.b (rc_int _))) (re_and (ro rv_eq (RfE.b (re_call (raC (rn 2) raN))) (RfE.b (rc_int _))) (ro rv_eq (RfE.b (ro rv_ix (RfE.b (rn 2)) (RfE.b (rc_int _)))) (RfE.b (ro rv_ix (RfE.b (ro rv_ix (RfE.b (rn 0)) (RfE.b (rc_int _)))) (RfE.b (rc_int _))))))))) h (by rw [spD_len F3_len h]; decide) (F3_in fun a0 a1 a2 Qd q => ?_)⟩
  obtain ⟨talk_1, x_1, segment_1, G, rfl, rfl, rfl, q, hQ⟩ := q
  delta y__is_first_syn at q
  exact (s_ret (e := PyData.bool) (w_and (w_eqS (r := fun (a : Int) (b : Int) => decide (a = b)) (w_name (e := PyData.int) (x := x_1) rfl) (w_dC (e := PyData.int) (x := (0 : Int)) rfl) r_I) (w_andP (w_eqS (r := fun (a : Int) (b : Int) => decide (a = b)) (w_call1 (w_name (e := eSeg) (x := segment_1) rfl)) (w_dC (e := PyData.int) (x := (2 : Int)) rfl) r_I) (w_eqS (r := fun (a : Int) (b : Int) => decide (a = b)) (w_prj (e := eSeg) (e' := PyData.int) 3 (fun p : Seg => p.2.2.2.1) (w_name (e := eSeg) (x := segment_1) rfl) (fun _ => ⟨_, rfl, dix_nn (by decide) rfl⟩)) (w_prj (e := eSide) (e' := PyData.int) 0 (fun p : Side => p.1) (w_prj (e := eTalk) (e' := eSide) 1 (fun p : Talk => p.2.1) (w_name (e := eTalk) (x := talk_1) rfl) (fun _ => ⟨_, rfl, dix_nn (by decide) rfl⟩)) (fun _ => ⟨_, rfl, dix_nn (by decide) rfl⟩)) r_I))) hQ q)
theorem ok_is_syn_ack (T : Tx K mg) : FnOk P w K mg base CX0 2 T.ad_is_syn_ack T.fd_is_syn_ack ["talk", "x", "segment", "ack"] (spD K (F4 (pr4 eTalk PyData.int eSeg PyData.int PyData.bool y__is_syn_ack))) := by
  refine T.d_is_syn_ack.F.ok x_is_syn_ack (fun vs H Q E h => spD_len F4_len h) (fun cdv A outer s H vs Q E hr h => ?_)
  have nd := x_is_syn_ack.nd
  refine ⟨_, (pss_one (ps_ret (pe_and (pe_cmpR op_eq (pv 1) pe_int (nomark _)) (pe_and (pe_cmpR op_eq (pe_call (ok_form T) hr (by rfl) T.d_form.g T.d_form.F.kp T.d_form.b .nil pass0 (pa_cons (pv 2) pa_nil)) (pe_glob (v := .int 18) rfl T.c_SYN_ACK ⟨_, rfl⟩) (nomark _)) (pe_and (pe_cmpR op_eq (pe_ix ix_seq (pv 2) (pe_glob (v := .int 3) rfl T.c_SEQ ⟨_, rfl⟩) (fun _ _ => rfl)) (pe_ix ix_seq (pe_ix ix_seq (pv 0) pe_int (fun _ _ => rfl)) (pe_glob (v := .int 0) rfl T.c_START ⟨_, rfl⟩) (fun _ _ => rfl)) (nomark _)) (pe_one (pe_cmpR op_eq (pe_ix ix_seq (pv 2) (pe_glob (v := .int 4) rfl T.c_ACKED ⟨_, rfl⟩) (fun _ _ => rfl)) (pv 3) (nomark _)))))))), fn_pure ((rs_ret (re_and (ro rv_eq (RfE.b (rn 1)) (RfE.b (rc_int _))) (re_and (ro rv_eq (RfE.b (re_call (raC (rn 2) raN))) (RfE.b (rc_int _))) (re_and (ro rv_eq (RfE.b (ro rv_ix (RfE.b (rn 2)) (RfE.b (rc_int _)))) (RfE.b (ro rv_ix (RfE.b (ro rv_ix (RfE.b (rn 0)) (RfE.b (rc_int _)))) (RfE.b (rc_int _))))) (ro rv_eq (RfE.b (ro rv_ix (RfE.b (rn 2)) (RfE.b (rc_int _)))) (RfE.b (rn 3)))))))) h (by rw [spD_len F4_len h]; decide) (F4_in fun a0 a1 a2 a3 Qd q => ?_)⟩
  obtain ⟨talk_1, x_1, segment_1, ack_1, G, rfl, rfl, rfl, rfl, q, hQ⟩ := q
  delta y__is_syn_ack at q
  exact (s_ret (e := PyData.bool) (w_and (w_eqS (r := fun (a : Int) (b : Int) => decide (a = b)) (w_name (e := PyData.int) (x := x_1) rfl) (w_dC (e := PyData.int) (x := (1 : Int)) rfl) r_I) (w_and (w_eqS (r := fun (a : Int) (b : Int) => decide (a = b)) (w_call1 (w_name (e := eSeg) (x := segment_1) rfl)) (w_dC (e := PyData.int) (x := (18 : Int)) rfl) r_I) (w_andP (w_eqS (r := fun (a : Int) (b : Int) => decide (a = b)) (w_prj (e := eSeg) (e' := PyData.int) 3 (fun p : Seg => p.2.2.2.1) (w_name (e := eSeg) (x := segment_1) rfl) (fun _ => ⟨_, rfl, dix_nn (by decide) rfl⟩)) (w_prj (e := eSide) (e' := PyData.int) 0 (fun p : Side => p.1) (w_get (e := eSide) (w_prj (e := eTalk) (e' := (eO eSide)) 2 (fun p : Talk => p.2.2) (w_name (e := eTalk) (x := talk_1) rfl) (fun _ => ⟨_, rfl, dix_nn (by decide) rfl⟩))) (fun _ => ⟨_, rfl, dix_nn (by decide) rfl⟩)) r_I) (w_eqS (r := fun (a : Int) (b : Int) => decide (a = b)) (w_prj (e := eSeg) (e' := PyData.int) 4 (fun p : Seg => p.2.2.2.2.1) (w_name (e := eSeg) (x := segment_1) rfl) (fun _ => ⟨_, rfl, dix_nn (by decide) rfl⟩)) (w_name (e := PyData.int) (x := ack_1) rfl) r_I)))) hQ q)
theorem ok_lies_well (T : Tx K mg) : FnOk P w K mg base CX0 3 T.ad_lies_well T.fd_lies_well ["talk", "x", "segment"] (spD K (F3 (pr3 eTalk PyData.int eSeg PyData.bool y__lies_well))) := by
  refine T.d_lies_well.F.ok x_lies_well (fun vs H Q E h => spD_len F3_len h) (fun cdv A outer s H vs Q E hr h => ?_)
  have nd := x_lies_well.nd
  refine ⟨_, (pss_cons (ps_par (i := 3) (j := 4) (by rfl) nd rfl rfl (by decide) rfl rfl (pa_cons (pe_ix ix_seq (pv 0) (pe_op op_add pe_int (pv 1)) (fun _ _ => rfl)) (pa_cons (pe_ix ix_seq (pv 0) (pe_op op_sub pe_int (pv 1)) (fun _ _ => rfl)) pa_nil)) (by rfl))
        (pss_cons (ps_par (i := 5) (j := 6) (by rfl) nd rfl rfl (by decide) rfl rfl (pa_cons (pe_ix ix_seq (pv 2) (pe_glob (v := .int 5) rfl T.c_FLAGS ⟨_, rfl⟩) (fun _ _ => rfl)) (pa_cons (pe_call (ok_segment_end T) hr (by rfl) T.d_segment_end.g T.d_segment_end.F.kp T.d_segment_end.b .nil pass0 (pa_cons (pv 2) pa_nil)) pa_nil)) (by rfl))
        (pss_cons (ps_if (pt_not (pt_val (pe_call (ok_lies T) hr (by rfl) T.d_lies.g T.d_lies.F.kp T.d_lies.b .nil pass0 (pa_cons (pv 6) (pa_cons (pe_call (ok_after T) (hr.mono (by decide)) (by rfl) T.d_after.g T.d_after.F.kp T.d_after.b .nil pass0 (pa_cons (pe_ix ix_seq (pv 3) (pe_glob (v := .int 1) rfl T.c_END ⟨_, rfl⟩) (fun _ _ => rfl)) (pa_cons (pe_un un_neg (pe_ix ix_seq (pv 4) (pe_glob (v := .int 3) rfl T.c_WIDE ⟨_, rfl⟩) (fun _ _ => rfl))) pa_nil))) (pa_cons (pe_ix ix_seq (pv 3) (pe_glob (v := .int 2) rfl T.c_TOP ⟨_, rfl⟩) (fun _ _ => rfl)) pa_nil)))))) (pss_one (ps_ret pe_bl)) pss_nil)
        (pss_cons (ps_if (PW.pt (pw_and (pt_truth (pe_op op_and (pv 5) pe_int) (by intro _; rfl)) (pw_and1 (pt_cmpR op_gt (pe_call (ok_between T) (hr.mono (by decide)) (by rfl) T.d_between.g T.d_between.F.kp T.d_between.b .nil pass0 (pa_cons (pe_ix ix_seq (pv 4) (pe_glob (v := .int 1) rfl T.c_END ⟨_, rfl⟩) (fun _ _ => rfl)) (pa_cons (pe_ix ix_seq (pv 2) (pe_glob (v := .int 4) rfl T.c_ACKED ⟨_, rfl⟩) (fun _ _ => rfl)) pa_nil))) (pe_glob (v := .int 1073741824) rfl T.c_BEHIND ⟨_, rfl⟩) (nomark _))))) (pss_one (ps_ret pe_bl)) pss_nil)
        (pss_cons (ps_if (pt_cmpR op_isN (pe_ix ix_seq (pv 3) (pe_glob (v := .int 6) rfl T.c_FIN ⟨_, rfl⟩) (fun _ _ => rfl)) pe_non (nomark _)) (pss_one (ps_ret (pe_notT (pe_andT (pe_op op_and (pv 5) pe_int) (pe_one (pe_call (ok_later T) hr (by rfl) T.d_later.g T.d_later.F.kp T.d_later.b .nil pass0 (pa_cons (pe_ix ix_seq (pv 3) (pe_glob (v := .int 1) rfl T.c_END ⟨_, rfl⟩) (fun _ _ => rfl)) (pa_cons (pv 6) pa_nil)))))))) pss_nil)
        (pss_one (ps_ret (pe_and (pe_not (pe_call (ok_later T) hr (by rfl) T.d_later.g T.d_later.F.kp T.d_later.b .nil pass0 (pa_cons (pv 6) (pa_cons (pe_ix ix_seq (pv 3) (pe_glob (v := .int 6) rfl T.c_FIN ⟨_, rfl⟩) (fun _ _ => rfl)) pa_nil)))) (pe_one (pe_or (pe_cmpR op_eq (pe_op op_and (pv 5) pe_int) pe_int (nomark _)) (pe_one (pe_cmpR op_eq (pv 6) (pe_ix ix_seq (pv 3) (pe_glob (v := .int 6) rfl T.c_FIN ⟨_, rfl⟩) (fun _ _ => rfl)) (nomark _))))))))))))), fn_pure ((rs_seq (rs_par 3 4 (raC (ro rv_ix (RfE.b (rn 0)) (RfE.b (ro rv_add (RfE.b (rc_int _)) (RfE.b (rn 1))))) (raC (ro rv_ix (RfE.b (rn 0)) (RfE.b (ro rv_sub (RfE.b (rc_int _)) (RfE.b (rn 1))))) raN)))
        (rs_seq (rs_par 5 6 (raC (ro rv_ix (RfE.b (rn 2)) (RfE.b (rc_int _))) (raC (re_call (raC (rn 2) raN)) raN)))
        (rs_seq (rs_if (rt_not (rt_val (re_call (raC (rn 6) (raC (re_call (raC (ro rv_ix (RfE.b (rn 3)) (RfE.b (rc_int _))) (raC (ru rv_neg (RfE.b (ro rv_ix (RfE.b (rn 4)) (RfE.b (rc_int _))))) raN))) (raC (ro rv_ix (RfE.b (rn 3)) (RfE.b (rc_int _))) raN)))))) (rs_ret (rc_bl _)) rs_next)
        (rs_seq (rs_if (rt_and (rt_tru (RfE.b (ro rv_and (RfE.b (rn 5)) (RfE.b (rc_int _))))) (rt_test (ro rv_gt (RfE.b (re_call (raC (ro rv_ix (RfE.b (rn 4)) (RfE.b (rc_int _))) (raC (ro rv_ix (RfE.b (rn 2)) (RfE.b (rc_int _))) raN)))) (RfE.b (rc_int _))))) (rs_ret (rc_bl _)) rs_next)
        (rs_seq (rs_if (rt_test (ro rv_isN (RfE.b (ro rv_ix (RfE.b (rn 3)) (RfE.b (rc_int _)))) (RfE.b rc_non))) (rs_ret (re_notT (RfE.b (re_andT (ro rv_and (RfE.b (rn 5)) (RfE.b (rc_int _))) (re_call (raC (ro rv_ix (RfE.b (rn 3)) (RfE.b (rc_int _))) (raC (rn 6) raN))))))) rs_next)
        (rs_ret (re_and (re_not (re_call (raC (rn 6) (raC (ro rv_ix (RfE.b (rn 3)) (RfE.b (rc_int _))) raN)))) (re_or (ro rv_eq (RfE.b (ro rv_and (RfE.b (rn 5)) (RfE.b (rc_int _)))) (RfE.b (rc_int _))) (ro rv_eq (RfE.b (rn 6)) (RfE.b (ro rv_ix (RfE.b (rn 3)) (RfE.b (rc_int _)))))))))))))) h (by rw [spD_len F3_len h]; decide) (F3_in fun a0 a1 a2 Qd q => ?_)⟩
  obtain ⟨talk_1, x_1, segment_1, G, rfl, rfl, rfl, q, hQ⟩ := q
  delta y__lies_well at q
  exact (s_seq0 (s_par (e := eSide) (e' := eSide) (w_cast (e := eSide) (w_ix (e := eD) (w_co (e := eTalk) (e' := (eU eD)) (fun a : Talk => ([(PyData.str a.1), (eSide a.2.1), ((eO eSide) a.2.2)] : (List D))) (w_name (e := eTalk) (x := talk_1) rfl) (fun _ => rfl)) (w_I0 (g' := fun i j => i + j) (w_dC (e := PyData.int) (x := (1 : Int)) rfl) (w_name (e := PyData.int) (x := x_1) rfl) (fun _ _ => rfl)) (fun _ => rfl))) (w_cast (e := eSide) (w_ix (e := eD) (w_co (e := eTalk) (e' := (eU eD)) (fun a : Talk => ([(PyData.str a.1), (eSide a.2.1), ((eO eSide) a.2.2)] : (List D))) (w_name (e := eTalk) (x := talk_1) rfl) (fun _ => rfl)) (w_I0 (g' := fun i j => i - j) (w_dC (e := PyData.int) (x := (2 : Int)) rfl) (w_name (e := PyData.int) (x := x_1) rfl) (fun _ _ => rfl)) (fun _ => rfl))) (fun side_1 other_1 => [sv (eTalk talk_1), sv (PyData.int x_1), sv (eSeg segment_1), sv (eSide side_1), sv (eSide other_1), none, none]) (fun _ _ => rfl) (fun side_1 other_1 q => (s_seq0 (s_par (e := PyData.int) (e' := PyData.int) (w_prj (e := eSeg) (e' := PyData.int) 5 (fun p : Seg => p.2.2.2.2.2.1) (w_name (e := eSeg) (x := segment_1) rfl) (fun _ => ⟨_, rfl, dix_nn (by decide) rfl⟩)) (w_call1 (w_name (e := eSeg) (x := segment_1) rfl)) (fun flags_1 end_1 => [sv (eTalk talk_1), sv (PyData.int x_1), sv (eSeg segment_1), sv (eSide side_1), sv (eSide other_1), sv (PyData.int flags_1), sv (PyData.int end_1)]) (fun _ _ => rfl) (fun flags_1 end_1 q => (s_seq0 (s_if (t_not (t_val (w_call3 (w_name (e := PyData.int) (x := end_1) rfl) (w_call2 (w_prj (e := eSide) (e' := PyData.int) 1 (fun p : Side => p.2.1) (w_name (e := eSide) (x := side_1) rfl) (fun _ => ⟨_, rfl, dix_nn (by decide) rfl⟩)) (w_neg (w_prj (e := eSide) (e' := PyData.int) 3 (fun p : Side => p.2.2.2.1) (w_name (e := eSide) (x := other_1) rfl) (fun _ => ⟨_, rfl, dix_nn (by decide) rfl⟩)))) (w_prj (e := eSide) (e' := PyData.int) 2 (fun p : Side => p.2.2.1) (w_name (e := eSide) (x := side_1) rfl) (fun _ => ⟨_, rfl, dix_nn (by decide) rfl⟩))))) (fun q => (s_ret (e := PyData.bool) (w_dC (e := PyData.bool) (x := false) rfl) hQ q)) (fun q => (s_next (s_seq0 (s_if (t_and (t_tru (tr_of tr_I (w_I0 (g' := Builtin.bitAnd) (w_name (e := PyData.int) (x := flags_1) rfl) (w_dC (e := PyData.int) (x := (16 : Int)) rfl) (fun _ _ => rfl)))) (t_val (w_I0 (g' := fun i j => decide (j < i)) (w_call2 (w_prj (e := eSide) (e' := PyData.int) 1 (fun p : Side => p.2.1) (w_name (e := eSide) (x := other_1) rfl) (fun _ => ⟨_, rfl, dix_nn (by decide) rfl⟩)) (w_prj (e := eSeg) (e' := PyData.int) 4 (fun p : Seg => p.2.2.2.2.1) (w_name (e := eSeg) (x := segment_1) rfl) (fun _ => ⟨_, rfl, dix_nn (by decide) rfl⟩))) (w_dC (e := PyData.int) (x := (1073741824 : Int)) rfl) (fun _ _ => rfl)))) (fun q => (s_ret (e := PyData.bool) (w_dC (e := PyData.bool) (x := false) rfl) hQ q)) (fun q => (s_next (s_seq0 (s_if (t_val (w_isN (r := fun a : (Option Int) => a.isNone) (w_prj (e := eSide) (e' := (eO PyData.int)) 6 (fun p : Side => p.2.2.2.2.2.2) (w_name (e := eSide) (x := side_1) rfl) (fun _ => ⟨_, rfl, dix_nn (by decide) rfl⟩)) (n_O (fun _ => rfl)))) (fun q => (s_ret (e := PyData.bool) (w_notT (tr_and tr_I (w_I0 (g' := Builtin.bitAnd) (w_name (e := PyData.int) (x := flags_1) rfl) (w_dC (e := PyData.int) (x := (1 : Int)) rfl) (fun _ _ => rfl)) (tr_of tr_B (w_call2 (w_prj (e := eSide) (e' := PyData.int) 1 (fun p : Side => p.2.1) (w_name (e := eSide) (x := side_1) rfl) (fun _ => ⟨_, rfl, dix_nn (by decide) rfl⟩)) (w_name (e := PyData.int) (x := end_1) rfl))))) hQ q)) (fun q => (s_next (s_ret (e := PyData.bool) (w_andP (w_not (w_call2 (w_name (e := PyData.int) (x := end_1) rfl) (w_get (e := PyData.int) (w_prj (e := eSide) (e' := (eO PyData.int)) 6 (fun p : Side => p.2.2.2.2.2.2) (w_name (e := eSide) (x := side_1) rfl) (fun _ => ⟨_, rfl, dix_nn (by decide) rfl⟩))))) (w_orP (w_eqS (r := fun (a : Int) (b : Int) => decide (a = b)) (w_I0 (g' := Builtin.bitAnd) (w_name (e := PyData.int) (x := flags_1) rfl) (w_dC (e := PyData.int) (x := (1 : Int)) rfl) (fun _ _ => rfl)) (w_dC (e := PyData.int) (x := (0 : Int)) rfl) r_I) (w_eqS (r := fun (a : Int) (b : (Option Int)) => decide (some a = b)) (w_name (e := PyData.int) (x := end_1) rfl) (w_prj (e := eSide) (e' := (eO PyData.int)) 6 (fun p : Side => p.2.2.2.2.2.2) (w_name (e := eSide) (x := side_1) rfl) (fun _ => ⟨_, rfl, dix_nn (by decide) rfl⟩)) r_IO))) hQ q))) q)))) q)))) q))) q))) q))
theorem ok_is_rst (T : Tx K mg) : FnOk P w K mg base CX0 2 T.ad_is_rst T.fd_is_rst ["segment"] (spD K (F1 (pr1 eSeg PyData.bool y__is_rst))) := by
  refine T.d_is_rst.F.ok x_is_rst (fun vs H Q E h => spD_len F1_len h) (fun cdv A outer s H vs Q E hr h => ?_)
  have nd := x_is_rst.nd
  refine ⟨_, (pss_one (ps_ret (pe_cmpR op_in_seq (pe_call (ok_form T) hr (by rfl) T.d_form.g T.d_form.F.kp T.d_form.b .nil pass0 (pa_cons (pv 0) pa_nil)) (pe_tup (pa_cons (pe_glob (v := .int 4) rfl T.c_RST ⟨_, rfl⟩) (pa_cons (pe_glob (v := .int 20) rfl T.c_RST_ACK ⟨_, rfl⟩) pa_nil))) (by rfl)))), fn_pure ((rs_ret (ro (rv_in false) (RfE.b (re_call (raC (rn 0) raN))) (RfE.b (re_tup (raC (rc_int _) (raC (rc_int _) raN))))))) h (by rw [spD_len F1_len h]; decide) (F1_in fun a0 Qd q => ?_)⟩
  obtain ⟨segment_1, G, rfl, q, hQ⟩ := q
  delta y__is_rst at q
  exact (s_ret (e := PyData.bool) (w_in fl_I (w_call1 (w_name (e := eSeg) (x := segment_1) rfl)) (w_co (e := (eT2 PyData.int PyData.int)) (e' := (eU PyData.int)) (fun a : (Int × Int) => ([a.1, a.2] : (List Int))) (w_tup2 (w_dC (e := PyData.int) (x := (4 : Int)) rfl) (w_dC (e := PyData.int) (x := (20 : Int)) rfl)) (fun _ => rfl)) (fun _ => rfl)) hQ q)
theorem ok_ended (T : Tx K mg) : FnOk P w K mg base CX0 1 T.ad_ended T.fd_ended ["talk"] (spD K (F1 (pr1 eTalk (eT2 PyData.str eTalk) y__ended))) := by
  refine T.d_ended.F.ok x_ended (fun vs H Q E h => spD_len F1_len h) (fun cdv A outer s H vs Q E hr h => ?_)
  have nd := x_ended.nd
  refine ⟨_, (pss_one (ps_ret (pe_tup (pa_cons pe_str (pa_cons (pe_tup (pa_cons pe_str (pa_cons (pe_ix ix_seq (pv 0) pe_int (fun _ _ => rfl)) (pa_cons (pe_ix ix_seq (pv 0) pe_int (fun _ _ => rfl)) pa_nil)))) pa_nil))))), fn_pure ((rs_ret (re_tup (raC (rc_str _) (raC (re_tup (raC (rc_str _) (raC (ro rv_ix (RfE.b (rn 0)) (RfE.b (rc_int _))) (raC (ro rv_ix (RfE.b (rn 0)) (RfE.b (rc_int _))) raN)))) raN))))) h (by rw [spD_len F1_len h]; decide) (F1_in fun a0 Qd q => ?_)⟩
  obtain ⟨talk_1, G, rfl, q, hQ⟩ := q
  delta y__ended at q
  exact (s_ret (e := (eT2 PyData.str eTalk)) (w_tup2 (w_dC (e := PyData.str) (x := (Str.ofString "fits")) rfl) (w_tup3 (w_dC (e := PyData.str) (x := (Str.ofString "over")) rfl) (w_prj (e := eTalk) (e' := eSide) 1 (fun p : Talk => p.2.1) (w_name (e := eTalk) (x := talk_1) rfl) (fun _ => ⟨_, rfl, dix_nn (by decide) rfl⟩)) (w_prj (e := eTalk) (e' := (eO eSide)) 2 (fun p : Talk => p.2.2) (w_name (e := eTalk) (x := talk_1) rfl) (fun _ => ⟨_, rfl, dix_nn (by decide) rfl⟩)))) hQ q)
theorem ok_state_of (T : Tx K mg) : FnOk P w K mg base CX0 1 T.ad_state_of T.fd_state_of ["side", "other"] (spD K (F2 (pr2 eSide eSide PyData.str y__state_of))) := by
  refine T.d_state_of.F.ok x_state_of (fun vs H Q E h => spD_len F2_len h) (fun cdv A outer s H vs Q E hr h => ?_)
  have nd := x_state_of.nd
  refine ⟨_, (pss_cons (ps_if (PW.pt (pw_and (pt_cmpR op_isN (pe_ix ix_seq (pv 0) (pe_glob (v := .int 6) rfl T.c_FIN ⟨_, rfl⟩) (fun _ _ => rfl)) pe_non (nomark _)) (pw_and1 (pt_cmpR op_isN (pe_ix ix_seq (pv 1) (pe_glob (v := .int 6) rfl T.c_FIN ⟨_, rfl⟩) (fun _ _ => rfl)) pe_non (nomark _))))) (pss_one (ps_ret pe_str)) pss_nil)
        (pss_cons (ps_if (PW.pt (pw_and (pt_cmpR op_eq (pe_ix ix_seq (pv 0) (pe_glob (v := .int 6) rfl T.c_FIN ⟨_, rfl⟩) (fun _ _ => rfl)) (pe_ix ix_seq (pv 0) (pe_glob (v := .int 4) rfl T.c_HEARD ⟨_, rfl⟩) (fun _ _ => rfl)) (nomark _)) (pw_and1 (pt_cmpR op_eq (pe_ix ix_seq (pv 1) (pe_glob (v := .int 6) rfl T.c_FIN ⟨_, rfl⟩) (fun _ _ => rfl)) (pe_ix ix_seq (pv 1) (pe_glob (v := .int 4) rfl T.c_HEARD ⟨_, rfl⟩) (fun _ _ => rfl)) (nomark _))))) (pss_one (ps_ret pe_str)) pss_nil)
        (pss_one (ps_ret pe_str)))), fn_pure ((rs_seq (rs_if (rt_and (rt_test (ro rv_isN (RfE.b (ro rv_ix (RfE.b (rn 0)) (RfE.b (rc_int _)))) (RfE.b rc_non))) (rt_test (ro rv_isN (RfE.b (ro rv_ix (RfE.b (rn 1)) (RfE.b (rc_int _)))) (RfE.b rc_non)))) (rs_ret (rc_str _)) rs_next)
        (rs_seq (rs_if (rt_and (rt_test (ro rv_eq (RfE.b (ro rv_ix (RfE.b (rn 0)) (RfE.b (rc_int _)))) (RfE.b (ro rv_ix (RfE.b (rn 0)) (RfE.b (rc_int _)))))) (rt_test (ro rv_eq (RfE.b (ro rv_ix (RfE.b (rn 1)) (RfE.b (rc_int _)))) (RfE.b (ro rv_ix (RfE.b (rn 1)) (RfE.b (rc_int _))))))) (rs_ret (rc_str _)) rs_next)
        (rs_ret (rc_str _))))) h (by rw [spD_len F2_len h]; decide) (F2_in fun a0 a1 Qd q => ?_)⟩
  obtain ⟨side_1, other_1, G, rfl, rfl, q, hQ⟩ := q
  delta y__state_of at q
  exact (s_seq0 (s_if (t_andP (t_val (w_isN (r := fun a : (Option Int) => a.isNone) (w_prj (e := eSide) (e' := (eO PyData.int)) 6 (fun p : Side => p.2.2.2.2.2.2) (w_name (e := eSide) (x := side_1) rfl) (fun _ => ⟨_, rfl, dix_nn (by decide) rfl⟩)) (n_O (fun _ => rfl)))) (t_val (w_isN (r := fun a : (Option Int) => a.isNone) (w_prj (e := eSide) (e' := (eO PyData.int)) 6 (fun p : Side => p.2.2.2.2.2.2) (w_name (e := eSide) (x := other_1) rfl) (fun _ => ⟨_, rfl, dix_nn (by decide) rfl⟩)) (n_O (fun _ => rfl))))) (fun q => (s_ret (e := PyData.str) (w_dC (e := PyData.str) (x := (Str.ofString "open")) rfl) hQ q)) (fun q => (s_next (s_seq0 (s_if (t_andP (t_val (w_eqS (r := fun (a : (Option Int)) (b : Int) => decide (a = some b)) (w_prj (e := eSide) (e' := (eO PyData.int)) 6 (fun p : Side => p.2.2.2.2.2.2) (w_name (e := eSide) (x := side_1) rfl) (fun _ => ⟨_, rfl, dix_nn (by decide) rfl⟩)) (w_prj (e := eSide) (e' := PyData.int) 4 (fun p : Side => p.2.2.2.2.1) (w_name (e := eSide) (x := side_1) rfl) (fun _ => ⟨_, rfl, dix_nn (by decide) rfl⟩)) r_OI)) (t_val (w_eqS (r := fun (a : (Option Int)) (b : Int) => decide (a = some b)) (w_prj (e := eSide) (e' := (eO PyData.int)) 6 (fun p : Side => p.2.2.2.2.2.2) (w_name (e := eSide) (x := other_1) rfl) (fun _ => ⟨_, rfl, dix_nn (by decide) rfl⟩)) (w_prj (e := eSide) (e' := PyData.int) 4 (fun p : Side => p.2.2.2.2.1) (w_name (e := eSide) (x := other_1) rfl) (fun _ => ⟨_, rfl, dix_nn (by decide) rfl⟩)) r_OI))) (fun q => (s_ret (e := PyData.str) (w_dC (e := PyData.str) (x := (Str.ofString "over")) rfl) hQ q)) (fun q => (s_next (s_ret (e := PyData.str) (w_dC (e := PyData.str) (x := (Str.ofString "closing")) rfl) hQ q))) q)))) q))
theorem ok_taken (T : Tx K mg) : FnOk P w K mg base CX0 4 T.ad_taken T.fd_taken ["talk", "x", "segment"] (spD K (F3 (pr3 eTalk PyData.int eSeg eTalk y__taken))) := by
  refine T.d_taken.F.ok x_taken (fun vs H Q E h => spD_len F3_len h) (fun cdv A outer s H vs Q E hr h => ?_)
  have nd := x_taken.nd
  refine ⟨_, (pss_cons (ps_asg (pe_ix ix_seq (pv 0) (pe_op op_add pe_int (pv 1)) (fun _ _ => rfl)) (pg_tup (n := 7) rfl (pgs_cons (pg_name (i := 3) nd rfl (Or.inl rfl)) (pgs_cons (pg_name (i := 4) nd rfl (Or.inl rfl)) (pgs_cons (pg_name (i := 5) nd rfl (Or.inl rfl)) (pgs_cons (pg_name (i := 6) nd rfl (Or.inl rfl)) (pgs_cons (pg_name (i := 7) nd rfl (Or.inl rfl)) (pgs_cons (pg_name (i := 8) nd rfl (Or.inl rfl)) (pgs_cons (pg_name (i := 9) nd rfl (Or.inl rfl)) pgs_nil)))))))))
        (pss_cons (ps_par3 (i := 10) (j := 11) (l := 12) (by rfl) nd rfl rfl rfl (by decide) (by decide) (by decide) rfl rfl rfl (pa_cons (pe_op op_shl (pe_ix ix_seq (pv 2) (pe_glob (v := .int 6) rfl T.c_WINDOW ⟨_, rfl⟩) (fun _ _ => rfl)) (pv 8)) (pa_cons (pe_ix ix_seq (pv 2) (pe_glob (v := .int 4) rfl T.c_ACKED ⟨_, rfl⟩) (fun _ _ => rfl)) (pa_cons (pe_call (ok_segment_end T) (hr.mono (by decide)) (by rfl) T.d_segment_end.g T.d_segment_end.F.kp T.d_segment_end.b .nil pass0 (pa_cons (pv 2) pa_nil)) pa_nil))) (by rfl))
        (pss_cons (ps_if (pt_truth (pe_op op_and (pe_ix ix_seq (pv 2) (pe_glob (v := .int 5) rfl T.c_FLAGS ⟨_, rfl⟩) (fun _ _ => rfl)) pe_int) (by intro _; rfl)) (pss_one (ps_set (i := 9) nd rfl (Or.inl rfl) (pv 12))) pss_nil)
        (pss_cons (ps_set (i := 13) nd rfl (Or.inl rfl) (pe_tup (pa_cons (pv 3) (pa_cons (pe_call (ok_later_one T) hr (by rfl) T.d_later_one.g T.d_later_one.F.kp T.d_later_one.b .nil pass0 (pa_cons (pv 12) (pa_cons (pv 4) pa_nil))) (pa_cons (pv 5) (pa_cons (pe_callB (call_max2 rfl) (by rfl) T.b_max (by decide +kernel) (pa_cons (pv 10) (pa_cons (pv 6) pa_nil))) (pa_cons (pv 7) (pa_cons (pv 8) (pa_cons (pv 9) pa_nil)))))))))
        (pss_cons (ps_asg (pe_ix ix_seq (pv 0) (pe_op op_sub pe_int (pv 1)) (fun _ _ => rfl)) (pg_tup (n := 7) rfl (pgs_cons (pg_name (i := 3) nd rfl (Or.inl rfl)) (pgs_cons (pg_name (i := 4) nd rfl (Or.inl rfl)) (pgs_cons (pg_name (i := 5) nd rfl (Or.inl rfl)) (pgs_cons (pg_name (i := 6) nd rfl (Or.inl rfl)) (pgs_cons (pg_name (i := 7) nd rfl (Or.inl rfl)) (pgs_cons (pg_name (i := 8) nd rfl (Or.inl rfl)) (pgs_cons (pg_name (i := 9) nd rfl (Or.inl rfl)) pgs_nil)))))))))
        (pss_cons (ps_set (i := 5) nd rfl (Or.inl rfl) (pe_call (ok_later_one T) hr (by rfl) T.d_later_one.g T.d_later_one.F.kp T.d_later_one.b .nil pass0 (pa_cons (pe_call (ok_after T) (hr.mono (by decide)) (by rfl) T.d_after.g T.d_after.F.kp T.d_after.b .nil pass0 (pa_cons (pv 11) (pa_cons (pe_call (ok_width T) (hr.mono (by decide)) (by rfl) T.d_width.g T.d_width.F.kp T.d_width.b .nil pass0 (pa_cons (pv 10) pa_nil)) pa_nil))) (pa_cons (pv 5) pa_nil))))
        (pss_cons (ps_set (i := 14) nd rfl (Or.inl rfl) (pe_tup (pa_cons (pv 3) (pa_cons (pv 4) (pa_cons (pv 5) (pa_cons (pv 6) (pa_cons (pe_call (ok_later_one T) hr (by rfl) T.d_later_one.g T.d_later_one.F.kp T.d_later_one.b .nil pass0 (pa_cons (pv 11) (pa_cons (pv 7) pa_nil))) (pa_cons (pv 8) (pa_cons (pv 9) pa_nil)))))))))
        (pss_cons (ps_if (pt_cmpR op_eq (pv 1) pe_int (nomark _)) (pss_one (ps_ret (pe_tup (pa_cons (pe_call (ok_state_of T) (hr.mono (by decide)) (by rfl) T.d_state_of.g T.d_state_of.F.kp T.d_state_of.b .nil pass0 (pa_cons (pv 13) (pa_cons (pv 14) pa_nil))) (pa_cons (pv 13) (pa_cons (pv 14) pa_nil)))))) pss_nil)
        (pss_one (ps_ret (pe_tup (pa_cons (pe_call (ok_state_of T) (hr.mono (by decide)) (by rfl) T.d_state_of.g T.d_state_of.F.kp T.d_state_of.b .nil pass0 (pa_cons (pv 13) (pa_cons (pv 14) pa_nil))) (pa_cons (pv 14) (pa_cons (pv 13) pa_nil)))))))))))))), fn_pure ((rs_seq (rs_asg (ro rv_ix (RfE.b (rn 0)) (RfE.b (ro rv_add (RfE.b (rc_int _)) (RfE.b (rn 1))))) (rg_tup (rg_cons (rg_name 3) (rg_cons (rg_name 4) (rg_cons (rg_name 5) (rg_cons (rg_name 6) (rg_cons (rg_name 7) (rg_cons (rg_name 8) (rg_cons (rg_name 9) rg_nil)))))))))
        (rs_seq (rs_par3 10 11 12 (raC (ro rv_shl (RfE.b (ro rv_ix (RfE.b (rn 2)) (RfE.b (rc_int _)))) (RfE.b (rn 8))) (raC (ro rv_ix (RfE.b (rn 2)) (RfE.b (rc_int _))) (raC (re_call (raC (rn 2) raN)) raN))))
        (rs_seq (rs_if (rt_tru (RfE.b (ro rv_and (RfE.b (ro rv_ix (RfE.b (rn 2)) (RfE.b (rc_int _)))) (RfE.b (rc_int _))))) (rs_asg (rn 12) (rg_name 9)) rs_next)
        (rs_seq (rs_asg (re_tup (raC (rn 3) (raC (re_call (raC (rn 12) (raC (rn 4) raN))) (raC (rn 5) (raC (re_cb ro_max (rbC (RfE.b (rn 10)) (rbC (RfE.b (rn 6)) rbN))) (raC (rn 7) (raC (rn 8) (raC (rn 9) raN)))))))) (rg_name 13))
        (rs_seq (rs_asg (ro rv_ix (RfE.b (rn 0)) (RfE.b (ro rv_sub (RfE.b (rc_int _)) (RfE.b (rn 1))))) (rg_tup (rg_cons (rg_name 3) (rg_cons (rg_name 4) (rg_cons (rg_name 5) (rg_cons (rg_name 6) (rg_cons (rg_name 7) (rg_cons (rg_name 8) (rg_cons (rg_name 9) rg_nil)))))))))
        (rs_seq (rs_asg (re_call (raC (re_call (raC (rn 11) (raC (re_call (raC (rn 10) raN)) raN))) (raC (rn 5) raN))) (rg_name 5))
        (rs_seq (rs_asg (re_tup (raC (rn 3) (raC (rn 4) (raC (rn 5) (raC (rn 6) (raC (re_call (raC (rn 11) (raC (rn 7) raN))) (raC (rn 8) (raC (rn 9) raN)))))))) (rg_name 14))
        (rs_seq (rs_if (rt_test (ro rv_eq (RfE.b (rn 1)) (RfE.b (rc_int _)))) (rs_ret (re_tup (raC (re_call (raC (rn 13) (raC (rn 14) raN))) (raC (rn 13) (raC (rn 14) raN))))) rs_next)
        (rs_ret (re_tup (raC (re_call (raC (rn 13) (raC (rn 14) raN))) (raC (rn 14) (raC (rn 13) raN)))))))))))))) h (by rw [spD_len F3_len h]; decide) (F3_in fun a0 a1 a2 Qd q => ?_)⟩
  obtain ⟨talk_1, x_1, segment_1, G, rfl, rfl, rfl, q, hQ⟩ := q
  delta y__taken at q
  exact (s_seq0 (s_pat (e := eSide) (w_cast (e := eSide) (w_ix (e := eD) (w_co (e := eTalk) (e' := (eU eD)) (fun a : Talk => ([(PyData.str a.1), (eSide a.2.1), ((eO eSide) a.2.2)] : (List D))) (w_name (e := eTalk) (x := talk_1) rfl) (fun _ => rfl)) (w_I0 (g' := fun i j => i + j) (w_dC (e := PyData.int) (x := (1 : Int)) rfl) (w_name (e := PyData.int) (x := x_1) rfl) (fun _ _ => rfl)) (fun _ => rfl))) (fun p_1 q => (g_tup (gs_cons (gn (env' := [sv (eTalk talk_1), sv (PyData.int x_1), sv (eSeg segment_1), sv (PyData.int p_1.1), none, none, none, none, none, none, none, none, none, none, none]) rfl (gs_cons (gn (env' := [sv (eTalk talk_1), sv (PyData.int x_1), sv (eSeg segment_1), sv (PyData.int p_1.1), sv (PyData.int p_1.2.1), none, none, none, none, none, none, none, none, none, none]) rfl (gs_cons (gn (env' := [sv (eTalk talk_1), sv (PyData.int x_1), sv (eSeg segment_1), sv (PyData.int p_1.1), sv (PyData.int p_1.2.1), sv (PyData.int p_1.2.2.1), none, none, none, none, none, none, none, none, none]) rfl (gs_cons (gn (env' := [sv (eTalk talk_1), sv (PyData.int x_1), sv (eSeg segment_1), sv (PyData.int p_1.1), sv (PyData.int p_1.2.1), sv (PyData.int p_1.2.2.1), sv (PyData.int p_1.2.2.2.1), none, none, none, none, none, none, none, none]) rfl (gs_cons (gn (env' := [sv (eTalk talk_1), sv (PyData.int x_1), sv (eSeg segment_1), sv (PyData.int p_1.1), sv (PyData.int p_1.2.1), sv (PyData.int p_1.2.2.1), sv (PyData.int p_1.2.2.2.1), sv (PyData.int p_1.2.2.2.2.1), none, none, none, none, none, none, none]) rfl (gs_cons (gn (env' := [sv (eTalk talk_1), sv (PyData.int x_1), sv (eSeg segment_1), sv (PyData.int p_1.1), sv (PyData.int p_1.2.1), sv (PyData.int p_1.2.2.1), sv (PyData.int p_1.2.2.2.1), sv (PyData.int p_1.2.2.2.2.1), sv ((eO PyData.int) p_1.2.2.2.2.2.1), none, none, none, none, none, none]) rfl (gs_cons (gn (env' := [sv (eTalk talk_1), sv (PyData.int x_1), sv (eSeg segment_1), sv (PyData.int p_1.1), sv (PyData.int p_1.2.1), sv (PyData.int p_1.2.2.1), sv (PyData.int p_1.2.2.2.1), sv (PyData.int p_1.2.2.2.2.1), sv ((eO PyData.int) p_1.2.2.2.2.2.1), sv ((eO PyData.int) p_1.2.2.2.2.2.2), none, none, none, none, none]) rfl (gs_nil (s_seq0 (s_par3 (e := PyData.int) (e' := PyData.int) (e3 := PyData.int) (w_I (g' := fun i j => i * 2 ^ (j).toNat) (w_prj (e := eSeg) (e' := PyData.int) 6 (fun p : Seg => p.2.2.2.2.2.2.1) (w_name (e := eSeg) (x := segment_1) rfl) (fun _ => ⟨_, rfl, dix_nn (by decide) rfl⟩)) (w_get (e := PyData.int) (w_name (e := (eO PyData.int)) (x := p_1.2.2.2.2.2.1) rfl)) (fun _ _ => rfl)) (w_prj (e := eSeg) (e' := PyData.int) 4 (fun p : Seg => p.2.2.2.2.1) (w_name (e := eSeg) (x := segment_1) rfl) (fun _ => ⟨_, rfl, dix_nn (by decide) rfl⟩)) (w_call1 (w_name (e := eSeg) (x := segment_1) rfl)) (fun (window_1 : Int) (ack_1 : Int) (reached_1 : Int) => [sv (eTalk talk_1), sv (PyData.int x_1), sv (eSeg segment_1), sv (PyData.int p_1.1), sv (PyData.int p_1.2.1), sv (PyData.int p_1.2.2.1), sv (PyData.int p_1.2.2.2.1), sv (PyData.int p_1.2.2.2.2.1), sv ((eO PyData.int) p_1.2.2.2.2.2.1), sv ((eO PyData.int) p_1.2.2.2.2.2.2), sv (PyData.int window_1), sv (PyData.int ack_1), sv (PyData.int reached_1), none, none]) (fun _ _ _ => rfl) (fun window_1 ack_1 reached_1 q => (s_seq_cut0 (a := _) (fun s_1 : (Option Int) => y__taken_j1 talk_1 x_1 p_1 window_1 ack_1 reached_1 G s_1) (fun (s_1 : (Option Int)) (u_1 : Unit) => [sv (eTalk talk_1), sv (PyData.int x_1), sv (eSeg segment_1), sv (PyData.int p_1.1), sv (PyData.int p_1.2.1), sv (PyData.int p_1.2.2.1), sv (PyData.int p_1.2.2.2.1), sv (PyData.int p_1.2.2.2.2.1), sv ((eO PyData.int) p_1.2.2.2.2.2.1), sv ((eO PyData.int) s_1), sv (PyData.int window_1), sv (PyData.int ack_1), sv (PyData.int reached_1), none, none]) (fun s_1 u_1 q => (s_seq0 (s_asg (e := eSide) (w_tup7 (w_name (e := PyData.int) (x := p_1.1) rfl) (w_call2 (w_name (e := PyData.int) (x := reached_1) rfl) (w_name (e := PyData.int) (x := p_1.2.1) rfl)) (w_name (e := PyData.int) (x := p_1.2.2.1) rfl) (w_I2 (w_name (e := PyData.int) (x := window_1) rfl) (w_name (e := PyData.int) (x := p_1.2.2.2.1) rfl)) (w_name (e := PyData.int) (x := p_1.2.2.2.2.1) rfl) (w_name (e := (eO PyData.int)) (x := p_1.2.2.2.2.2.1) rfl) (w_name (e := (eO PyData.int)) (x := s_1) rfl)) (fun side_1 : Side => [sv (eTalk talk_1), sv (PyData.int x_1), sv (eSeg segment_1), sv (PyData.int p_1.1), sv (PyData.int p_1.2.1), sv (PyData.int p_1.2.2.1), sv (PyData.int p_1.2.2.2.1), sv (PyData.int p_1.2.2.2.2.1), sv ((eO PyData.int) p_1.2.2.2.2.2.1), sv ((eO PyData.int) s_1), sv (PyData.int window_1), sv (PyData.int ack_1), sv (PyData.int reached_1), sv (eSide side_1), none]) (fun _ => rfl) (fun side_1 q => (s_seq0 (s_pat (e := eSide) (w_cast (e := eSide) (w_ix (e := eD) (w_co (e := eTalk) (e' := (eU eD)) (fun a : Talk => ([(PyData.str a.1), (eSide a.2.1), ((eO eSide) a.2.2)] : (List D))) (w_name (e := eTalk) (x := talk_1) rfl) (fun _ => rfl)) (w_I0 (g' := fun i j => i - j) (w_dC (e := PyData.int) (x := (2 : Int)) rfl) (w_name (e := PyData.int) (x := x_1) rfl) (fun _ _ => rfl)) (fun _ => rfl))) (fun p_2 q => (g_tup (gs_cons (gn (env' := [sv (eTalk talk_1), sv (PyData.int x_1), sv (eSeg segment_1), sv (PyData.int p_2.1), sv (PyData.int p_1.2.1), sv (PyData.int p_1.2.2.1), sv (PyData.int p_1.2.2.2.1), sv (PyData.int p_1.2.2.2.2.1), sv ((eO PyData.int) p_1.2.2.2.2.2.1), sv ((eO PyData.int) s_1), sv (PyData.int window_1), sv (PyData.int ack_1), sv (PyData.int reached_1), sv (eSide side_1), none]) rfl (gs_cons (gn (env' := [sv (eTalk talk_1), sv (PyData.int x_1), sv (eSeg segment_1), sv (PyData.int p_2.1), sv (PyData.int p_2.2.1), sv (PyData.int p_1.2.2.1), sv (PyData.int p_1.2.2.2.1), sv (PyData.int p_1.2.2.2.2.1), sv ((eO PyData.int) p_1.2.2.2.2.2.1), sv ((eO PyData.int) s_1), sv (PyData.int window_1), sv (PyData.int ack_1), sv (PyData.int reached_1), sv (eSide side_1), none]) rfl (gs_cons (gn (env' := [sv (eTalk talk_1), sv (PyData.int x_1), sv (eSeg segment_1), sv (PyData.int p_2.1), sv (PyData.int p_2.2.1), sv (PyData.int p_2.2.2.1), sv (PyData.int p_1.2.2.2.1), sv (PyData.int p_1.2.2.2.2.1), sv ((eO PyData.int) p_1.2.2.2.2.2.1), sv ((eO PyData.int) s_1), sv (PyData.int window_1), sv (PyData.int ack_1), sv (PyData.int reached_1), sv (eSide side_1), none]) rfl (gs_cons (gn (env' := [sv (eTalk talk_1), sv (PyData.int x_1), sv (eSeg segment_1), sv (PyData.int p_2.1), sv (PyData.int p_2.2.1), sv (PyData.int p_2.2.2.1), sv (PyData.int p_2.2.2.2.1), sv (PyData.int p_1.2.2.2.2.1), sv ((eO PyData.int) p_1.2.2.2.2.2.1), sv ((eO PyData.int) s_1), sv (PyData.int window_1), sv (PyData.int ack_1), sv (PyData.int reached_1), sv (eSide side_1), none]) rfl (gs_cons (gn (env' := [sv (eTalk talk_1), sv (PyData.int x_1), sv (eSeg segment_1), sv (PyData.int p_2.1), sv (PyData.int p_2.2.1), sv (PyData.int p_2.2.2.1), sv (PyData.int p_2.2.2.2.1), sv (PyData.int p_2.2.2.2.2.1), sv ((eO PyData.int) p_1.2.2.2.2.2.1), sv ((eO PyData.int) s_1), sv (PyData.int window_1), sv (PyData.int ack_1), sv (PyData.int reached_1), sv (eSide side_1), none]) rfl (gs_cons (gn (env' := [sv (eTalk talk_1), sv (PyData.int x_1), sv (eSeg segment_1), sv (PyData.int p_2.1), sv (PyData.int p_2.2.1), sv (PyData.int p_2.2.2.1), sv (PyData.int p_2.2.2.2.1), sv (PyData.int p_2.2.2.2.2.1), sv ((eO PyData.int) p_2.2.2.2.2.2.1), sv ((eO PyData.int) s_1), sv (PyData.int window_1), sv (PyData.int ack_1), sv (PyData.int reached_1), sv (eSide side_1), none]) rfl (gs_cons (gn (env' := [sv (eTalk talk_1), sv (PyData.int x_1), sv (eSeg segment_1), sv (PyData.int p_2.1), sv (PyData.int p_2.2.1), sv (PyData.int p_2.2.2.1), sv (PyData.int p_2.2.2.2.1), sv (PyData.int p_2.2.2.2.2.1), sv ((eO PyData.int) p_2.2.2.2.2.2.1), sv ((eO PyData.int) p_2.2.2.2.2.2.2), sv (PyData.int window_1), sv (PyData.int ack_1), sv (PyData.int reached_1), sv (eSide side_1), none]) rfl (gs_nil (s_seq0 (s_asg (e := PyData.int) (w_call2 (w_call2 (w_name (e := PyData.int) (x := ack_1) rfl) (w_call1 (w_name (e := PyData.int) (x := window_1) rfl))) (w_name (e := PyData.int) (x := p_2.2.2.1) rfl)) (fun top_1 : Int => [sv (eTalk talk_1), sv (PyData.int x_1), sv (eSeg segment_1), sv (PyData.int p_2.1), sv (PyData.int p_2.2.1), sv (PyData.int top_1), sv (PyData.int p_2.2.2.2.1), sv (PyData.int p_2.2.2.2.2.1), sv ((eO PyData.int) p_2.2.2.2.2.2.1), sv ((eO PyData.int) p_2.2.2.2.2.2.2), sv (PyData.int window_1), sv (PyData.int ack_1), sv (PyData.int reached_1), sv (eSide side_1), none]) (fun _ => rfl) (fun top_1 q => (s_seq0 (s_asg (e := eSide) (w_tup7 (w_name (e := PyData.int) (x := p_2.1) rfl) (w_name (e := PyData.int) (x := p_2.2.1) rfl) (w_name (e := PyData.int) (x := top_1) rfl) (w_name (e := PyData.int) (x := p_2.2.2.2.1) rfl) (w_call2 (w_name (e := PyData.int) (x := ack_1) rfl) (w_name (e := PyData.int) (x := p_2.2.2.2.2.1) rfl)) (w_name (e := (eO PyData.int)) (x := p_2.2.2.2.2.2.1) rfl) (w_name (e := (eO PyData.int)) (x := p_2.2.2.2.2.2.2) rfl)) (fun other_1 : Side => [sv (eTalk talk_1), sv (PyData.int x_1), sv (eSeg segment_1), sv (PyData.int p_2.1), sv (PyData.int p_2.2.1), sv (PyData.int top_1), sv (PyData.int p_2.2.2.2.1), sv (PyData.int p_2.2.2.2.2.1), sv ((eO PyData.int) p_2.2.2.2.2.2.1), sv ((eO PyData.int) p_2.2.2.2.2.2.2), sv (PyData.int window_1), sv (PyData.int ack_1), sv (PyData.int reached_1), sv (eSide side_1), sv (eSide other_1)]) (fun _ => rfl) (fun other_1 q => (s_seq0 (s_if (t_val (w_eqS (r := fun (a : Int) (b : Int) => decide (a = b)) (w_name (e := PyData.int) (x := x_1) rfl) (w_dC (e := PyData.int) (x := (0 : Int)) rfl) r_I)) (fun q => (s_ret (e := eTalk) (w_tup3 (w_call2 (w_name (e := eSide) (x := side_1) rfl) (w_name (e := eSide) (x := other_1) rfl)) (w_name (e := eSide) (x := side_1) rfl) (w_co (e := eSide) (e' := (eO eSide)) (fun a : Side => ((some a) : (Option Side))) (w_name (e := eSide) (x := other_1) rfl) (fun _ => rfl))) hQ q)) (fun q => (s_next (s_ret (e := eTalk) (w_tup3 (w_call2 (w_name (e := eSide) (x := side_1) rfl) (w_name (e := eSide) (x := other_1) rfl)) (w_name (e := eSide) (x := other_1) rfl) (w_co (e := eSide) (e' := (eO eSide)) (fun a : Side => ((some a) : (Option Side))) (w_name (e := eSide) (x := side_1) rfl) (fun _ => rfl))) hQ q))) q))) q))) q))))))))))))))))) rfl)) q))) q))) (fun N_1 hN_1 => (s_if (t_tru (tr_of tr_I (w_I0 (g' := Builtin.bitAnd) (w_prj (e := eSeg) (e' := PyData.int) 5 (fun p : Seg => p.2.2.2.2.2.1) (w_name (e := eSeg) (x := segment_1) rfl) (fun _ => ⟨_, rfl, dix_nn (by decide) rfl⟩)) (w_dC (e := PyData.int) (x := (1 : Int)) rfl) (fun _ _ => rfl)))) (fun q => (s_asg (e := PyData.int) (w_name (e := PyData.int) (x := reached_1) rfl) (fun fin_2 : Int => [sv (eTalk talk_1), sv (PyData.int x_1), sv (eSeg segment_1), sv (PyData.int p_1.1), sv (PyData.int p_1.2.1), sv (PyData.int p_1.2.2.1), sv (PyData.int p_1.2.2.2.1), sv (PyData.int p_1.2.2.2.2.1), sv ((eO PyData.int) p_1.2.2.2.2.2.1), sv (PyData.int fin_2), sv (PyData.int window_1), sv (PyData.int ack_1), sv (PyData.int reached_1), none, none]) (fun _ => rfl) (fun fin_2 q => (hN_1 (some fin_2) () q)) q)) (fun q => (s_next (hN_1 p_1.2.2.2.2.2.2 () q))) q)))) q))))))))))))))))) rfl)) q))
theorem ok_in_open (T : Tx K mg) : FnOk P w K mg base CX0 5 T.ad_in_open T.fd_in_open ["talk", "x", "segment"] (spD K (F3 (pr3 eTalk PyData.int eSeg (eT2 PyData.str eTalk) y__in_open))) := by
  refine T.d_in_open.F.ok x_in_open (fun vs H Q E h => spD_len F3_len h) (fun cdv A outer s H vs Q E hr h => ?_)
  have nd := x_in_open.nd
  refine ⟨_, (pss_cons (ps_set (i := 3) nd rfl (Or.inl rfl) (pe_ix ix_seq (pv 0) (pe_op op_add pe_int (pv 1)) (fun _ _ => rfl)))
        (pss_cons (ps_if (PW.pt (pw_or (pt_val (pe_call (ok_is_first_syn T) (hr.mono (by decide)) (by rfl) T.d_is_first_syn.g T.d_is_first_syn.F.kp T.d_is_first_syn.b .nil pass0 (pa_cons (pv 0) (pa_cons (pv 1) (pa_cons (pv 2) pa_nil))))) (pw_or1 (pt_val (pe_call (ok_is_syn_ack T) (hr.mono (by decide)) (by rfl) T.d_is_syn_ack.g T.d_is_syn_ack.F.kp T.d_is_syn_ack.b .nil pass0 (pa_cons (pv 0) (pa_cons (pv 1) (pa_cons (pv 2) (pa_cons (pe_call (ok_after T) (hr.mono (by decide)) (by rfl) T.d_after.g T.d_after.F.kp T.d_after.b .nil pass0 (pa_cons (pe_ix ix_seq (pe_ix ix_seq (pv 0) pe_int (fun _ _ => rfl)) (pe_glob (v := .int 0) rfl T.c_START ⟨_, rfl⟩) (fun _ _ => rfl)) (pa_cons pe_int pa_nil))) pa_nil))))))))) (pss_one (ps_ret (pe_tup (pa_cons pe_str (pa_cons (pv 0) pa_nil))))) pss_nil)
        (pss_cons (ps_if (pt_truth (pe_op op_and (pe_ix ix_seq (pv 2) (pe_glob (v := .int 5) rfl T.c_FLAGS ⟨_, rfl⟩) (fun _ _ => rfl)) pe_int) (by intro _; rfl)) (pss_one (ps_ret (pe_tup (pa_cons pe_str (pa_cons (pv 0) pa_nil))))) pss_nil)
        (pss_cons (ps_if (pt_not (pt_val (pe_call (ok_lies_well T) (hr.mono (by decide)) (by rfl) T.d_lies_well.g T.d_lies_well.F.kp T.d_lies_well.b .nil pass0 (pa_cons (pv 0) (pa_cons (pv 1) (pa_cons (pv 2) pa_nil)))))) (pss_one (ps_ret (pe_tup (pa_cons pe_str (pa_cons (pv 0) pa_nil))))) pss_nil)
        (pss_cons (ps_if (pt_not (pt_val (pe_call (ok_is_rst T) (hr.mono (by decide)) (by rfl) T.d_is_rst.g T.d_is_rst.F.kp T.d_is_rst.b .nil pass0 (pa_cons (pv 2) pa_nil)))) (pss_one (ps_ret (pe_tup (pa_cons pe_str (pa_cons (pe_call (ok_taken T) hr (by rfl) T.d_taken.g T.d_taken.F.kp T.d_taken.b .nil pass0 (pa_cons (pv 0) (pa_cons (pv 1) (pa_cons (pv 2) pa_nil)))) pa_nil))))) pss_nil)
        (pss_cons (ps_if (PW.pt (pw_or (pt_cmpR op_eq (pe_ix ix_seq (pv 2) (pe_glob (v := .int 3) rfl T.c_SEQ ⟨_, rfl⟩) (fun _ _ => rfl)) (pe_ix ix_seq (pv 3) (pe_glob (v := .int 4) rfl T.c_HEARD ⟨_, rfl⟩) (fun _ _ => rfl)) (nomark _)) (pw_or1 (pt_cmpR op_eq (pe_ix ix_seq (pv 2) (pe_glob (v := .int 3) rfl T.c_SEQ ⟨_, rfl⟩) (fun _ _ => rfl)) (pe_ix ix_seq (pv 3) (pe_glob (v := .int 1) rfl T.c_END ⟨_, rfl⟩) (fun _ _ => rfl)) (nomark _))))) (pss_one (ps_ret (pe_call (ok_ended T) (hr.mono (by decide)) (by rfl) T.d_ended.g T.d_ended.F.kp T.d_ended.b .nil pass0 (pa_cons (pv 0) pa_nil)))) pss_nil)
        (pss_one (ps_ret (pe_tup (pa_cons pe_str (pa_cons (pv 0) pa_nil))))))))))), fn_pure ((rs_seq (rs_asg (ro rv_ix (RfE.b (rn 0)) (RfE.b (ro rv_add (RfE.b (rc_int _)) (RfE.b (rn 1))))) (rg_name 3))
        (rs_seq (rs_if (rt_or (rt_val (re_call (raC (rn 0) (raC (rn 1) (raC (rn 2) raN))))) (rt_val (re_call (raC (rn 0) (raC (rn 1) (raC (rn 2) (raC (re_call (raC (ro rv_ix (RfE.b (ro rv_ix (RfE.b (rn 0)) (RfE.b (rc_int _)))) (RfE.b (rc_int _))) (raC (rc_int _) raN))) raN))))))) (rs_ret (re_tup (raC (rc_str _) (raC (rn 0) raN)))) rs_next)
        (rs_seq (rs_if (rt_tru (RfE.b (ro rv_and (RfE.b (ro rv_ix (RfE.b (rn 2)) (RfE.b (rc_int _)))) (RfE.b (rc_int _))))) (rs_ret (re_tup (raC (rc_str _) (raC (rn 0) raN)))) rs_next)
        (rs_seq (rs_if (rt_not (rt_val (re_call (raC (rn 0) (raC (rn 1) (raC (rn 2) raN)))))) (rs_ret (re_tup (raC (rc_str _) (raC (rn 0) raN)))) rs_next)
        (rs_seq (rs_if (rt_not (rt_val (re_call (raC (rn 2) raN)))) (rs_ret (re_tup (raC (rc_str _) (raC (re_call (raC (rn 0) (raC (rn 1) (raC (rn 2) raN)))) raN)))) rs_next)
        (rs_seq (rs_if (rt_or (rt_test (ro rv_eq (RfE.b (ro rv_ix (RfE.b (rn 2)) (RfE.b (rc_int _)))) (RfE.b (ro rv_ix (RfE.b (rn 3)) (RfE.b (rc_int _)))))) (rt_test (ro rv_eq (RfE.b (ro rv_ix (RfE.b (rn 2)) (RfE.b (rc_int _)))) (RfE.b (ro rv_ix (RfE.b (rn 3)) (RfE.b (rc_int _))))))) (rs_ret (re_call (raC (rn 0) raN))) rs_next)
        (rs_ret (re_tup (raC (rc_str _) (raC (rn 0) raN))))))))))) h (by rw [spD_len F3_len h]; decide) (F3_in fun a0 a1 a2 Qd q => ?_)⟩
  obtain ⟨talk_1, x_1, segment_1, G, rfl, rfl, rfl, q, hQ⟩ := q
  delta y__in_open at q
  exact (s_seq0 (s_asg (e := eSide) (w_cast (e := eSide) (w_ix (e := eD) (w_co (e := eTalk) (e' := (eU eD)) (fun a : Talk => ([(PyData.str a.1), (eSide a.2.1), ((eO eSide) a.2.2)] : (List D))) (w_name (e := eTalk) (x := talk_1) rfl) (fun _ => rfl)) (w_I0 (g' := fun i j => i + j) (w_dC (e := PyData.int) (x := (1 : Int)) rfl) (w_name (e := PyData.int) (x := x_1) rfl) (fun _ _ => rfl)) (fun _ => rfl))) (fun side_1 : Side => [sv (eTalk talk_1), sv (PyData.int x_1), sv (eSeg segment_1), sv (eSide side_1)]) (fun _ => rfl) (fun side_1 q => (s_seq0 (s_if (t_or (t_val (w_call3 (w_name (e := eTalk) (x := talk_1) rfl) (w_name (e := PyData.int) (x := x_1) rfl) (w_name (e := eSeg) (x := segment_1) rfl))) (t_val (w_call4 (w_name (e := eTalk) (x := talk_1) rfl) (w_name (e := PyData.int) (x := x_1) rfl) (w_name (e := eSeg) (x := segment_1) rfl) (w_call2 (w_prj (e := eSide) (e' := PyData.int) 0 (fun p : Side => p.1) (w_prj (e := eTalk) (e' := eSide) 1 (fun p : Talk => p.2.1) (w_name (e := eTalk) (x := talk_1) rfl) (fun _ => ⟨_, rfl, dix_nn (by decide) rfl⟩)) (fun _ => ⟨_, rfl, dix_nn (by decide) rfl⟩)) (w_dC (e := PyData.int) (x := (1 : Int)) rfl))))) (fun q => (s_ret (e := (eT2 PyData.str eTalk)) (w_tup2 (w_dC (e := PyData.str) (x := (Str.ofString "again")) rfl) (w_name (e := eTalk) (x := talk_1) rfl)) hQ q)) (fun q => (s_next (s_seq0 (s_if (t_tru (tr_of tr_I (w_I0 (g' := Builtin.bitAnd) (w_prj (e := eSeg) (e' := PyData.int) 5 (fun p : Seg => p.2.2.2.2.2.1) (w_name (e := eSeg) (x := segment_1) rfl) (fun _ => ⟨_, rfl, dix_nn (by decide) rfl⟩)) (w_dC (e := PyData.int) (x := (2 : Int)) rfl) (fun _ _ => rfl)))) (fun q => (s_ret (e := (eT2 PyData.str eTalk)) (w_tup2 (w_dC (e := PyData.str) (x := (Str.ofString "state")) rfl) (w_name (e := eTalk) (x := talk_1) rfl)) hQ q)) (fun q => (s_next (s_seq0 (s_if (t_not (t_val (w_call3 (w_name (e := eTalk) (x := talk_1) rfl) (w_name (e := PyData.int) (x := x_1) rfl) (w_name (e := eSeg) (x := segment_1) rfl)))) (fun q => (s_ret (e := (eT2 PyData.str eTalk)) (w_tup2 (w_dC (e := PyData.str) (x := (Str.ofString "window")) rfl) (w_name (e := eTalk) (x := talk_1) rfl)) hQ q)) (fun q => (s_next (s_seq0 (s_if (t_not (t_val (w_call1 (w_name (e := eSeg) (x := segment_1) rfl)))) (fun q => (s_ret (e := (eT2 PyData.str eTalk)) (w_tup2 (w_dC (e := PyData.str) (x := (Str.ofString "fits")) rfl) (w_call3 (w_name (e := eTalk) (x := talk_1) rfl) (w_name (e := PyData.int) (x := x_1) rfl) (w_name (e := eSeg) (x := segment_1) rfl))) hQ q)) (fun q => (s_next (s_seq0 (s_if (t_orP (t_val (w_eqS (r := fun (a : Int) (b : Int) => decide (a = b)) (w_prj (e := eSeg) (e' := PyData.int) 3 (fun p : Seg => p.2.2.2.1) (w_name (e := eSeg) (x := segment_1) rfl) (fun _ => ⟨_, rfl, dix_nn (by decide) rfl⟩)) (w_prj (e := eSide) (e' := PyData.int) 4 (fun p : Side => p.2.2.2.2.1) (w_name (e := eSide) (x := side_1) rfl) (fun _ => ⟨_, rfl, dix_nn (by decide) rfl⟩)) r_I)) (t_val (w_eqS (r := fun (a : Int) (b : Int) => decide (a = b)) (w_prj (e := eSeg) (e' := PyData.int) 3 (fun p : Seg => p.2.2.2.1) (w_name (e := eSeg) (x := segment_1) rfl) (fun _ => ⟨_, rfl, dix_nn (by decide) rfl⟩)) (w_prj (e := eSide) (e' := PyData.int) 1 (fun p : Side => p.2.1) (w_name (e := eSide) (x := side_1) rfl) (fun _ => ⟨_, rfl, dix_nn (by decide) rfl⟩)) r_I))) (fun q => (s_ret (e := (eT2 PyData.str eTalk)) (w_call1 (w_name (e := eTalk) (x := talk_1) rfl)) hQ q)) (fun q => (s_next (s_ret (e := (eT2 PyData.str eTalk)) (w_tup2 (w_dC (e := PyData.str) (x := (Str.ofString "again")) rfl) (w_name (e := eTalk) (x := talk_1) rfl)) hQ q))) q)))) q)))) q)))) q)))) q))) q))
theorem ok_answered (T : Tx K mg) : FnOk P w K mg base CX0 3 T.ad_answered T.fd_answered ["opener", "segment"] (spD K (F2 (pr2 eSide eSeg eTalk y__answered))) := by
  refine T.d_answered.F.ok x_answered (fun vs H Q E h => spD_len F2_len h) (fun cdv A outer s H vs Q E hr h => ?_)
  have nd := x_answered.nd
  refine ⟨_, (pss_cons (ps_par3 (i := 2) (j := 3) (l := 4) (by rfl) nd rfl rfl rfl (by decide) (by decide) (by decide) rfl rfl rfl (pa_cons (pe_ix ix_seq (pv 1) (pe_glob (v := .int 3) rfl T.c_SEQ ⟨_, rfl⟩) (fun _ _ => rfl)) (pa_cons (pe_ix ix_seq (pv 1) (pe_glob (v := .int 4) rfl T.c_ACKED ⟨_, rfl⟩) (fun _ _ => rfl)) (pa_cons (pe_call (ok_width T) (hr.mono (by decide)) (by rfl) T.d_width.g T.d_width.F.kp T.d_width.b .nil pass0 (pa_cons (pe_ix ix_seq (pv 1) (pe_glob (v := .int 6) rfl T.c_WINDOW ⟨_, rfl⟩) (fun _ _ => rfl)) pa_nil)) pa_nil))) (by rfl))
        (pss_cons (ps_par (i := 5) (j := 6) (by rfl) nd rfl rfl (by decide) rfl rfl (pa_cons (pe_ix ix_seq (pv 0) (pe_glob (v := .int 5) rfl T.c_SHIFT ⟨_, rfl⟩) (fun _ _ => rfl)) (pa_cons (pe_call (ok_shift_of T) hr (by rfl) T.d_shift_of.g T.d_shift_of.F.kp T.d_shift_of.b .nil pass0 (pa_cons (pe_ix ix_seq (pv 1) (pe_glob (v := .int 8) rfl T.c_OPTIONS ⟨_, rfl⟩) (fun _ _ => rfl)) pa_nil)) pa_nil)) (by rfl))
        (pss_cons (ps_if (PW.pt (pw_or (pt_cmpR op_isN (pv 5) pe_non (nomark _)) (pw_or1 (pt_cmpR op_isN (pv 6) pe_non (nomark _))))) (pss_one (ps_asg (pe_tup (pa_cons pe_int (pa_cons pe_int pa_nil))) (pg_tup (n := 2) rfl (pgs_cons (pg_name (i := 5) nd rfl (Or.inl rfl)) (pgs_cons (pg_name (i := 6) nd rfl (Or.inl rfl)) pgs_nil))))) pss_nil)
        (pss_cons (ps_set (i := 7) nd rfl (Or.inl rfl) (pe_call (ok_after T) (hr.mono (by decide)) (by rfl) T.d_after.g T.d_after.F.kp T.d_after.b .nil pass0 (pa_cons (pv 2) (pa_cons pe_int pa_nil))))
        (pss_cons (ps_set (i := 8) nd rfl (Or.inl rfl) (pe_tup (pa_cons (pv 2) (pa_cons (pv 7) (pa_cons (pe_call (ok_after T) (hr.mono (by decide)) (by rfl) T.d_after.g T.d_after.F.kp T.d_after.b .nil pass0 (pa_cons (pv 7) (pa_cons (pe_ix ix_seq (pv 0) (pe_glob (v := .int 3) rfl T.c_WIDE ⟨_, rfl⟩) (fun _ _ => rfl)) pa_nil))) (pa_cons (pv 4) (pa_cons (pv 2) (pa_cons (pv 6) (pa_cons pe_non pa_nil)))))))))
        (pss_cons (ps_set (i := 9) nd rfl (Or.inl rfl) (pe_tup (pa_cons (pe_ix ix_seq (pv 0) (pe_glob (v := .int 0) rfl T.c_START ⟨_, rfl⟩) (fun _ _ => rfl)) (pa_cons (pe_ix ix_seq (pv 0) (pe_glob (v := .int 1) rfl T.c_END ⟨_, rfl⟩) (fun _ _ => rfl)) (pa_cons (pe_call (ok_after T) (hr.mono (by decide)) (by rfl) T.d_after.g T.d_after.F.kp T.d_after.b .nil pass0 (pa_cons (pv 3) (pa_cons (pv 4) pa_nil))) (pa_cons (pe_ix ix_seq (pv 0) (pe_glob (v := .int 3) rfl T.c_WIDE ⟨_, rfl⟩) (fun _ _ => rfl)) (pa_cons (pv 3) (pa_cons (pv 5) (pa_cons (pe_ix ix_seq (pv 0) (pe_glob (v := .int 6) rfl T.c_FIN ⟨_, rfl⟩) (fun _ _ => rfl)) pa_nil)))))))))
        (pss_one (ps_ret (pe_tup (pa_cons pe_str (pa_cons (pv 9) (pa_cons (pv 8) pa_nil)))))))))))), fn_pure ((rs_seq (rs_par3 2 3 4 (raC (ro rv_ix (RfE.b (rn 1)) (RfE.b (rc_int _))) (raC (ro rv_ix (RfE.b (rn 1)) (RfE.b (rc_int _))) (raC (re_call (raC (ro rv_ix (RfE.b (rn 1)) (RfE.b (rc_int _))) raN)) raN))))
        (rs_seq (rs_par 5 6 (raC (ro rv_ix (RfE.b (rn 0)) (RfE.b (rc_int _))) (raC (re_call (raC (ro rv_ix (RfE.b (rn 1)) (RfE.b (rc_int _))) raN)) raN)))
        (rs_seq (rs_if (rt_or (rt_test (ro rv_isN (RfE.b (rn 5)) (RfE.b rc_non))) (rt_test (ro rv_isN (RfE.b (rn 6)) (RfE.b rc_non)))) (rs_asg (show RfE _ _ (dC (PyData.tuple [PyData.int 0, PyData.int 0])) from re_tup (raC (rc_int _) (raC (rc_int _) raN))) (rg_tup (rg_cons (rg_name 5) (rg_cons (rg_name 6) rg_nil)))) rs_next)
        (rs_seq (rs_asg (re_call (raC (rn 2) (raC (rc_int _) raN))) (rg_name 7))
        (rs_seq (rs_asg (re_tup (raC (rn 2) (raC (rn 7) (raC (re_call (raC (rn 7) (raC (ro rv_ix (RfE.b (rn 0)) (RfE.b (rc_int _))) raN))) (raC (rn 4) (raC (rn 2) (raC (rn 6) (raC rc_non raN)))))))) (rg_name 8))
        (rs_seq (rs_asg (re_tup (raC (ro rv_ix (RfE.b (rn 0)) (RfE.b (rc_int _))) (raC (ro rv_ix (RfE.b (rn 0)) (RfE.b (rc_int _))) (raC (re_call (raC (rn 3) (raC (rn 4) raN))) (raC (ro rv_ix (RfE.b (rn 0)) (RfE.b (rc_int _))) (raC (rn 3) (raC (rn 5) (raC (ro rv_ix (RfE.b (rn 0)) (RfE.b (rc_int _))) raN)))))))) (rg_name 9))
        (rs_ret (re_tup (raC (rc_str _) (raC (rn 9) (raC (rn 8) raN)))))))))))) h (by rw [spD_len F2_len h]; decide) (F2_in fun a0 a1 Qd q => ?_)⟩
  obtain ⟨opener_1, segment_1, G, rfl, rfl, q, hQ⟩ := q
  delta y__answered at q
  exact (s_seq0 (s_par3 (e := PyData.int) (e' := PyData.int) (e3 := PyData.int) (w_prj (e := eSeg) (e' := PyData.int) 3 (fun p : Seg => p.2.2.2.1) (w_name (e := eSeg) (x := segment_1) rfl) (fun _ => ⟨_, rfl, dix_nn (by decide) rfl⟩)) (w_prj (e := eSeg) (e' := PyData.int) 4 (fun p : Seg => p.2.2.2.2.1) (w_name (e := eSeg) (x := segment_1) rfl) (fun _ => ⟨_, rfl, dix_nn (by decide) rfl⟩)) (w_call1 (w_prj (e := eSeg) (e' := PyData.int) 6 (fun p : Seg => p.2.2.2.2.2.2.1) (w_name (e := eSeg) (x := segment_1) rfl) (fun _ => ⟨_, rfl, dix_nn (by decide) rfl⟩))) (fun (start_1 : Int) (ack_1 : Int) (wide_1 : Int) => [sv (eSide opener_1), sv (eSeg segment_1), sv (PyData.int start_1), sv (PyData.int ack_1), sv (PyData.int wide_1), none, none, none, none, none]) (fun _ _ _ => rfl) (fun start_1 ack_1 wide_1 q => (s_seq0 (s_par (e := (eO PyData.int)) (e' := (eO PyData.int)) (w_prj (e := eSide) (e' := (eO PyData.int)) 5 (fun p : Side => p.2.2.2.2.2.1) (w_name (e := eSide) (x := opener_1) rfl) (fun _ => ⟨_, rfl, dix_nn (by decide) rfl⟩)) (w_call1 (w_prj (e := eSeg) (e' := (eU PyData.int)) 8 (fun p : Seg => p.2.2.2.2.2.2.2.2.1) (w_name (e := eSeg) (x := segment_1) rfl) (fun _ => ⟨_, rfl, dix_nn (by decide) rfl⟩))) (fun shift_1 other_shift_1 => [sv (eSide opener_1), sv (eSeg segment_1), sv (PyData.int start_1), sv (PyData.int ack_1), sv (PyData.int wide_1), sv ((eO PyData.int) shift_1), sv ((eO PyData.int) other_shift_1), none, none, none]) (fun _ _ => rfl) (fun shift_1 other_shift_1 q => (s_seq_cut0 (a := _) (fun s_1 : (Option Int) × (Option Int) => y__answered_j1 opener_1 start_1 ack_1 wide_1 G s_1.1 s_1.2) (fun (s_1 : (Option Int) × (Option Int)) (u_1 : Unit) => [sv (eSide opener_1), sv (eSeg segment_1), sv (PyData.int start_1), sv (PyData.int ack_1), sv (PyData.int wide_1), sv ((eO PyData.int) s_1.1), sv ((eO PyData.int) s_1.2), none, none, none]) (fun s_1 u_1 q => (s_seq0 (s_asg (e := PyData.int) (w_call2 (w_name (e := PyData.int) (x := start_1) rfl) (w_dC (e := PyData.int) (x := (1 : Int)) rfl)) (fun end_1 : Int => [sv (eSide opener_1), sv (eSeg segment_1), sv (PyData.int start_1), sv (PyData.int ack_1), sv (PyData.int wide_1), sv ((eO PyData.int) s_1.1), sv ((eO PyData.int) s_1.2), sv (PyData.int end_1), none, none]) (fun _ => rfl) (fun end_1 q => (s_seq0 (s_asg (e := (eT7 PyData.int PyData.int PyData.int PyData.int PyData.int (eO PyData.int) eN)) (w_tup7 (w_name (e := PyData.int) (x := start_1) rfl) (w_name (e := PyData.int) (x := end_1) rfl) (w_call2 (w_name (e := PyData.int) (x := end_1) rfl) (w_prj (e := eSide) (e' := PyData.int) 3 (fun p : Side => p.2.2.2.1) (w_name (e := eSide) (x := opener_1) rfl) (fun _ => ⟨_, rfl, dix_nn (by decide) rfl⟩))) (w_name (e := PyData.int) (x := wide_1) rfl) (w_name (e := PyData.int) (x := start_1) rfl) (w_name (e := (eO PyData.int)) (x := s_1.2) rfl) (w_dC (e := eN) (x := ()) rfl)) (fun answerer_1 : (Int × Int × Int × Int × Int × (Option Int) × Unit) => [sv (eSide opener_1), sv (eSeg segment_1), sv (PyData.int start_1), sv (PyData.int ack_1), sv (PyData.int wide_1), sv ((eO PyData.int) s_1.1), sv ((eO PyData.int) s_1.2), sv (PyData.int end_1), sv ((eT7 PyData.int PyData.int PyData.int PyData.int PyData.int (eO PyData.int) eN) answerer_1), none]) (fun _ => rfl) (fun answerer_1 q => (s_seq0 (s_asg (e := eSide) (w_tup7 (w_prj (e := eSide) (e' := PyData.int) 0 (fun p : Side => p.1) (w_name (e := eSide) (x := opener_1) rfl) (fun _ => ⟨_, rfl, dix_nn (by decide) rfl⟩)) (w_prj (e := eSide) (e' := PyData.int) 1 (fun p : Side => p.2.1) (w_name (e := eSide) (x := opener_1) rfl) (fun _ => ⟨_, rfl, dix_nn (by decide) rfl⟩)) (w_call2 (w_name (e := PyData.int) (x := ack_1) rfl) (w_name (e := PyData.int) (x := wide_1) rfl)) (w_prj (e := eSide) (e' := PyData.int) 3 (fun p : Side => p.2.2.2.1) (w_name (e := eSide) (x := opener_1) rfl) (fun _ => ⟨_, rfl, dix_nn (by decide) rfl⟩)) (w_name (e := PyData.int) (x := ack_1) rfl) (w_name (e := (eO PyData.int)) (x := s_1.1) rfl) (w_prj (e := eSide) (e' := (eO PyData.int)) 6 (fun p : Side => p.2.2.2.2.2.2) (w_name (e := eSide) (x := opener_1) rfl) (fun _ => ⟨_, rfl, dix_nn (by decide) rfl⟩))) (fun heard_1 : Side => [sv (eSide opener_1), sv (eSeg segment_1), sv (PyData.int start_1), sv (PyData.int ack_1), sv (PyData.int wide_1), sv ((eO PyData.int) s_1.1), sv ((eO PyData.int) s_1.2), sv (PyData.int end_1), sv ((eT7 PyData.int PyData.int PyData.int PyData.int PyData.int (eO PyData.int) eN) answerer_1), sv (eSide heard_1)]) (fun _ => rfl) (fun heard_1 q => (s_ret (e := eTalk) (w_tup3 (w_dC (e := PyData.str) (x := (Str.ofString "answered")) rfl) (w_name (e := eSide) (x := heard_1) rfl) (w_co (e := (eT7 PyData.int PyData.int PyData.int PyData.int PyData.int (eO PyData.int) eN)) (e' := (eO eSide)) (fun a : (Int × Int × Int × Int × Int × (Option Int) × Unit) => ((some (a.1, a.2.1, a.2.2.1, a.2.2.2.1, a.2.2.2.2.1, a.2.2.2.2.2.1, none)) : (Option Side))) (w_name (e := (eT7 PyData.int PyData.int PyData.int PyData.int PyData.int (eO PyData.int) eN)) (x := answerer_1) rfl) (fun _ => rfl))) hQ q)) q))) q))) q))) (fun N_1 hN_1 => (s_if (t_orP (t_val (w_isN (r := fun a : (Option Int) => a.isNone) (w_name (e := (eO PyData.int)) (x := shift_1) rfl) (n_O (fun _ => rfl)))) (t_val (w_isN (r := fun a : (Option Int) => a.isNone) (w_name (e := (eO PyData.int)) (x := other_shift_1) rfl) (n_O (fun _ => rfl))))) (fun q => (s_pat (e := (eT2 PyData.int PyData.int)) (w_dC (e := (eT2 PyData.int PyData.int)) (x := ((0 : Int), (0 : Int))) rfl) (fun p_1 q => (g_tup (gs_cons (gn (env' := [sv (eSide opener_1), sv (eSeg segment_1), sv (PyData.int start_1), sv (PyData.int ack_1), sv (PyData.int wide_1), sv (PyData.int p_1.1), sv ((eO PyData.int) other_shift_1), none, none, none]) rfl (gs_cons (gn (env' := [sv (eSide opener_1), sv (eSeg segment_1), sv (PyData.int start_1), sv (PyData.int ack_1), sv (PyData.int wide_1), sv (PyData.int p_1.1), sv (PyData.int p_1.2), none, none, none]) rfl (gs_nil (hN_1 ((some p_1.1), (some p_1.2)) () q)))))) rfl)) q)) (fun q => (s_next (hN_1 (shift_1, other_shift_1) () q))) q)))) q))) q))
theorem ok_in_asked (T : Tx K mg) : FnOk P w K mg base CX0 4 T.ad_in_asked T.fd_in_asked ["talk", "x", "segment"] (spD K (F3 (pr3 eTalk PyData.int eSeg (eT2 PyData.str eTalk) y__in_asked))) := by
  refine T.d_in_asked.F.ok x_in_asked (fun vs H Q E h => spD_len F3_len h) (fun cdv A outer s H vs Q E hr h => ?_)
  have nd := x_in_asked.nd
  refine ⟨_, (pss_cons (ps_par (i := 3) (j := 4) (by rfl) nd rfl rfl (by decide) rfl rfl (pa_cons (pe_ix ix_seq (pv 0) pe_int (fun _ _ => rfl)) (pa_cons (pe_call (ok_form T) (hr.mono (by decide)) (by rfl) T.d_form.g T.d_form.F.kp T.d_form.b .nil pass0 (pa_cons (pv 2) pa_nil)) pa_nil)) (by rfl))
        (pss_cons (ps_if (pt_val (pe_call (ok_is_first_syn T) (hr.mono (by decide)) (by rfl) T.d_is_first_syn.g T.d_is_first_syn.F.kp T.d_is_first_syn.b .nil pass0 (pa_cons (pv 0) (pa_cons (pv 1) (pa_cons (pv 2) pa_nil))))) (pss_one (ps_ret (pe_tup (pa_cons pe_str (pa_cons (pv 0) pa_nil))))) pss_nil)
        (pss_cons (ps_if (PW.pt (pw_and (pt_cmpR op_eq (pv 1) pe_int (nomark _)) (pw_and (pt_val (pe_call (ok_is_rst T) (hr.mono (by decide)) (by rfl) T.d_is_rst.g T.d_is_rst.F.kp T.d_is_rst.b .nil pass0 (pa_cons (pv 2) pa_nil))) (pw_and1 (pt_cmpR op_eq (pe_ix ix_seq (pv 2) (pe_glob (v := .int 3) rfl T.c_SEQ ⟨_, rfl⟩) (fun _ _ => rfl)) (pe_ix ix_seq (pv 3) (pe_glob (v := .int 1) rfl T.c_END ⟨_, rfl⟩) (fun _ _ => rfl)) (nomark _)))))) (pss_one (ps_ret (pe_call (ok_ended T) (hr.mono (by decide)) (by rfl) T.d_ended.g T.d_ended.F.kp T.d_ended.b .nil pass0 (pa_cons (pv 0) pa_nil)))) pss_nil)
        (pss_cons (ps_if (PW.pt (pw_and (pt_cmpR op_eq (pv 1) pe_int (nomark _)) (pw_and (pt_cmpR op_eq (pv 4) (pe_glob (v := .int 18) rfl T.c_SYN_ACK ⟨_, rfl⟩) (nomark _)) (pw_and1 (pt_cmpR op_eq (pe_ix ix_seq (pv 2) (pe_glob (v := .int 4) rfl T.c_ACKED ⟨_, rfl⟩) (fun _ _ => rfl)) (pe_ix ix_seq (pv 3) (pe_glob (v := .int 1) rfl T.c_END ⟨_, rfl⟩) (fun _ _ => rfl)) (nomark _)))))) (pss_one (ps_ret (pe_tup (pa_cons pe_str (pa_cons (pe_call (ok_answered T) hr (by rfl) T.d_answered.g T.d_answered.F.kp T.d_answered.b .nil pass0 (pa_cons (pv 3) (pa_cons (pv 2) pa_nil))) pa_nil))))) pss_nil)
        (pss_cons (ps_if (PW.pt (pw_and (pt_cmpR op_eq (pv 1) pe_int (nomark _)) (pw_and (pt_cmpR op_eq (pv 4) (pe_glob (v := .int 20) rfl T.c_RST_ACK ⟨_, rfl⟩) (nomark _)) (pw_and1 (pt_cmpR op_eq (pe_ix ix_seq (pv 2) (pe_glob (v := .int 4) rfl T.c_ACKED ⟨_, rfl⟩) (fun _ _ => rfl)) (pe_ix ix_seq (pv 3) (pe_glob (v := .int 1) rfl T.c_END ⟨_, rfl⟩) (fun _ _ => rfl)) (nomark _)))))) (pss_one (ps_ret (pe_call (ok_ended T) (hr.mono (by decide)) (by rfl) T.d_ended.g T.d_ended.F.kp T.d_ended.b .nil pass0 (pa_cons (pv 0) pa_nil)))) pss_nil)
        (pss_one (ps_ret (pe_tup (pa_cons pe_str (pa_cons (pv 0) pa_nil)))))))))), fn_pure ((rs_seq (rs_par 3 4 (raC (ro rv_ix (RfE.b (rn 0)) (RfE.b (rc_int _))) (raC (re_call (raC (rn 2) raN)) raN)))
        (rs_seq (rs_if (rt_val (re_call (raC (rn 0) (raC (rn 1) (raC (rn 2) raN))))) (rs_ret (re_tup (raC (rc_str _) (raC (rn 0) raN)))) rs_next)
        (rs_seq (rs_if (rt_and (rt_test (ro rv_eq (RfE.b (rn 1)) (RfE.b (rc_int _)))) (rt_and (rt_val (re_call (raC (rn 2) raN))) (rt_test (ro rv_eq (RfE.b (ro rv_ix (RfE.b (rn 2)) (RfE.b (rc_int _)))) (RfE.b (ro rv_ix (RfE.b (rn 3)) (RfE.b (rc_int _)))))))) (rs_ret (re_call (raC (rn 0) raN))) rs_next)
        (rs_seq (rs_if (rt_and (rt_test (ro rv_eq (RfE.b (rn 1)) (RfE.b (rc_int _)))) (rt_and (rt_test (ro rv_eq (RfE.b (rn 4)) (RfE.b (rc_int _)))) (rt_test (ro rv_eq (RfE.b (ro rv_ix (RfE.b (rn 2)) (RfE.b (rc_int _)))) (RfE.b (ro rv_ix (RfE.b (rn 3)) (RfE.b (rc_int _)))))))) (rs_ret (re_tup (raC (rc_str _) (raC (re_call (raC (rn 3) (raC (rn 2) raN))) raN)))) rs_next)
        (rs_seq (rs_if (rt_and (rt_test (ro rv_eq (RfE.b (rn 1)) (RfE.b (rc_int _)))) (rt_and (rt_test (ro rv_eq (RfE.b (rn 4)) (RfE.b (rc_int _)))) (rt_test (ro rv_eq (RfE.b (ro rv_ix (RfE.b (rn 2)) (RfE.b (rc_int _)))) (RfE.b (ro rv_ix (RfE.b (rn 3)) (RfE.b (rc_int _)))))))) (rs_ret (re_call (raC (rn 0) raN))) rs_next)
        (rs_ret (re_tup (raC (rc_str _) (raC (rn 0) raN)))))))))) h (by rw [spD_len F3_len h]; decide) (F3_in fun a0 a1 a2 Qd q => ?_)⟩
  obtain ⟨talk_1, x_1, segment_1, G, rfl, rfl, rfl, q, hQ⟩ := q
  delta y__in_asked at q
  exact (s_seq0 (s_par (e := eSide) (e' := PyData.int) (w_prj (e := eTalk) (e' := eSide) 1 (fun p : Talk => p.2.1) (w_name (e := eTalk) (x := talk_1) rfl) (fun _ => ⟨_, rfl, dix_nn (by decide) rfl⟩)) (w_call1 (w_name (e := eSeg) (x := segment_1) rfl)) (fun opener_1 form_1 => [sv (eTalk talk_1), sv (PyData.int x_1), sv (eSeg segment_1), sv (eSide opener_1), sv (PyData.int form_1)]) (fun _ _ => rfl) (fun opener_1 form_1 q => (s_seq0 (s_if (t_val (w_call3 (w_name (e := eTalk) (x := talk_1) rfl) (w_name (e := PyData.int) (x := x_1) rfl) (w_name (e := eSeg) (x := segment_1) rfl))) (fun q => (s_ret (e := (eT2 PyData.str eTalk)) (w_tup2 (w_dC (e := PyData.str) (x := (Str.ofString "again")) rfl) (w_name (e := eTalk) (x := talk_1) rfl)) hQ q)) (fun q => (s_next (s_seq0 (s_if (t_and (t_val (w_eqS (r := fun (a : Int) (b : Int) => decide (a = b)) (w_name (e := PyData.int) (x := x_1) rfl) (w_dC (e := PyData.int) (x := (0 : Int)) rfl) r_I)) (t_andP (t_val (w_call1 (w_name (e := eSeg) (x := segment_1) rfl))) (t_val (w_eqS (r := fun (a : Int) (b : Int) => decide (a = b)) (w_prj (e := eSeg) (e' := PyData.int) 3 (fun p : Seg => p.2.2.2.1) (w_name (e := eSeg) (x := segment_1) rfl) (fun _ => ⟨_, rfl, dix_nn (by decide) rfl⟩)) (w_prj (e := eSide) (e' := PyData.int) 1 (fun p : Side => p.2.1) (w_name (e := eSide) (x := opener_1) rfl) (fun _ => ⟨_, rfl, dix_nn (by decide) rfl⟩)) r_I)))) (fun q => (s_ret (e := (eT2 PyData.str eTalk)) (w_call1 (w_name (e := eTalk) (x := talk_1) rfl)) hQ q)) (fun q => (s_next (s_seq0 (s_if (t_andP (t_val (w_eqS (r := fun (a : Int) (b : Int) => decide (a = b)) (w_name (e := PyData.int) (x := x_1) rfl) (w_dC (e := PyData.int) (x := (1 : Int)) rfl) r_I)) (t_andP (t_val (w_eqS (r := fun (a : Int) (b : Int) => decide (a = b)) (w_name (e := PyData.int) (x := form_1) rfl) (w_dC (e := PyData.int) (x := (18 : Int)) rfl) r_I)) (t_val (w_eqS (r := fun (a : Int) (b : Int) => decide (a = b)) (w_prj (e := eSeg) (e' := PyData.int) 4 (fun p : Seg => p.2.2.2.2.1) (w_name (e := eSeg) (x := segment_1) rfl) (fun _ => ⟨_, rfl, dix_nn (by decide) rfl⟩)) (w_prj (e := eSide) (e' := PyData.int) 1 (fun p : Side => p.2.1) (w_name (e := eSide) (x := opener_1) rfl) (fun _ => ⟨_, rfl, dix_nn (by decide) rfl⟩)) r_I)))) (fun q => (s_ret (e := (eT2 PyData.str eTalk)) (w_tup2 (w_dC (e := PyData.str) (x := (Str.ofString "fits")) rfl) (w_call2 (w_name (e := eSide) (x := opener_1) rfl) (w_name (e := eSeg) (x := segment_1) rfl))) hQ q)) (fun q => (s_next (s_seq0 (s_if (t_andP (t_val (w_eqS (r := fun (a : Int) (b : Int) => decide (a = b)) (w_name (e := PyData.int) (x := x_1) rfl) (w_dC (e := PyData.int) (x := (1 : Int)) rfl) r_I)) (t_andP (t_val (w_eqS (r := fun (a : Int) (b : Int) => decide (a = b)) (w_name (e := PyData.int) (x := form_1) rfl) (w_dC (e := PyData.int) (x := (20 : Int)) rfl) r_I)) (t_val (w_eqS (r := fun (a : Int) (b : Int) => decide (a = b)) (w_prj (e := eSeg) (e' := PyData.int) 4 (fun p : Seg => p.2.2.2.2.1) (w_name (e := eSeg) (x := segment_1) rfl) (fun _ => ⟨_, rfl, dix_nn (by decide) rfl⟩)) (w_prj (e := eSide) (e' := PyData.int) 1 (fun p : Side => p.2.1) (w_name (e := eSide) (x := opener_1) rfl) (fun _ => ⟨_, rfl, dix_nn (by decide) rfl⟩)) r_I)))) (fun q => (s_ret (e := (eT2 PyData.str eTalk)) (w_call1 (w_name (e := eTalk) (x := talk_1) rfl)) hQ q)) (fun q => (s_next (s_ret (e := (eT2 PyData.str eTalk)) (w_tup2 (w_dC (e := PyData.str) (x := (Str.ofString "state")) rfl) (w_name (e := eTalk) (x := talk_1) rfl)) hQ q))) q)))) q)))) q)))) q))) q))
theorem ok_in_answered (T : Tx K mg) : FnOk P w K mg base CX0 6 T.ad_in_answered T.fd_in_answered ["talk", "x", "segment"] (spD K (F3 (pr3 eTalk PyData.int eSeg (eT2 PyData.str eTalk) y__in_answered))) := by
  refine T.d_in_answered.F.ok x_in_answered (fun vs H Q E h => spD_len F3_len h) (fun cdv A outer s H vs Q E hr h => ?_)
  have nd := x_in_answered.nd
  refine ⟨_, (pss_cons (ps_if (PW.pt (pw_or (pt_val (pe_call (ok_is_first_syn T) (hr.mono (by decide)) (by rfl) T.d_is_first_syn.g T.d_is_first_syn.F.kp T.d_is_first_syn.b .nil pass0 (pa_cons (pv 0) (pa_cons (pv 1) (pa_cons (pv 2) pa_nil))))) (pw_or1 (pt_val (pe_call (ok_is_syn_ack T) (hr.mono (by decide)) (by rfl) T.d_is_syn_ack.g T.d_is_syn_ack.F.kp T.d_is_syn_ack.b .nil pass0 (pa_cons (pv 0) (pa_cons (pv 1) (pa_cons (pv 2) (pa_cons (pe_ix ix_seq (pe_ix ix_seq (pv 0) pe_int (fun _ _ => rfl)) (pe_glob (v := .int 1) rfl T.c_END ⟨_, rfl⟩) (fun _ _ => rfl)) pa_nil))))))))) (pss_one (ps_ret (pe_tup (pa_cons pe_str (pa_cons (pv 0) pa_nil))))) pss_nil)
        (pss_cons (ps_if (PW.pt (pw_and (pt_val (pe_call (ok_is_rst T) (hr.mono (by decide)) (by rfl) T.d_is_rst.g T.d_is_rst.F.kp T.d_is_rst.b .nil pass0 (pa_cons (pv 2) pa_nil))) (pw_and1 (pt_cmpR op_eq (pe_ix ix_seq (pv 2) (pe_glob (v := .int 3) rfl T.c_SEQ ⟨_, rfl⟩) (fun _ _ => rfl)) (pe_ix ix_seq (pe_ix ix_seq (pv 0) (pe_op op_add pe_int (pv 1)) (fun _ _ => rfl)) (pe_glob (v := .int 1) rfl T.c_END ⟨_, rfl⟩) (fun _ _ => rfl)) (nomark _))))) (pss_one (ps_ret (pe_call (ok_ended T) (hr.mono (by decide)) (by rfl) T.d_ended.g T.d_ended.F.kp T.d_ended.b .nil pass0 (pa_cons (pv 0) pa_nil)))) pss_nil)
        (pss_cons (ps_if (PW.pt (pw_and (pt_cmpR op_eq (pv 1) pe_int (nomark _)) (pw_and (pt_cmpR op_in_seq (pe_call (ok_form T) (hr.mono (by decide)) (by rfl) T.d_form.g T.d_form.F.kp T.d_form.b .nil pass0 (pa_cons (pv 2) pa_nil)) (pe_tup (pa_cons (pe_glob (v := .int 16) rfl T.c_ACK ⟨_, rfl⟩) (pa_cons (pe_glob (v := .int 17) rfl T.c_FIN_ACK ⟨_, rfl⟩) pa_nil))) (by rfl)) (pw_and1 (pt_cmpR op_eq (pe_ix ix_seq (pv 2) (pe_glob (v := .int 4) rfl T.c_ACKED ⟨_, rfl⟩) (fun _ _ => rfl)) (pe_ix ix_seq (pe_ix ix_seq (pv 0) pe_int (fun _ _ => rfl)) (pe_glob (v := .int 1) rfl T.c_END ⟨_, rfl⟩) (fun _ _ => rfl)) (nomark _)))))) (pss_one (ps_ret (pe_call (ok_in_open T) hr (by rfl) T.d_in_open.g T.d_in_open.F.kp T.d_in_open.b .nil pass0 (pa_cons (pv 0) (pa_cons (pv 1) (pa_cons (pv 2) pa_nil)))))) pss_nil)
        (pss_one (ps_ret (pe_tup (pa_cons pe_str (pa_cons (pv 0) pa_nil)))))))), fn_pure ((rs_seq (rs_if (rt_or (rt_val (re_call (raC (rn 0) (raC (rn 1) (raC (rn 2) raN))))) (rt_val (re_call (raC (rn 0) (raC (rn 1) (raC (rn 2) (raC (ro rv_ix (RfE.b (ro rv_ix (RfE.b (rn 0)) (RfE.b (rc_int _)))) (RfE.b (rc_int _))) raN))))))) (rs_ret (re_tup (raC (rc_str _) (raC (rn 0) raN)))) rs_next)
        (rs_seq (rs_if (rt_and (rt_val (re_call (raC (rn 2) raN))) (rt_test (ro rv_eq (RfE.b (ro rv_ix (RfE.b (rn 2)) (RfE.b (rc_int _)))) (RfE.b (ro rv_ix (RfE.b (ro rv_ix (RfE.b (rn 0)) (RfE.b (ro rv_add (RfE.b (rc_int _)) (RfE.b (rn 1)))))) (RfE.b (rc_int _))))))) (rs_ret (re_call (raC (rn 0) raN))) rs_next)
        (rs_seq (rs_if (rt_and (rt_test (ro rv_eq (RfE.b (rn 1)) (RfE.b (rc_int _)))) (rt_and (rt_test (ro (rv_in false) (RfE.b (re_call (raC (rn 2) raN))) (RfE.b (re_tup (raC (rc_int _) (raC (rc_int _) raN)))))) (rt_test (ro rv_eq (RfE.b (ro rv_ix (RfE.b (rn 2)) (RfE.b (rc_int _)))) (RfE.b (ro rv_ix (RfE.b (ro rv_ix (RfE.b (rn 0)) (RfE.b (rc_int _)))) (RfE.b (rc_int _)))))))) (rs_ret (re_call (raC (rn 0) (raC (rn 1) (raC (rn 2) raN))))) rs_next)
        (rs_ret (re_tup (raC (rc_str _) (raC (rn 0) raN)))))))) h (by rw [spD_len F3_len h]; decide) (F3_in fun a0 a1 a2 Qd q => ?_)⟩
  obtain ⟨talk_1, x_1, segment_1, G, rfl, rfl, rfl, q, hQ⟩ := q
  delta y__in_answered at q
  exact (s_seq0 (s_if (t_or (t_val (w_call3 (w_name (e := eTalk) (x := talk_1) rfl) (w_name (e := PyData.int) (x := x_1) rfl) (w_name (e := eSeg) (x := segment_1) rfl))) (t_val (w_call4 (w_name (e := eTalk) (x := talk_1) rfl) (w_name (e := PyData.int) (x := x_1) rfl) (w_name (e := eSeg) (x := segment_1) rfl) (w_prj (e := eSide) (e' := PyData.int) 1 (fun p : Side => p.2.1) (w_prj (e := eTalk) (e' := eSide) 1 (fun p : Talk => p.2.1) (w_name (e := eTalk) (x := talk_1) rfl) (fun _ => ⟨_, rfl, dix_nn (by decide) rfl⟩)) (fun _ => ⟨_, rfl, dix_nn (by decide) rfl⟩))))) (fun q => (s_ret (e := (eT2 PyData.str eTalk)) (w_tup2 (w_dC (e := PyData.str) (x := (Str.ofString "again")) rfl) (w_name (e := eTalk) (x := talk_1) rfl)) hQ q)) (fun q => (s_next (s_seq0 (s_if (t_and (t_val (w_call1 (w_name (e := eSeg) (x := segment_1) rfl))) (t_val (w_eqS (r := fun (a : Int) (b : Int) => decide (a = b)) (w_prj (e := eSeg) (e' := PyData.int) 3 (fun p : Seg => p.2.2.2.1) (w_name (e := eSeg) (x := segment_1) rfl) (fun _ => ⟨_, rfl, dix_nn (by decide) rfl⟩)) (w_prj (e := eSide) (e' := PyData.int) 1 (fun p : Side => p.2.1) (w_cast (e := eSide) (w_ix (e := eD) (w_co (e := eTalk) (e' := (eU eD)) (fun a : Talk => ([(PyData.str a.1), (eSide a.2.1), ((eO eSide) a.2.2)] : (List D))) (w_name (e := eTalk) (x := talk_1) rfl) (fun _ => rfl)) (w_I0 (g' := fun i j => i + j) (w_dC (e := PyData.int) (x := (1 : Int)) rfl) (w_name (e := PyData.int) (x := x_1) rfl) (fun _ _ => rfl)) (fun _ => rfl))) (fun _ => ⟨_, rfl, dix_nn (by decide) rfl⟩)) r_I))) (fun q => (s_ret (e := (eT2 PyData.str eTalk)) (w_call1 (w_name (e := eTalk) (x := talk_1) rfl)) hQ q)) (fun q => (s_next (s_seq0 (s_if (t_and (t_val (w_eqS (r := fun (a : Int) (b : Int) => decide (a = b)) (w_name (e := PyData.int) (x := x_1) rfl) (w_dC (e := PyData.int) (x := (0 : Int)) rfl) r_I)) (t_and (t_val (w_in fl_I (w_call1 (w_name (e := eSeg) (x := segment_1) rfl)) (w_co (e := (eT2 PyData.int PyData.int)) (e' := (eU PyData.int)) (fun a : (Int × Int) => ([a.1, a.2] : (List Int))) (w_tup2 (w_dC (e := PyData.int) (x := (16 : Int)) rfl) (w_dC (e := PyData.int) (x := (17 : Int)) rfl)) (fun _ => rfl)) (fun _ => rfl))) (t_val (w_eqS (r := fun (a : Int) (b : Int) => decide (a = b)) (w_prj (e := eSeg) (e' := PyData.int) 4 (fun p : Seg => p.2.2.2.2.1) (w_name (e := eSeg) (x := segment_1) rfl) (fun _ => ⟨_, rfl, dix_nn (by decide) rfl⟩)) (w_prj (e := eSide) (e' := PyData.int) 1 (fun p : Side => p.2.1) (w_get (e := eSide) (w_prj (e := eTalk) (e' := (eO eSide)) 2 (fun p : Talk => p.2.2) (w_name (e := eTalk) (x := talk_1) rfl) (fun _ => ⟨_, rfl, dix_nn (by decide) rfl⟩))) (fun _ => ⟨_, rfl, dix_nn (by decide) rfl⟩)) r_I)))) (fun q => (s_ret (e := (eT2 PyData.str eTalk)) (w_call3 (w_name (e := eTalk) (x := talk_1) rfl) (w_name (e := PyData.int) (x := x_1) rfl) (w_name (e := eSeg) (x := segment_1) rfl)) hQ q)) (fun q => (s_next (s_ret (e := (eT2 PyData.str eTalk)) (w_tup2 (w_dC (e := PyData.str) (x := (Str.ofString "state")) rfl) (w_name (e := eTalk) (x := talk_1) rfl)) hQ q))) q)))) q)))) q))
theorem ok_word_in_over (T : Tx K mg) : FnOk P w K mg base CX0 4 T.ad_word_in_over T.fd_word_in_over ["talk", "x", "segment"] (spD K (F3 (pr3 eTalk PyData.int eSeg PyData.str y__word_in_over))) := by
  refine T.d_word_in_over.F.ok x_word_in_over (fun vs H Q E h => spD_len F3_len h) (fun cdv A outer s H vs Q E hr h => ?_)
  have nd := x_word_in_over.nd
  refine ⟨_, (pss_cons (ps_if (PW.pt (pw_and (pt_cmpR op_eq (pv 1) pe_int (nomark _)) (pw_and (pt_cmpR op_eq (pe_call (ok_form T) (hr.mono (by decide)) (by rfl) T.d_form.g T.d_form.F.kp T.d_form.b .nil pass0 (pa_cons (pv 2) pa_nil)) (pe_glob (v := .int 2) rfl T.c_SYN ⟨_, rfl⟩) (nomark _)) (pw_and1 (pt_val (pe_call (ok_later T) (hr.mono (by decide)) (by rfl) T.d_later.g T.d_later.F.kp T.d_later.b .nil pass0 (pa_cons (pe_ix ix_seq (pv 2) (pe_glob (v := .int 3) rfl T.c_SEQ ⟨_, rfl⟩) (fun _ _ => rfl)) (pa_cons (pe_ix ix_seq (pe_ix ix_seq (pv 0) pe_int (fun _ _ => rfl)) (pe_glob (v := .int 1) rfl T.c_END ⟨_, rfl⟩) (fun _ _ => rfl)) pa_nil)))))))) (pss_one (ps_ret pe_str)) pss_nil)
        (pss_cons (ps_if (PW.pt (pw_or (pt_truth (pe_op op_and (pe_ix ix_seq (pv 2) (pe_glob (v := .int 5) rfl T.c_FLAGS ⟨_, rfl⟩) (fun _ _ => rfl)) pe_int) (by intro _; rfl)) (pw_or (pt_cmpR op_isN (pe_ix ix_seq (pv 0) pe_int (fun _ _ => rfl)) pe_non (nomark _)) (pw_or1 (pt_not (pt_val (pe_call (ok_lies_well T) hr (by rfl) T.d_lies_well.g T.d_lies_well.F.kp T.d_lies_well.b .nil pass0 (pa_cons (pv 0) (pa_cons (pv 1) (pa_cons (pv 2) pa_nil)))))))))) (pss_one (ps_ret pe_str)) pss_nil)
        (pss_one (ps_ret pe_str)))), fn_pure ((rs_seq (rs_if (rt_and (rt_test (ro rv_eq (RfE.b (rn 1)) (RfE.b (rc_int _)))) (rt_and (rt_test (ro rv_eq (RfE.b (re_call (raC (rn 2) raN))) (RfE.b (rc_int _)))) (rt_val (re_call (raC (ro rv_ix (RfE.b (rn 2)) (RfE.b (rc_int _))) (raC (ro rv_ix (RfE.b (ro rv_ix (RfE.b (rn 0)) (RfE.b (rc_int _)))) (RfE.b (rc_int _))) raN)))))) (rs_ret (rc_str _)) rs_next)
        (rs_seq (rs_if (rt_or (rt_tru (RfE.b (ro rv_and (RfE.b (ro rv_ix (RfE.b (rn 2)) (RfE.b (rc_int _)))) (RfE.b (rc_int _))))) (rt_or (rt_test (ro rv_isN (RfE.b (ro rv_ix (RfE.b (rn 0)) (RfE.b (rc_int _)))) (RfE.b rc_non))) (rt_not (rt_val (re_call (raC (rn 0) (raC (rn 1) (raC (rn 2) raN)))))))) (rs_ret (rc_str _)) rs_next)
        (rs_ret (rc_str _))))) h (by rw [spD_len F3_len h]; decide) (F3_in fun a0 a1 a2 Qd q => ?_)⟩
  obtain ⟨talk_1, x_1, segment_1, G, rfl, rfl, rfl, q, hQ⟩ := q
  delta y__word_in_over at q
  exact (s_seq0 (s_if (t_and (t_val (w_eqS (r := fun (a : Int) (b : Int) => decide (a = b)) (w_name (e := PyData.int) (x := x_1) rfl) (w_dC (e := PyData.int) (x := (0 : Int)) rfl) r_I)) (t_and (t_val (w_eqS (r := fun (a : Int) (b : Int) => decide (a = b)) (w_call1 (w_name (e := eSeg) (x := segment_1) rfl)) (w_dC (e := PyData.int) (x := (2 : Int)) rfl) r_I)) (t_val (w_call2 (w_prj (e := eSeg) (e' := PyData.int) 3 (fun p : Seg => p.2.2.2.1) (w_name (e := eSeg) (x := segment_1) rfl) (fun _ => ⟨_, rfl, dix_nn (by decide) rfl⟩)) (w_prj (e := eSide) (e' := PyData.int) 1 (fun p : Side => p.2.1) (w_prj (e := eTalk) (e' := eSide) 1 (fun p : Talk => p.2.1) (w_name (e := eTalk) (x := talk_1) rfl) (fun _ => ⟨_, rfl, dix_nn (by decide) rfl⟩)) (fun _ => ⟨_, rfl, dix_nn (by decide) rfl⟩)))))) (fun q => (s_ret (e := PyData.str) (w_dC (e := PyData.str) (x := (Str.ofString "new")) rfl) hQ q)) (fun q => (s_next (s_seq0 (s_if (t_or (t_tru (tr_of tr_I (w_I0 (g' := Builtin.bitAnd) (w_prj (e := eSeg) (e' := PyData.int) 5 (fun p : Seg => p.2.2.2.2.2.1) (w_name (e := eSeg) (x := segment_1) rfl) (fun _ => ⟨_, rfl, dix_nn (by decide) rfl⟩)) (w_dC (e := PyData.int) (x := (2 : Int)) rfl) (fun _ _ => rfl)))) (t_or (t_val (w_isN (r := fun a : (Option Side) => a.isNone) (w_prj (e := eTalk) (e' := (eO eSide)) 2 (fun p : Talk => p.2.2) (w_name (e := eTalk) (x := talk_1) rfl) (fun _ => ⟨_, rfl, dix_nn (by decide) rfl⟩)) (n_O (fun _ => rfl)))) (t_not (t_val (w_call3 (w_name (e := eTalk) (x := talk_1) rfl) (w_name (e := PyData.int) (x := x_1) rfl) (w_name (e := eSeg) (x := segment_1) rfl)))))) (fun q => (s_ret (e := PyData.str) (w_dC (e := PyData.str) (x := (Str.ofString "over")) rfl) hQ q)) (fun q => (s_next (s_ret (e := PyData.str) (w_dC (e := PyData.str) (x := (Str.ofString "again")) rfl) hQ q))) q)))) q))
theorem ok_tracked (T : Tx K mg) : FnOk P w K mg base CX0 7 T.ad_tracked T.fd_tracked ["talk", "x", "segment"] (spD K (F3 (pr3 eTalk PyData.int eSeg (eT2 PyData.str eTalk) y_tracked))) := by
  refine T.d_tracked.F.ok x_tracked (fun vs H Q E h => spD_len F3_len h) (fun cdv A outer s H vs Q E hr h => ?_)
  have nd := x_tracked.nd
  refine ⟨_, (pss_cons (ps_set (i := 3) nd rfl (Or.inl rfl) (pe_ix ix_seq (pv 0) pe_int (fun _ _ => rfl)))
        (pss_cons (ps_if (pt_val (pe_call (ok_is_odd T) (hr.mono (by decide)) (by rfl) T.d_is_odd.g T.d_is_odd.F.kp T.d_is_odd.b .nil pass0 (pa_cons (pv 2) pa_nil))) (pss_one (ps_ret (pe_tup (pa_cons pe_str (pa_cons (pv 0) pa_nil))))) pss_nil)
        (pss_cons (ps_if (pt_cmpR op_eq (pv 3) pe_str (nomark _)) (pss_one (ps_ret (pe_call (ok_in_asked T) (hr.mono (by decide)) (by rfl) T.d_in_asked.g T.d_in_asked.F.kp T.d_in_asked.b .nil pass0 (pa_cons (pv 0) (pa_cons (pv 1) (pa_cons (pv 2) pa_nil)))))) pss_nil)
        (pss_cons (ps_if (pt_cmpR op_eq (pv 3) pe_str (nomark _)) (pss_one (ps_ret (pe_call (ok_in_answered T) hr (by rfl) T.d_in_answered.g T.d_in_answered.F.kp T.d_in_answered.b .nil pass0 (pa_cons (pv 0) (pa_cons (pv 1) (pa_cons (pv 2) pa_nil)))))) pss_nil)
        (pss_cons (ps_if (pt_cmpR op_eq (pv 3) pe_str (nomark _)) (pss_one (ps_ret (pe_tup (pa_cons (pe_call (ok_word_in_over T) (hr.mono (by decide)) (by rfl) T.d_word_in_over.g T.d_word_in_over.F.kp T.d_word_in_over.b .nil pass0 (pa_cons (pv 0) (pa_cons (pv 1) (pa_cons (pv 2) pa_nil)))) (pa_cons (pv 0) pa_nil))))) pss_nil)
        (pss_one (ps_ret (pe_call (ok_in_open T) (hr.mono (by decide)) (by rfl) T.d_in_open.g T.d_in_open.F.kp T.d_in_open.b .nil pass0 (pa_cons (pv 0) (pa_cons (pv 1) (pa_cons (pv 2) pa_nil))))))))))), fn_pure ((rs_seq (rs_asg (ro rv_ix (RfE.b (rn 0)) (RfE.b (rc_int _))) (rg_name 3))
        (rs_seq (rs_if (rt_val (re_call (raC (rn 2) raN))) (rs_ret (re_tup (raC (rc_str _) (raC (rn 0) raN)))) rs_next)
        (rs_seq (rs_if (rt_test (ro rv_eq (RfE.b (rn 3)) (RfE.b (rc_str _)))) (rs_ret (re_call (raC (rn 0) (raC (rn 1) (raC (rn 2) raN))))) rs_next)
        (rs_seq (rs_if (rt_test (ro rv_eq (RfE.b (rn 3)) (RfE.b (rc_str _)))) (rs_ret (re_call (raC (rn 0) (raC (rn 1) (raC (rn 2) raN))))) rs_next)
        (rs_seq (rs_if (rt_test (ro rv_eq (RfE.b (rn 3)) (RfE.b (rc_str _)))) (rs_ret (re_tup (raC (re_call (raC (rn 0) (raC (rn 1) (raC (rn 2) raN)))) (raC (rn 0) raN)))) rs_next)
        (rs_ret (re_call (raC (rn 0) (raC (rn 1) (raC (rn 2) raN))))))))))) h (by rw [spD_len F3_len h]; decide) (F3_in fun a0 a1 a2 Qd q => ?_)⟩
  obtain ⟨talk_1, x_1, segment_1, G, rfl, rfl, rfl, q, hQ⟩ := q
  delta y_tracked at q
  exact (s_seq0 (s_asg (e := PyData.str) (w_prj (e := eTalk) (e' := PyData.str) 0 (fun p : Talk => p.1) (w_name (e := eTalk) (x := talk_1) rfl) (fun _ => ⟨_, rfl, dix_nn (by decide) rfl⟩)) (fun state_1 : Str => [sv (eTalk talk_1), sv (PyData.int x_1), sv (eSeg segment_1), sv (PyData.str state_1)]) (fun _ => rfl) (fun state_1 q => (s_seq0 (s_if (t_val (w_call1 (w_name (e := eSeg) (x := segment_1) rfl))) (fun q => (s_ret (e := (eT2 PyData.str eTalk)) (w_tup2 (w_dC (e := PyData.str) (x := (Str.ofString "odd")) rfl) (w_name (e := eTalk) (x := talk_1) rfl)) hQ q)) (fun q => (s_next (s_seq0 (s_if (t_val (w_eqS (r := fun (a : Str) (b : Str) => decide (a = b)) (w_name (e := PyData.str) (x := state_1) rfl) (w_dC (e := PyData.str) (x := (Str.ofString "asked")) rfl) r_S)) (fun q => (s_ret (e := (eT2 PyData.str eTalk)) (w_call3 (w_name (e := eTalk) (x := talk_1) rfl) (w_name (e := PyData.int) (x := x_1) rfl) (w_name (e := eSeg) (x := segment_1) rfl)) hQ q)) (fun q => (s_next (s_seq0 (s_if (t_val (w_eqS (r := fun (a : Str) (b : Str) => decide (a = b)) (w_name (e := PyData.str) (x := state_1) rfl) (w_dC (e := PyData.str) (x := (Str.ofString "answered")) rfl) r_S)) (fun q => (s_ret (e := (eT2 PyData.str eTalk)) (w_call3 (w_name (e := eTalk) (x := talk_1) rfl) (w_name (e := PyData.int) (x := x_1) rfl) (w_name (e := eSeg) (x := segment_1) rfl)) hQ q)) (fun q => (s_next (s_seq0 (s_if (t_val (w_eqS (r := fun (a : Str) (b : Str) => decide (a = b)) (w_name (e := PyData.str) (x := state_1) rfl) (w_dC (e := PyData.str) (x := (Str.ofString "over")) rfl) r_S)) (fun q => (s_ret (e := (eT2 PyData.str eTalk)) (w_tup2 (w_call3 (w_name (e := eTalk) (x := talk_1) rfl) (w_name (e := PyData.int) (x := x_1) rfl) (w_name (e := eSeg) (x := segment_1) rfl)) (w_name (e := eTalk) (x := talk_1) rfl)) hQ q)) (fun q => (s_next (s_ret (e := (eT2 PyData.str eTalk)) (w_call3 (w_name (e := eTalk) (x := talk_1) rfl) (w_name (e := PyData.int) (x := x_1) rfl) (w_name (e := eSeg) (x := segment_1) rfl)) hQ q))) q)))) q)))) q)))) q))) q))
theorem ok_law_mod (T : Tx K mg) : FnOk P w K mg base CX0 1 T.ad_law_mod T.fd_law_mod ["number"] (spD K (F1 (pr1 PyData.int PyData.int y__law_mod))) := by
  refine T.d_law_mod.F.ok x_law_mod (fun vs H Q E h => spD_len F1_len h) (fun cdv A outer s H vs Q E hr h => ?_)
  have nd := x_law_mod.nd
  refine ⟨_, (pss_one (ps_ret (pe_op op_mod (pe_callTy call_int1 (by rfl) T.b_int (by decide +kernel) (pa_cons (pv 0) pa_nil)) pe_int))), fn_pure ((rs_ret (ro rv_mod (RfE.b (re_cb ro_int (rbC (RfE.b (rn 0)) rbN))) (RfE.b (rc_int _))))) h (by rw [spD_len F1_len h]; decide) (F1_in fun a0 Qd q => ?_)⟩
  obtain ⟨number_1, G, rfl, q, hQ⟩ := q
  delta y__law_mod at q
  exact (s_ret (e := PyData.int) (w_I (g' := fun i j => i % j) (w_int (w_name (e := PyData.int) (x := number_1) rfl)) (w_dC (e := PyData.int) (x := (4294967296 : Int)) rfl) (fun _ _ => rfl)) hQ q)
theorem ok_law_later (T : Tx K mg) : FnOk P w K mg base CX0 2 T.ad_law_later T.fd_law_later ["a", "b"] (spD K (F2 (pr2 PyData.int PyData.int PyData.bool y__law_later))) := by
  refine T.d_law_later.F.ok x_law_later (fun vs H Q E h => spD_len F2_len h) (fun cdv A outer s H vs Q E hr h => ?_)
  have nd := x_law_later.nd
  refine ⟨_, (pss_cons (ps_set (i := 2) nd rfl (Or.inl rfl) (pe_call (ok_law_mod T) hr (by rfl) T.d_law_mod.g T.d_law_mod.F.kp T.d_law_mod.b .nil pass0 (pa_cons (pe_op op_sub (pv 0) (pv 1)) pa_nil)))
        (pss_one (ps_ret (pe_and (pe_cmpR op_gt (pv 2) pe_int (nomark _)) (pe_one (pe_cmpR op_lt (pv 2) pe_int (nomark _))))))), fn_pure ((rs_seq (rs_asg (re_call (raC (ro rv_sub (RfE.b (rn 0)) (RfE.b (rn 1))) raN)) (rg_name 2))
        (rs_ret (re_and (ro rv_gt (RfE.b (rn 2)) (RfE.b (rc_int _))) (ro rv_lt (RfE.b (rn 2)) (RfE.b (rc_int _))))))) h (by rw [spD_len F2_len h]; decide) (F2_in fun a0 a1 Qd q => ?_)⟩
  obtain ⟨a_1, b_1, G, rfl, rfl, q, hQ⟩ := q
  delta y__law_later at q
  exact (s_seq0 (s_asg (e := PyData.int) (w_call1 (w_I0 (g' := fun i j => i - j) (w_name (e := PyData.int) (x := a_1) rfl) (w_name (e := PyData.int) (x := b_1) rfl) (fun _ _ => rfl))) (fun far_1 : Int => [sv (PyData.int a_1), sv (PyData.int b_1), sv (PyData.int far_1)]) (fun _ => rfl) (fun far_1 q => (s_ret (e := PyData.bool) (w_andP (w_I0 (g' := fun i j => decide (j < i)) (w_name (e := PyData.int) (x := far_1) rfl) (w_dC (e := PyData.int) (x := (0 : Int)) rfl) (fun _ _ => rfl)) (w_I0 (g' := fun i j => decide (i < j)) (w_name (e := PyData.int) (x := far_1) rfl) (w_dC (e := PyData.int) (x := (2147483648 : Int)) rfl) (fun _ _ => rfl))) hQ q)) q))
theorem ok_law_shift (T : Tx K mg) : FnOk P w K mg base CX0 1 T.ad_law_shift T.fd_law_shift ["options"] (spD K (F1 (pr1 (eU PyData.int) (eO PyData.int) y__law_shift))) := by
  refine T.d_law_shift.F.ok x_law_shift (fun vs H Q E h => spD_len F1_len h) (fun cdv A outer s H vs Q E hr h => ?_)
  have nd := x_law_shift.nd
  refine ⟨_, (pss_cons (ps_for PassesOwn.never rfl (pi_range1 (by rfl) T.b_range (pa_cons (pe_op op_sub (pe_callB call_len_seq (by rfl) T.b_len (by decide +kernel) (pa_cons (pv 0) pa_nil)) pe_int) pa_nil)) (pg_name (i := 1) nd rfl (Or.inl rfl)) (pss_one (ps_if (PW.pt (pw_and (pt_cmpR op_eq (pe_ix ix_seq (pv 0) (pv 1) (fun _ _ => rfl)) pe_int (nomark _)) (pw_and1 (pt_cmpR op_eq (pe_ix ix_seq (pv 0) (pe_op op_add (pv 1) pe_int) (fun _ _ => rfl)) pe_int (nomark _))))) (pss_one (ps_ret (pe_callB (call_min2 rfl) (by rfl) T.b_min (by decide +kernel) (pa_cons (pe_ix ix_seq (pv 0) (pe_op op_add (pv 1) pe_int) (fun _ _ => rfl)) (pa_cons pe_int pa_nil))))) pss_nil)))
        (pss_one (ps_ret pe_non))), fn_pure ((rs_seq (rs_for (ri_r1 (rbC (RfE.b (ro rv_sub (RfE.b (re_cb ro_len (rbC (RfE.b (rn 0)) rbN))) (RfE.b (rc_int _)))) rbN)) (rg_name 1) (rs_if (rt_and (rt_test (ro rv_eq (RfE.b (ro rv_ix (RfE.b (rn 0)) (RfE.b (rn 1)))) (RfE.b (rc_int _)))) (rt_test (ro rv_eq (RfE.b (ro rv_ix (RfE.b (rn 0)) (RfE.b (ro rv_add (RfE.b (rn 1)) (RfE.b (rc_int _)))))) (RfE.b (rc_int _))))) (rs_ret (re_cb ro_min (rbC (RfE.b (ro rv_ix (RfE.b (rn 0)) (RfE.b (ro rv_add (RfE.b (rn 1)) (RfE.b (rc_int _)))))) (rbC (RfE.b (rc_int _)) rbN)))) rs_next))
        (rs_ret rc_non))) h (by rw [spD_len F1_len h]; decide) (F1_in fun a0 Qd q => ?_)⟩
  obtain ⟨options_1, G, rfl, q, hQ⟩ := q
  delta y__law_shift at q
  exact (s_seq0 (s_for2 (e := PyData.int) (fun (xs : List Int) (s_1 : Unit) => y__law_shift_l1 options_1 G (G none) xs) (fun (s_1 : Unit) => (G none)) (fun (s_1 : Unit) (u_4 : Option D) => [sv ((eU PyData.int) options_1), (Option.map En.d u_4)]) () none rfl (i_r1 (w_I0 (g' := fun i j => i - j) (w_len (e := PyData.int) (w_name (e := (eU PyData.int)) (x := options_1) rfl) (fun _ => rfl)) (w_dC (e := PyData.int) (x := (2 : Int)) rfl) (fun _ _ => rfl))) (fun s_1 u_4 q => (s_ret (e := (eO PyData.int)) (w_co (e := eN) (e' := (eO PyData.int)) (fun a : Unit => (none : (Option Int))) (w_dC (e := eN) (x := ()) rfl) (fun _ => rfl)) hQ q)) (fun _ q => q) (fun k_1 r_1 s_1 u_4 N_1 B_1 hN_1 hB_1 q => (gn (env' := [sv ((eU PyData.int) options_1), sv (PyData.int k_1)]) rfl (s_if (t_and (t_val (w_eqS (r := fun (a : Int) (b : Int) => decide (a = b)) (w_ix (e := PyData.int) (w_name (e := (eU PyData.int)) (x := options_1) rfl) (w_name (e := PyData.int) (x := k_1) rfl) (fun _ => rfl)) (w_dC (e := PyData.int) (x := (3 : Int)) rfl) r_I)) (t_val (w_eqS (r := fun (a : Int) (b : Int) => decide (a = b)) (w_ix (e := PyData.int) (w_name (e := (eU PyData.int)) (x := options_1) rfl) (w_I0 (g' := fun i j => i + j) (w_name (e := PyData.int) (x := k_1) rfl) (w_dC (e := PyData.int) (x := (1 : Int)) rfl) (fun _ _ => rfl)) (fun _ => rfl)) (w_dC (e := PyData.int) (x := (3 : Int)) rfl) r_I))) (fun q => (s_ret (e := (eO PyData.int)) (w_co (e := PyData.int) (e' := (eO PyData.int)) (fun a : Int => ((some a) : (Option Int))) (w_I2 (w_ix (e := PyData.int) (w_name (e := (eU PyData.int)) (x := options_1) rfl) (w_I0 (g' := fun i j => i + j) (w_name (e := PyData.int) (x := k_1) rfl) (w_dC (e := PyData.int) (x := (2 : Int)) rfl) (fun _ _ => rfl)) (fun _ => rfl)) (w_dC (e := PyData.int) (x := (14 : Int)) rfl)) (fun _ => rfl)) hQ q)) (fun q => (s_next (hN_1 () (some (PyData.int k_1)) q))) q))) q))
theorem ok_law_form (T : Tx K mg) : FnOk P w K mg base CX0 1 T.ad_law_form T.fd_law_form ["segment"] (spD K (F1 (pr1 eSeg (eL PyData.int) y__law_form))) := by
  refine T.d_law_form.F.ok x_law_form (fun vs H Q E h => spD_len F1_len h) (fun cdv A outer s H vs Q E hr h => ?_)
  have nd := x_law_form.nd
  refine ⟨_, (pss_cons (ps_set (i := 1) nd rfl (Or.inl rfl) (pe_ix ix_seq (pv 0) pe_int (fun _ _ => rfl)))
        (pss_one (ps_ret (pe_lst (pa_cons (pe_op op_mod (pe_callTy call_int1 (by rfl) T.b_int (by decide +kernel) (pa_cons (pv 1) pa_nil)) pe_int) (pa_cons (pe_op op_mod (pe_callTy call_int1 (by rfl) T.b_int (by decide +kernel) (pa_cons (pe_op op_fdiv (pv 1) pe_int) pa_nil)) pe_int) (pa_cons (pe_op op_mod (pe_callTy call_int1 (by rfl) T.b_int (by decide +kernel) (pa_cons (pe_op op_fdiv (pv 1) pe_int) pa_nil)) pe_int) (pa_cons (pe_op op_mod (pe_callTy call_int1 (by rfl) T.b_int (by decide +kernel) (pa_cons (pe_op op_fdiv (pv 1) pe_int) pa_nil)) pe_int) pa_nil)))))))), fn_pure ((rs_seq (rs_asg (ro rv_ix (RfE.b (rn 0)) (RfE.b (rc_int _))) (rg_name 1))
        (rs_ret (RfF.e (rf_lst (raC (ro rv_mod (RfE.b (re_cb ro_int (rbC (RfE.b (rn 1)) rbN))) (RfE.b (rc_int _))) (raC (ro rv_mod (RfE.b (re_cb ro_int (rbC (RfE.b (ro rv_fdiv (RfE.b (rn 1)) (RfE.b (rc_int _)))) rbN))) (RfE.b (rc_int _))) (raC (ro rv_mod (RfE.b (re_cb ro_int (rbC (RfE.b (ro rv_fdiv (RfE.b (rn 1)) (RfE.b (rc_int _)))) rbN))) (RfE.b (rc_int _))) (raC (ro rv_mod (RfE.b (re_cb ro_int (rbC (RfE.b (ro rv_fdiv (RfE.b (rn 1)) (RfE.b (rc_int _)))) rbN))) (RfE.b (rc_int _))) raN))))))))) h (by rw [spD_len F1_len h]; decide) (F1_in fun a0 Qd q => ?_)⟩
  obtain ⟨segment_1, G, rfl, q, hQ⟩ := q
  delta y__law_form at q
  exact (s_seq0 (s_asg (e := PyData.int) (w_prj (e := eSeg) (e' := PyData.int) 5 (fun p : Seg => p.2.2.2.2.2.1) (w_name (e := eSeg) (x := segment_1) rfl) (fun _ => ⟨_, rfl, dix_nn (by decide) rfl⟩)) (fun flags_1 : Int => [sv (eSeg segment_1), sv (PyData.int flags_1)]) (fun _ => rfl) (fun flags_1 q => (s_ret (e := (eL PyData.int)) (w_list (l_cons (e := PyData.int) (w_I (g' := fun i j => i % j) (w_int (w_name (e := PyData.int) (x := flags_1) rfl)) (w_dC (e := PyData.int) (x := (2 : Int)) rfl) (fun _ _ => rfl)) (l_cons (e := PyData.int) (w_I (g' := fun i j => i % j) (w_int (w_I (g' := fun i j => i / j) (w_name (e := PyData.int) (x := flags_1) rfl) (w_dC (e := PyData.int) (x := (2 : Int)) rfl) (fun _ _ => rfl))) (w_dC (e := PyData.int) (x := (2 : Int)) rfl) (fun _ _ => rfl)) (l_cons (e := PyData.int) (w_I (g' := fun i j => i % j) (w_int (w_I (g' := fun i j => i / j) (w_name (e := PyData.int) (x := flags_1) rfl) (w_dC (e := PyData.int) (x := (4 : Int)) rfl) (fun _ _ => rfl))) (w_dC (e := PyData.int) (x := (2 : Int)) rfl) (fun _ _ => rfl)) (l_cons (e := PyData.int) (w_I (g' := fun i j => i % j) (w_int (w_I (g' := fun i j => i / j) (w_name (e := PyData.int) (x := flags_1) rfl) (w_dC (e := PyData.int) (x := (16 : Int)) rfl) (fun _ _ => rfl))) (w_dC (e := PyData.int) (x := (2 : Int)) rfl) (fun _ _ => rfl)) (l_nil (e := PyData.int))))))) hQ q)) q))
theorem ok_law_is_odd (T : Tx K mg) : FnOk P w K mg base CX0 2 T.ad_law_is_odd T.fd_law_is_odd ["segment"] (spD K (F1 (pr1 eSeg PyData.bool y__law_is_odd))) := by
  refine T.d_law_is_odd.F.ok x_law_is_odd (fun vs H Q E h => spD_len F1_len h) (fun cdv A outer s H vs Q E hr h => ?_)
  have nd := x_law_is_odd.nd
  refine ⟨_, (pss_cons (ps_set (i := 1) nd rfl (Or.inl rfl) (pe_call (ok_law_form T) hr (by rfl) T.d_law_form.g T.d_law_form.F.kp T.d_law_form.b .nil pass0 (pa_cons (pv 0) pa_nil)))
        (pss_cons (ps_set (i := 2) nd rfl (Or.inl rfl) (pe_lst (pa_cons (pe_lst (pa_cons pe_int (pa_cons pe_int (pa_cons pe_int (pa_cons pe_int pa_nil))))) (pa_cons (pe_lst (pa_cons pe_int (pa_cons pe_int (pa_cons pe_int (pa_cons pe_int pa_nil))))) (pa_cons (pe_lst (pa_cons pe_int (pa_cons pe_int (pa_cons pe_int (pa_cons pe_int pa_nil))))) (pa_cons (pe_lst (pa_cons pe_int (pa_cons pe_int (pa_cons pe_int (pa_cons pe_int pa_nil))))) (pa_cons (pe_lst (pa_cons pe_int (pa_cons pe_int (pa_cons pe_int (pa_cons pe_int pa_nil))))) (pa_cons (pe_lst (pa_cons pe_int (pa_cons pe_int (pa_cons pe_int (pa_cons pe_int pa_nil))))) pa_nil))))))))
        (pss_one (ps_ret (pe_or (pe_cmpR (op_notInD (Room.u65 hr)) (pv 1) (pv 2) (by rfl)) (pe_one (pe_and (pe_cmpR op_eq (pe_ix ix_seq (pv 1) pe_int (fun _ _ => rfl)) pe_int (nomark _)) (pe_one (pe_cmpR op_gt (pe_callB call_len_seq (by rfl) T.b_len (by decide +kernel) (pa_cons (pe_ix ix_seq (pv 0) pe_int (fun _ _ => rfl)) pa_nil)) pe_int (nomark _)))))))))), fn_pure ((rs_seq (rs_asg (re_call (raC (rn 0) raN)) (rg_name 1))
        (rs_seq (rs_asg (RfF.e (show RfF _ _ (dCL ([PyData.list [PyData.int 0, PyData.int 1, PyData.int 0, PyData.int 0], PyData.list [PyData.int 0, PyData.int 1, PyData.int 0, PyData.int 1], PyData.list [PyData.int 0, PyData.int 0, PyData.int 0, PyData.int 1], PyData.list [PyData.int 1, PyData.int 0, PyData.int 0, PyData.int 1], PyData.list [PyData.int 0, PyData.int 0, PyData.int 1, PyData.int 0], PyData.list [PyData.int 0, PyData.int 0, PyData.int 1, PyData.int 1]])) from rf_lst (raC (RfF.e (show RfF _ _ (dCL ([PyData.int 0, PyData.int 1, PyData.int 0, PyData.int 0])) from rf_lst (raC (rc_int _) (raC (rc_int _) (raC (rc_int _) (raC (rc_int _) raN)))))) (raC (RfF.e (show RfF _ _ (dCL ([PyData.int 0, PyData.int 1, PyData.int 0, PyData.int 1])) from rf_lst (raC (rc_int _) (raC (rc_int _) (raC (rc_int _) (raC (rc_int _) raN)))))) (raC (RfF.e (show RfF _ _ (dCL ([PyData.int 0, PyData.int 0, PyData.int 0, PyData.int 1])) from rf_lst (raC (rc_int _) (raC (rc_int _) (raC (rc_int _) (raC (rc_int _) raN)))))) (raC (RfF.e (show RfF _ _ (dCL ([PyData.int 1, PyData.int 0, PyData.int 0, PyData.int 1])) from rf_lst (raC (rc_int _) (raC (rc_int _) (raC (rc_int _) (raC (rc_int _) raN)))))) (raC (RfF.e (show RfF _ _ (dCL ([PyData.int 0, PyData.int 0, PyData.int 1, PyData.int 0])) from rf_lst (raC (rc_int _) (raC (rc_int _) (raC (rc_int _) (raC (rc_int _) raN)))))) (raC (RfF.e (show RfF _ _ (dCL ([PyData.int 0, PyData.int 0, PyData.int 1, PyData.int 1])) from rf_lst (raC (rc_int _) (raC (rc_int _) (raC (rc_int _) (raC (rc_int _) raN)))))) raN)))))))) (rg_name 2))
        (rs_ret (re_or (ro rv_ninDp (RfE.b (rn 1)) (RfE.b (rn 2))) (re_and (ro rv_eq (RfE.b (ro rv_ix (RfE.b (rn 1)) (RfE.b (rc_int _)))) (RfE.b (rc_int _))) (ro rv_gt (RfE.b (re_cb ro_len (rbC (RfE.b (ro rv_ix (RfE.b (rn 0)) (RfE.b (rc_int _)))) rbN))) (RfE.b (rc_int _))))))))) h (by rw [spD_len F1_len h]; decide) (F1_in fun a0 Qd q => ?_)⟩
  obtain ⟨segment_1, G, rfl, q, hQ⟩ := q
  delta y__law_is_odd at q
  exact (s_seq0 (s_asg (e := (eL PyData.int)) (w_call1 (w_name (e := eSeg) (x := segment_1) rfl)) (fun form_1 : (List Int) => [sv (eSeg segment_1), sv ((eL PyData.int) form_1), none]) (fun _ => rfl) (fun form_1 q => (s_seq0 (s_asg (e := (eL (eL PyData.int))) (w_list (l_dCL (e := (eL PyData.int)) (xs := [[(0 : Int), (1 : Int), (0 : Int), (0 : Int)], [(0 : Int), (1 : Int), (0 : Int), (1 : Int)], [(0 : Int), (0 : Int), (0 : Int), (1 : Int)], [(1 : Int), (0 : Int), (0 : Int), (1 : Int)], [(0 : Int), (0 : Int), (1 : Int), (0 : Int)], [(0 : Int), (0 : Int), (1 : Int), (1 : Int)]]) rfl)) (fun known_1 : (List (List Int)) => [sv (eSeg segment_1), sv ((eL PyData.int) form_1), sv ((eL (eL PyData.int)) known_1)]) (fun _ => rfl) (fun known_1 q => (s_ret (e := PyData.bool) (w_or (w_ninDp (e' := (eL PyData.int)) (w_name (e := (eL PyData.int)) (x := form_1) rfl) (w_name (e := (eL (eL PyData.int))) (x := known_1) rfl)) (w_andP (w_eqS (r := fun (a : Int) (b : Int) => decide (a = b)) (w_ix (e := PyData.int) (w_name (e := (eL PyData.int)) (x := form_1) rfl) (w_dC (e := PyData.int) (x := (1 : Int)) rfl) (fun _ => rfl)) (w_dC (e := PyData.int) (x := (1 : Int)) rfl) r_I) (w_I0 (g' := fun i j => decide (j < i)) (w_len (e := PyData.int) (w_prj (e := eSeg) (e' := (eU PyData.int)) 9 (fun p : Seg => p.2.2.2.2.2.2.2.2.2) (w_name (e := eSeg) (x := segment_1) rfl) (fun _ => ⟨_, rfl, dix_nn (by decide) rfl⟩)) (fun _ => rfl)) (w_dC (e := PyData.int) (x := (0 : Int)) rfl) (fun _ _ => rfl)))) hQ q)) q))) q))
theorem ok_law_end (T : Tx K mg) : FnOk P w K mg base CX0 2 T.ad_law_end T.fd_law_end ["segment"] (spD K (F1 (pr1 eSeg PyData.int y__law_end))) := by
  refine T.d_law_end.F.ok x_law_end (fun vs H Q E h => spD_len F1_len h) (fun cdv A outer s H vs Q E hr h => ?_)
  have nd := x_law_end.nd
  refine ⟨_, (pss_cons (ps_set (i := 1) nd rfl (Or.inl rfl) (pe_call (ok_law_form T) hr (by rfl) T.d_law_form.g T.d_law_form.F.kp T.d_law_form.b .nil pass0 (pa_cons (pv 0) pa_nil)))
        (pss_one (ps_ret (pe_call (ok_law_mod T) hr (by rfl) T.d_law_mod.g T.d_law_mod.F.kp T.d_law_mod.b .nil pass0 (pa_cons (pe_op op_add (pe_op op_add (pe_op op_add (pe_ix ix_seq (pv 0) pe_int (fun _ _ => rfl)) (pe_callB call_len_seq (by rfl) T.b_len (by decide +kernel) (pa_cons (pe_ix ix_seq (pv 0) pe_int (fun _ _ => rfl)) pa_nil))) (pe_ix ix_seq (pv 1) pe_int (fun _ _ => rfl))) (pe_ix ix_seq (pv 1) pe_int (fun _ _ => rfl))) pa_nil))))), fn_pure ((rs_seq (rs_asg (re_call (raC (rn 0) raN)) (rg_name 1))
        (rs_ret (re_call (raC (ro rv_add (RfE.b (ro rv_add (RfE.b (ro rv_add (RfE.b (ro rv_ix (RfE.b (rn 0)) (RfE.b (rc_int _)))) (RfE.b (re_cb ro_len (rbC (RfE.b (ro rv_ix (RfE.b (rn 0)) (RfE.b (rc_int _)))) rbN))))) (RfE.b (ro rv_ix (RfE.b (rn 1)) (RfE.b (rc_int _)))))) (RfE.b (ro rv_ix (RfE.b (rn 1)) (RfE.b (rc_int _))))) raN))))) h (by rw [spD_len F1_len h]; decide) (F1_in fun a0 Qd q => ?_)⟩
  obtain ⟨segment_1, G, rfl, q, hQ⟩ := q
  delta y__law_end at q
  exact (s_seq0 (s_asg (e := (eL PyData.int)) (w_call1 (w_name (e := eSeg) (x := segment_1) rfl)) (fun form_1 : (List Int) => [sv (eSeg segment_1), sv ((eL PyData.int) form_1)]) (fun _ => rfl) (fun form_1 q => (s_ret (e := PyData.int) (w_call1 (w_I0 (g' := fun i j => i + j) (w_I0 (g' := fun i j => i + j) (w_I0 (g' := fun i j => i + j) (w_prj (e := eSeg) (e' := PyData.int) 3 (fun p : Seg => p.2.2.2.1) (w_name (e := eSeg) (x := segment_1) rfl) (fun _ => ⟨_, rfl, dix_nn (by decide) rfl⟩)) (w_len (e := PyData.int) (w_prj (e := eSeg) (e' := (eU PyData.int)) 9 (fun p : Seg => p.2.2.2.2.2.2.2.2.2) (w_name (e := eSeg) (x := segment_1) rfl) (fun _ => ⟨_, rfl, dix_nn (by decide) rfl⟩)) (fun _ => rfl)) (fun _ _ => rfl)) (w_ix (e := PyData.int) (w_name (e := (eL PyData.int)) (x := form_1) rfl) (w_dC (e := PyData.int) (x := (0 : Int)) rfl) (fun _ => rfl)) (fun _ _ => rfl)) (w_ix (e := PyData.int) (w_name (e := (eL PyData.int)) (x := form_1) rfl) (w_dC (e := PyData.int) (x := (1 : Int)) rfl) (fun _ => rfl)) (fun _ _ => rfl))) hQ q)) q))
theorem ok_law_well (T : Tx K mg) : FnOk P w K mg base CX0 3 T.ad_law_well T.fd_law_well ["talk", "x", "segment"] (spD K (F3 (pr3 eTalk PyData.int eSeg PyData.bool y__law_well))) := by
  refine T.d_law_well.F.ok x_law_well (fun vs H Q E h => spD_len F3_len h) (fun cdv A outer s H vs Q E hr h => ?_)
  have nd := x_law_well.nd
  refine ⟨_, (pss_cons (ps_par (i := 3) (j := 4) (by rfl) nd rfl rfl (by decide) rfl rfl (pa_cons (pe_ix ix_seq (pv 0) (pe_op op_add pe_int (pv 1)) (fun _ _ => rfl)) (pa_cons (pe_ix ix_seq (pv 0) (pe_op op_sub pe_int (pv 1)) (fun _ _ => rfl)) pa_nil)) (by rfl))
        (pss_cons (ps_par (i := 5) (j := 6) (by rfl) nd rfl rfl (by decide) rfl rfl (pa_cons (pe_call (ok_law_end T) hr (by rfl) T.d_law_end.g T.d_law_end.F.kp T.d_law_end.b .nil pass0 (pa_cons (pv 2) pa_nil)) (pa_cons (pe_call (ok_law_form T) (hr.mono (by decide)) (by rfl) T.d_law_form.g T.d_law_form.F.kp T.d_law_form.b .nil pass0 (pa_cons (pv 2) pa_nil)) pa_nil)) (by rfl))
        (pss_cons (ps_set (i := 7) nd rfl (Or.inl rfl) (pe_op op_sub (pe_ix ix_seq (pv 3) pe_int (fun _ _ => rfl)) (pe_ix ix_seq (pv 4) pe_int (fun _ _ => rfl))))
        (pss_cons (ps_if (pt_cmpR op_gt (pe_call (ok_law_mod T) (hr.mono (by decide)) (by rfl) T.d_law_mod.g T.d_law_mod.F.kp T.d_law_mod.b .nil pass0 (pa_cons (pe_op op_sub (pv 5) (pv 7)) pa_nil)) (pe_call (ok_law_mod T) (hr.mono (by decide)) (by rfl) T.d_law_mod.g T.d_law_mod.F.kp T.d_law_mod.b .nil pass0 (pa_cons (pe_op op_sub (pe_ix ix_seq (pv 3) pe_int (fun _ _ => rfl)) (pv 7)) pa_nil)) (nomark _)) (pss_one (ps_ret pe_bl)) pss_nil)
        (pss_cons (ps_if (PW.pt (pw_and (pt_cmpR op_eq (pe_ix ix_seq (pv 6) pe_int (fun _ _ => rfl)) pe_int (nomark _)) (pw_and1 (pt_cmpR op_gt (pe_call (ok_law_mod T) (hr.mono (by decide)) (by rfl) T.d_law_mod.g T.d_law_mod.F.kp T.d_law_mod.b .nil pass0 (pa_cons (pe_op op_sub (pe_ix ix_seq (pv 4) pe_int (fun _ _ => rfl)) (pe_ix ix_seq (pv 2) pe_int (fun _ _ => rfl))) pa_nil)) pe_int (nomark _))))) (pss_one (ps_ret pe_bl)) pss_nil)
        (pss_cons (ps_if (pt_cmpR op_isN (pe_ix ix_seq (pv 3) pe_int (fun _ _ => rfl)) pe_non (nomark _)) (pss_one (ps_ret (pe_or (pe_cmpR op_eq (pe_ix ix_seq (pv 6) pe_int (fun _ _ => rfl)) pe_int (nomark _)) (pe_one (pe_not (pe_call (ok_law_later T) hr (by rfl) T.d_law_later.g T.d_law_later.F.kp T.d_law_later.b .nil pass0 (pa_cons (pe_ix ix_seq (pv 3) pe_int (fun _ _ => rfl)) (pa_cons (pv 5) pa_nil)))))))) pss_nil)
        (pss_one (ps_ret (pe_or (pe_cmpR op_eq (pv 5) (pe_ix ix_seq (pv 3) pe_int (fun _ _ => rfl)) (nomark _)) (pe_one (pe_and (pe_cmpR op_eq (pe_ix ix_seq (pv 6) pe_int (fun _ _ => rfl)) pe_int (nomark _)) (pe_one (pe_not (pe_call (ok_law_later T) hr (by rfl) T.d_law_later.g T.d_law_later.F.kp T.d_law_later.b .nil pass0 (pa_cons (pv 5) (pa_cons (pe_ix ix_seq (pv 3) pe_int (fun _ _ => rfl)) pa_nil)))))))))))))))), fn_pure ((rs_seq (rs_par 3 4 (raC (ro rv_ix (RfE.b (rn 0)) (RfE.b (ro rv_add (RfE.b (rc_int _)) (RfE.b (rn 1))))) (raC (ro rv_ix (RfE.b (rn 0)) (RfE.b (ro rv_sub (RfE.b (rc_int _)) (RfE.b (rn 1))))) raN)))
        (rs_seq (rs_par 5 6 (raC (re_call (raC (rn 2) raN)) (raC (re_call (raC (rn 2) raN)) raN)))
        (rs_seq (rs_asg (ro rv_sub (RfE.b (ro rv_ix (RfE.b (rn 3)) (RfE.b (rc_int _)))) (RfE.b (ro rv_ix (RfE.b (rn 4)) (RfE.b (rc_int _))))) (rg_name 7))
        (rs_seq (rs_if (rt_test (ro rv_gt (RfE.b (re_call (raC (ro rv_sub (RfE.b (rn 5)) (RfE.b (rn 7))) raN))) (RfE.b (re_call (raC (ro rv_sub (RfE.b (ro rv_ix (RfE.b (rn 3)) (RfE.b (rc_int _)))) (RfE.b (rn 7))) raN))))) (rs_ret (rc_bl _)) rs_next)
        (rs_seq (rs_if (rt_and (rt_test (ro rv_eq (RfE.b (ro rv_ix (RfE.b (rn 6)) (RfE.b (rc_int _)))) (RfE.b (rc_int _)))) (rt_test (ro rv_gt (RfE.b (re_call (raC (ro rv_sub (RfE.b (ro rv_ix (RfE.b (rn 4)) (RfE.b (rc_int _)))) (RfE.b (ro rv_ix (RfE.b (rn 2)) (RfE.b (rc_int _))))) raN))) (RfE.b (rc_int _))))) (rs_ret (rc_bl _)) rs_next)
        (rs_seq (rs_if (rt_test (ro rv_isN (RfE.b (ro rv_ix (RfE.b (rn 3)) (RfE.b (rc_int _)))) (RfE.b rc_non))) (rs_ret (re_or (ro rv_eq (RfE.b (ro rv_ix (RfE.b (rn 6)) (RfE.b (rc_int _)))) (RfE.b (rc_int _))) (re_not (re_call (raC (ro rv_ix (RfE.b (rn 3)) (RfE.b (rc_int _))) (raC (rn 5) raN)))))) rs_next)
        (rs_ret (re_or (ro rv_eq (RfE.b (rn 5)) (RfE.b (ro rv_ix (RfE.b (rn 3)) (RfE.b (rc_int _))))) (re_and (ro rv_eq (RfE.b (ro rv_ix (RfE.b (rn 6)) (RfE.b (rc_int _)))) (RfE.b (rc_int _))) (re_not (re_call (raC (rn 5) (raC (ro rv_ix (RfE.b (rn 3)) (RfE.b (rc_int _))) raN)))))))))))))) h (by rw [spD_len F3_len h]; decide) (F3_in fun a0 a1 a2 Qd q => ?_)⟩
  obtain ⟨talk_1, x_1, segment_1, G, rfl, rfl, rfl, q, hQ⟩ := q
  delta y__law_well at q
  exact (s_seq0 (s_par (e := eSide) (e' := eSide) (w_cast (e := eSide) (w_ix (e := eD) (w_co (e := eTalk) (e' := (eU eD)) (fun a : Talk => ([(PyData.str a.1), (eSide a.2.1), ((eO eSide) a.2.2)] : (List D))) (w_name (e := eTalk) (x := talk_1) rfl) (fun _ => rfl)) (w_I0 (g' := fun i j => i + j) (w_dC (e := PyData.int) (x := (1 : Int)) rfl) (w_name (e := PyData.int) (x := x_1) rfl) (fun _ _ => rfl)) (fun _ => rfl))) (w_cast (e := eSide) (w_ix (e := eD) (w_co (e := eTalk) (e' := (eU eD)) (fun a : Talk => ([(PyData.str a.1), (eSide a.2.1), ((eO eSide) a.2.2)] : (List D))) (w_name (e := eTalk) (x := talk_1) rfl) (fun _ => rfl)) (w_I0 (g' := fun i j => i - j) (w_dC (e := PyData.int) (x := (2 : Int)) rfl) (w_name (e := PyData.int) (x := x_1) rfl) (fun _ _ => rfl)) (fun _ => rfl))) (fun own_1 other_1 => [sv (eTalk talk_1), sv (PyData.int x_1), sv (eSeg segment_1), sv (eSide own_1), sv (eSide other_1), none, none, none]) (fun _ _ => rfl) (fun own_1 other_1 q => (s_seq0 (s_par (e := PyData.int) (e' := (eL PyData.int)) (w_call1 (w_name (e := eSeg) (x := segment_1) rfl)) (w_call1 (w_name (e := eSeg) (x := segment_1) rfl)) (fun end_1 form_1 => [sv (eTalk talk_1), sv (PyData.int x_1), sv (eSeg segment_1), sv (eSide own_1), sv (eSide other_1), sv (PyData.int end_1), sv ((eL PyData.int) form_1), none]) (fun _ _ => rfl) (fun end_1 form_1 q => (s_seq0 (s_asg (e := PyData.int) (w_I0 (g' := fun i j => i - j) (w_prj (e := eSide) (e' := PyData.int) 1 (fun p : Side => p.2.1) (w_name (e := eSide) (x := own_1) rfl) (fun _ => ⟨_, rfl, dix_nn (by decide) rfl⟩)) (w_prj (e := eSide) (e' := PyData.int) 3 (fun p : Side => p.2.2.2.1) (w_name (e := eSide) (x := other_1) rfl) (fun _ => ⟨_, rfl, dix_nn (by decide) rfl⟩)) (fun _ _ => rfl)) (fun low_1 : Int => [sv (eTalk talk_1), sv (PyData.int x_1), sv (eSeg segment_1), sv (eSide own_1), sv (eSide other_1), sv (PyData.int end_1), sv ((eL PyData.int) form_1), sv (PyData.int low_1)]) (fun _ => rfl) (fun low_1 q => (s_seq0 (s_if (t_val (w_I0 (g' := fun i j => decide (j < i)) (w_call1 (w_I0 (g' := fun i j => i - j) (w_name (e := PyData.int) (x := end_1) rfl) (w_name (e := PyData.int) (x := low_1) rfl) (fun _ _ => rfl))) (w_call1 (w_I0 (g' := fun i j => i - j) (w_prj (e := eSide) (e' := PyData.int) 2 (fun p : Side => p.2.2.1) (w_name (e := eSide) (x := own_1) rfl) (fun _ => ⟨_, rfl, dix_nn (by decide) rfl⟩)) (w_name (e := PyData.int) (x := low_1) rfl) (fun _ _ => rfl))) (fun _ _ => rfl))) (fun q => (s_ret (e := PyData.bool) (w_dC (e := PyData.bool) (x := false) rfl) hQ q)) (fun q => (s_next (s_seq0 (s_if (t_and (t_val (w_eqS (r := fun (a : Int) (b : Int) => decide (a = b)) (w_ix (e := PyData.int) (w_name (e := (eL PyData.int)) (x := form_1) rfl) (w_dC (e := PyData.int) (x := (3 : Int)) rfl) (fun _ => rfl)) (w_dC (e := PyData.int) (x := (1 : Int)) rfl) r_I)) (t_val (w_I0 (g' := fun i j => decide (j < i)) (w_call1 (w_I0 (g' := fun i j => i - j) (w_prj (e := eSide) (e' := PyData.int) 1 (fun p : Side => p.2.1) (w_name (e := eSide) (x := other_1) rfl) (fun _ => ⟨_, rfl, dix_nn (by decide) rfl⟩)) (w_prj (e := eSeg) (e' := PyData.int) 4 (fun p : Seg => p.2.2.2.2.1) (w_name (e := eSeg) (x := segment_1) rfl) (fun _ => ⟨_, rfl, dix_nn (by decide) rfl⟩)) (fun _ _ => rfl))) (w_dC (e := PyData.int) (x := (1073741824 : Int)) rfl) (fun _ _ => rfl)))) (fun q => (s_ret (e := PyData.bool) (w_dC (e := PyData.bool) (x := false) rfl) hQ q)) (fun q => (s_next (s_seq0 (s_if (t_val (w_isN (r := fun a : (Option Int) => a.isNone) (w_prj (e := eSide) (e' := (eO PyData.int)) 6 (fun p : Side => p.2.2.2.2.2.2) (w_name (e := eSide) (x := own_1) rfl) (fun _ => ⟨_, rfl, dix_nn (by decide) rfl⟩)) (n_O (fun _ => rfl)))) (fun q => (s_ret (e := PyData.bool) (w_or (w_eqS (r := fun (a : Int) (b : Int) => decide (a = b)) (w_ix (e := PyData.int) (w_name (e := (eL PyData.int)) (x := form_1) rfl) (w_dC (e := PyData.int) (x := (0 : Int)) rfl) (fun _ => rfl)) (w_dC (e := PyData.int) (x := (0 : Int)) rfl) r_I) (w_not (w_call2 (w_prj (e := eSide) (e' := PyData.int) 1 (fun p : Side => p.2.1) (w_name (e := eSide) (x := own_1) rfl) (fun _ => ⟨_, rfl, dix_nn (by decide) rfl⟩)) (w_name (e := PyData.int) (x := end_1) rfl)))) hQ q)) (fun q => (s_next (s_ret (e := PyData.bool) (w_or (w_eqS (r := fun (a : Int) (b : (Option Int)) => decide (some a = b)) (w_name (e := PyData.int) (x := end_1) rfl) (w_prj (e := eSide) (e' := (eO PyData.int)) 6 (fun p : Side => p.2.2.2.2.2.2) (w_name (e := eSide) (x := own_1) rfl) (fun _ => ⟨_, rfl, dix_nn (by decide) rfl⟩)) r_IO) (w_and (w_eqS (r := fun (a : Int) (b : Int) => decide (a = b)) (w_ix (e := PyData.int) (w_name (e := (eL PyData.int)) (x := form_1) rfl) (w_dC (e := PyData.int) (x := (0 : Int)) rfl) (fun _ => rfl)) (w_dC (e := PyData.int) (x := (0 : Int)) rfl) r_I) (w_not (w_call2 (w_name (e := PyData.int) (x := end_1) rfl) (w_get (e := PyData.int) (w_prj (e := eSide) (e' := (eO PyData.int)) 6 (fun p : Side => p.2.2.2.2.2.2) (w_name (e := eSide) (x := own_1) rfl) (fun _ => ⟨_, rfl, dix_nn (by decide) rfl⟩))))))) hQ q))) q)))) q)))) q))) q))) q))) q))
theorem ok_law_behind (T : Tx K mg) : FnOk P w K mg base CX0 3 T.ad_law_behind T.fd_law_behind ["talk", "x", "segment"] (spD K (F3 (pr3 eTalk PyData.int eSeg eTalk y__law_behind))) := by
  refine T.d_law_behind.F.ok x_law_behind (fun vs H Q E h => spD_len F3_len h) (fun cdv A outer s H vs Q E hr h => ?_)
  have nd := x_law_behind.nd
  refine ⟨_, (pss_cons (ps_par (i := 3) (j := 4) (by rfl) nd rfl rfl (by decide) rfl rfl (pa_cons (pe_callTy call_list_of (by rfl) T.b_list (by decide +kernel) (pa_cons (pe_ix ix_seq (pv 0) (pe_op op_add pe_int (pv 1)) (fun _ _ => rfl)) pa_nil)) (pa_cons (pe_callTy call_list_of (by rfl) T.b_list (by decide +kernel) (pa_cons (pe_ix ix_seq (pv 0) (pe_op op_sub pe_int (pv 1)) (fun _ _ => rfl)) pa_nil)) pa_nil)) (by rfl))
        (pss_cons (ps_par (i := 5) (j := 6) (by rfl) nd rfl rfl (by decide) rfl rfl (pa_cons (pe_call (ok_law_end T) hr (by rfl) T.d_law_end.g T.d_law_end.F.kp T.d_law_end.b .nil pass0 (pa_cons (pv 2) pa_nil)) (pa_cons (pe_ix ix_seq (pv 2) pe_int (fun _ _ => rfl)) pa_nil)) (by rfl))
        (pss_cons (ps_for PassesOwn.never rfl (pi_range1 (by rfl) T.b_range (pa_cons (pe_ix ix_seq (pv 3) pe_int (fun _ _ => rfl)) pa_nil)) (pg_name (i := 7) nd rfl (Or.inl rfl)) (pss_one (ps_set (i := 6) nd rfl (Or.inl rfl) (pe_op op_mul (pv 6) pe_int))))
        (pss_cons (ps_asg (pe_ifExp (pt_val (pe_call (ok_law_later T) hr (by rfl) T.d_law_later.g T.d_law_later.F.kp T.d_law_later.b .nil pass0 (pa_cons (pv 5) (pa_cons (pe_ix ix_seq (pv 3) pe_int (fun _ _ => rfl)) pa_nil)))) (pv 5) (pe_ix ix_seq (pv 3) pe_int (fun _ _ => rfl))) (pg_sub (pv 3) pe_int set_list))
        (pss_cons (ps_asg (pe_callB (call_max2 rfl) (by rfl) T.b_max (by decide +kernel) (pa_cons (pe_ix ix_seq (pv 3) pe_int (fun _ _ => rfl)) (pa_cons (pv 6) pa_nil))) (pg_sub (pv 3) pe_int set_list))
        (pss_cons (ps_set (i := 8) nd rfl (Or.inl rfl) (pe_call (ok_law_mod T) (hr.mono (by decide)) (by rfl) T.d_law_mod.g T.d_law_mod.F.kp T.d_law_mod.b .nil pass0 (pa_cons (pe_op op_add (pe_ix ix_seq (pv 2) pe_int (fun _ _ => rfl)) (pe_callB (call_max2 rfl) (by rfl) T.b_max (by decide +kernel) (pa_cons (pv 6) (pa_cons pe_int pa_nil)))) pa_nil)))
        (pss_cons (ps_asg (pe_ifExp (pt_val (pe_call (ok_law_later T) hr (by rfl) T.d_law_later.g T.d_law_later.F.kp T.d_law_later.b .nil pass0 (pa_cons (pv 8) (pa_cons (pe_ix ix_seq (pv 4) pe_int (fun _ _ => rfl)) pa_nil)))) (pv 8) (pe_ix ix_seq (pv 4) pe_int (fun _ _ => rfl))) (pg_sub (pv 4) pe_int set_list))
        (pss_cons (ps_asg (pe_ifExp (pt_val (pe_call (ok_law_later T) hr (by rfl) T.d_law_later.g T.d_law_later.F.kp T.d_law_later.b .nil pass0 (pa_cons (pe_ix ix_seq (pv 2) pe_int (fun _ _ => rfl)) (pa_cons (pe_ix ix_seq (pv 4) pe_int (fun _ _ => rfl)) pa_nil)))) (pe_ix ix_seq (pv 2) pe_int (fun _ _ => rfl)) (pe_ix ix_seq (pv 4) pe_int (fun _ _ => rfl))) (pg_sub (pv 4) pe_int set_list))
        (pss_cons (ps_if (pt_cmpR op_eq (pe_ix ix_seq (pe_call (ok_law_form T) (hr.mono (by decide)) (by rfl) T.d_law_form.g T.d_law_form.F.kp T.d_law_form.b .nil pass0 (pa_cons (pv 2) pa_nil)) pe_int (fun _ _ => rfl)) pe_int (nomark _)) (pss_one (ps_asg (pv 5) (pg_sub (pv 3) pe_int set_list))) pss_nil)
        (pss_cons (ps_set (i := 9) nd rfl (Or.inl rfl) (pe_ifExp (PW.pt (pw_and (pt_cmpR op_isN (pe_ix ix_seq (pv 3) pe_int (fun _ _ => rfl)) pe_non (nomark _)) (pw_and1 (pt_cmpR op_isN (pe_ix ix_seq (pv 4) pe_int (fun _ _ => rfl)) pe_non (nomark _))))) pe_str pe_str))
        (pss_cons (ps_if (PW.pt (pw_and (pt_cmpR op_notN (pe_ix ix_seq (pv 3) pe_int (fun _ _ => rfl)) pe_non (nomark _)) (pw_and (pt_cmpR op_notN (pe_ix ix_seq (pv 4) pe_int (fun _ _ => rfl)) pe_non (nomark _)) (pw_and (pt_cmpR (op_eqD hr.units) (pe_ix ix_seq (pv 3) pe_int (fun _ _ => rfl)) (pe_ix ix_seq (pv 3) pe_int (fun _ _ => rfl)) (nomark _)) (pw_and1 (pt_cmpR (op_eqD hr.units) (pe_ix ix_seq (pv 4) pe_int (fun _ _ => rfl)) (pe_ix ix_seq (pv 4) pe_int (fun _ _ => rfl)) (nomark _))))))) (pss_one (ps_set (i := 9) nd rfl (Or.inl rfl) pe_str)) pss_nil)
        (pss_cons (ps_set (i := 10) nd rfl (Or.inl rfl) (pe_lst (pa_cons (pe_callTy call_tuple_of (by rfl) T.b_tuple (by decide +kernel) (pa_cons (pv 3) pa_nil)) (pa_cons (pe_callTy call_tuple_of (by rfl) T.b_tuple (by decide +kernel) (pa_cons (pv 4) pa_nil)) pa_nil))))
        (pss_one (ps_ret (pe_tup (pa_cons (pv 9) (pa_cons (pe_ix ix_seq (pv 10) (pv 1) (fun _ _ => rfl)) (pa_cons (pe_ix ix_seq (pv 10) (pe_op op_sub pe_int (pv 1)) (fun _ _ => rfl)) pa_nil)))))))))))))))))), fn_pure ((rs_seq (rs_parOO 3 4 (rf_listOf (RfE.b (ro rv_ix (RfE.b (rn 0)) (RfE.b (ro rv_add (RfE.b (rc_int _)) (RfE.b (rn 1))))))) (rf_listOf (RfE.b (ro rv_ix (RfE.b (rn 0)) (RfE.b (ro rv_sub (RfE.b (rc_int _)) (RfE.b (rn 1))))))))
        (rs_seq (rs_par 5 6 (raC (re_call (raC (rn 2) raN)) (raC (ro rv_ix (RfE.b (rn 2)) (RfE.b (rc_int _))) raN)))
        (rs_seq (rs_for (ri_r1 (rbC (RfE.b (ro rv_ix (rnb 3) (RfE.b (rc_int _)))) rbN)) (rg_name 7) (rs_asg (ro rv_mul (RfE.b (rn 6)) (RfE.b (rc_int _))) (rg_name 6)))
        (rs_seq (rs_setIx 3 (re_if (rt_val (re_call (raC (rn 5) (raC (ro rv_ix (rnb 3) (RfE.b (rc_int _))) raN)))) (rn 5) (ro rv_ix (rnb 3) (RfE.b (rc_int _)))) (rc_int _))
        (rs_seq (rs_setIx 3 (re_cb ro_max (rbC (RfE.b (ro rv_ix (rnb 3) (RfE.b (rc_int _)))) (rbC (RfE.b (rn 6)) rbN))) (rc_int _))
        (rs_seq (rs_asg (re_call (raC (ro rv_add (RfE.b (ro rv_ix (RfE.b (rn 2)) (RfE.b (rc_int _)))) (RfE.b (re_cb ro_max (rbC (RfE.b (rn 6)) (rbC (RfE.b (rc_int _)) rbN))))) raN)) (rg_name 8))
        (rs_seq (rs_setIx 4 (re_if (rt_val (re_call (raC (rn 8) (raC (ro rv_ix (rnb 4) (RfE.b (rc_int _))) raN)))) (rn 8) (ro rv_ix (rnb 4) (RfE.b (rc_int _)))) (rc_int _))
        (rs_seq (rs_setIx 4 (re_if (rt_val (re_call (raC (ro rv_ix (RfE.b (rn 2)) (RfE.b (rc_int _))) (raC (ro rv_ix (rnb 4) (RfE.b (rc_int _))) raN)))) (ro rv_ix (RfE.b (rn 2)) (RfE.b (rc_int _))) (ro rv_ix (rnb 4) (RfE.b (rc_int _)))) (rc_int _))
        (rs_seq (rs_if (rt_test (ro rv_eq (RfE.b (ro rv_ix (RfE.b (re_call (raC (rn 2) raN))) (RfE.b (rc_int _)))) (RfE.b (rc_int _)))) (rs_setIx 3 (rn 5) (rc_int _)) rs_next)
        (rs_seq (rs_asg (re_if (rt_and (rt_test (ro rv_isN (RfE.b (ro rv_ix (rnb 3) (RfE.b (rc_int _)))) (RfE.b rc_non))) (rt_test (ro rv_isN (RfE.b (ro rv_ix (rnb 4) (RfE.b (rc_int _)))) (RfE.b rc_non)))) (rc_str _) (rc_str _)) (rg_name 9))
        (rs_seq (rs_if (rt_and (rt_test (ro rv_notN (RfE.b (ro rv_ix (rnb 3) (RfE.b (rc_int _)))) (RfE.b rc_non))) (rt_and (rt_test (ro rv_notN (RfE.b (ro rv_ix (rnb 4) (RfE.b (rc_int _)))) (RfE.b rc_non))) (rt_and (rt_test (ro rv_eqD (RfE.b (ro rv_ix (rnb 3) (RfE.b (rc_int _)))) (RfE.b (ro rv_ix (rnb 3) (RfE.b (rc_int _)))))) (rt_test (ro rv_eqD (RfE.b (ro rv_ix (rnb 4) (RfE.b (rc_int _)))) (RfE.b (ro rv_ix (rnb 4) (RfE.b (rc_int _))))))))) (rs_asg (rc_str _) (rg_name 9)) rs_next)
        (rs_seq (rs_asg (RfF.e (rf_lst (raC (re_cb ro_tupOf (rbC (rnb 3) rbN)) (raC (re_cb ro_tupOf (rbC (rnb 4) rbN)) raN)))) (rg_name 10))
        (rs_ret (re_tup (raC (rn 9) (raC (ro rv_ix (RfE.b (rn 10)) (RfE.b (rn 1))) (raC (ro rv_ix (RfE.b (rn 10)) (RfE.b (ro rv_sub (RfE.b (rc_int _)) (RfE.b (rn 1))))) raN)))))))))))))))))) h (by rw [spD_len F3_len h]; decide) (F3_in fun a0 a1 a2 Qd q => ?_)⟩
  obtain ⟨talk_1, x_1, segment_1, G, rfl, rfl, rfl, q, hQ⟩ := q
  delta y__law_behind at q
  exact (s_seq0 (s_parOO (e := eD) (e' := eD) (l_of (e := eD) (w_cast (e := (eU eD)) (w_ix (e := eD) (w_co (e := eTalk) (e' := (eU eD)) (fun a : Talk => ([(PyData.str a.1), (eSide a.2.1), ((eO eSide) a.2.2)] : (List D))) (w_name (e := eTalk) (x := talk_1) rfl) (fun _ => rfl)) (w_I0 (g' := fun i j => i + j) (w_dC (e := PyData.int) (x := (1 : Int)) rfl) (w_name (e := PyData.int) (x := x_1) rfl) (fun _ _ => rfl)) (fun _ => rfl))) (fun _ => rfl)) (l_of (e := eD) (w_cast (e := (eU eD)) (w_ix (e := eD) (w_co (e := eTalk) (e' := (eU eD)) (fun a : Talk => ([(PyData.str a.1), (eSide a.2.1), ((eO eSide) a.2.2)] : (List D))) (w_name (e := eTalk) (x := talk_1) rfl) (fun _ => rfl)) (w_I0 (g' := fun i j => i - j) (w_dC (e := PyData.int) (x := (2 : Int)) rfl) (w_name (e := PyData.int) (x := x_1) rfl) (fun _ _ => rfl)) (fun _ => rfl))) (fun _ => rfl)) rfl rfl (fun own_1 other_1 => [sv (eTalk talk_1), sv (PyData.int x_1), sv (eSeg segment_1), so (List.map eD own_1), so (List.map eD other_1), none, none, none, none, none, none]) (fun _ _ => rfl) (fun own_1 other_1 q => (s_seq0 (s_par (e := PyData.int) (e' := PyData.int) (w_call1 (w_name (e := eSeg) (x := segment_1) rfl)) (w_prj (e := eSeg) (e' := PyData.int) 6 (fun p : Seg => p.2.2.2.2.2.2.1) (w_name (e := eSeg) (x := segment_1) rfl) (fun _ => ⟨_, rfl, dix_nn (by decide) rfl⟩)) (fun end_1 window_1 => [sv (eTalk talk_1), sv (PyData.int x_1), sv (eSeg segment_1), so (List.map eD own_1), so (List.map eD other_1), sv (PyData.int end_1), sv (PyData.int window_1), none, none, none, none]) (fun _ _ => rfl) (fun end_1 window_1 q => (s_seq0 (s_for2 (e := PyData.int) (fun (xs : List Int) (s_3 : Int) => y__law_behind_l1 G (fun (window_5 : Int) => ixT own_1 (1 : Int) fun v_13 => castT PyData.int v_13 fun c_5 => y__law_later end_1 c_5 fun v_14 => iteT v_14 (fun G => G (PyData.int end_1)) (fun G => ixT own_1 (1 : Int) fun v_15 => G v_15) fun v_16 => setT own_1 (1 : Int) v_16 fun own_2 => ixT own_2 (3 : Int) fun v_18 => castT PyData.int v_18 fun c_7 => setT own_2 (3 : Int) (PyData.int (if window_5 > c_7 then window_5 else c_7)) fun own_3 => y__law_mod (segment_1.2.2.2.2.1 + (if (1 : Int) > window_5 then (1 : Int) else window_5)) fun top_1 => ixT other_1 (2 : Int) fun v_26 => castT PyData.int v_26 fun c_9 => y__law_later top_1 c_9 fun v_27 => iteT v_27 (fun G => G (PyData.int top_1)) (fun G => ixT other_1 (2 : Int) fun v_28 => G v_28) fun v_29 => setT other_1 (2 : Int) v_29 fun other_2 => ixT other_2 (4 : Int) fun v_36 => castT PyData.int v_36 fun c_11 => y__law_later segment_1.2.2.2.2.1 c_11 fun v_37 => iteT v_37 (fun G => G (PyData.int segment_1.2.2.2.2.1)) (fun G => ixT other_2 (4 : Int) fun v_38 => G v_38) fun v_39 => setT other_2 (4 : Int) v_39 fun other_3 => y__law_form segment_1 fun v_56 => ixT v_56 (0 : Int) fun v_57 => if (decide (v_57 = (1 : Int))) = true then (setT own_3 (6 : Int) (PyData.int end_1) fun own_5 => y__law_behind_j3 x_1 other_3 G own_5) else (y__law_behind_j3 x_1 other_3 G own_3)) xs s_3) (fun (s_3 : Int) => (fun (window_5 : Int) => ixT own_1 (1 : Int) fun v_13 => castT PyData.int v_13 fun c_5 => y__law_later end_1 c_5 fun v_14 => iteT v_14 (fun G => G (PyData.int end_1)) (fun G => ixT own_1 (1 : Int) fun v_15 => G v_15) fun v_16 => setT own_1 (1 : Int) v_16 fun own_2 => ixT own_2 (3 : Int) fun v_18 => castT PyData.int v_18 fun c_7 => setT own_2 (3 : Int) (PyData.int (if window_5 > c_7 then window_5 else c_7)) fun own_3 => y__law_mod (segment_1.2.2.2.2.1 + (if (1 : Int) > window_5 then (1 : Int) else window_5)) fun top_1 => ixT other_1 (2 : Int) fun v_26 => castT PyData.int v_26 fun c_9 => y__law_later top_1 c_9 fun v_27 => iteT v_27 (fun G => G (PyData.int top_1)) (fun G => ixT other_1 (2 : Int) fun v_28 => G v_28) fun v_29 => setT other_1 (2 : Int) v_29 fun other_2 => ixT other_2 (4 : Int) fun v_36 => castT PyData.int v_36 fun c_11 => y__law_later segment_1.2.2.2.2.1 c_11 fun v_37 => iteT v_37 (fun G => G (PyData.int segment_1.2.2.2.2.1)) (fun G => ixT other_2 (4 : Int) fun v_38 => G v_38) fun v_39 => setT other_2 (4 : Int) v_39 fun other_3 => y__law_form segment_1 fun v_56 => ixT v_56 (0 : Int) fun v_57 => if (decide (v_57 = (1 : Int))) = true then (setT own_3 (6 : Int) (PyData.int end_1) fun own_5 => y__law_behind_j3 x_1 other_3 G own_5) else (y__law_behind_j3 x_1 other_3 G own_3)) s_3) (fun (s_3 : Int) (u_6 : Option D) => [sv (eTalk talk_1), sv (PyData.int x_1), sv (eSeg segment_1), so (List.map eD own_1), so (List.map eD other_1), sv (PyData.int end_1), sv (PyData.int s_3), (Option.map En.d u_6), none, none, none]) window_1 none rfl (i_r1 (w_cast (e := PyData.int) (w_ix (e := eD) (w_nameO (e := eD) (x := own_1) rfl) (w_dC (e := PyData.int) (x := (5 : Int)) rfl) (fun _ => rfl)))) (fun s_3 u_6 q => (s_seq0 (s_setIx (xs := own_1) (e := eD) rfl (w_if (t_val (w_call2 (w_name (e := PyData.int) (x := end_1) rfl) (w_cast (e := PyData.int) (w_ix (e := eD) (w_nameO (e := eD) (x := own_1) rfl) (w_dC (e := PyData.int) (x := (1 : Int)) rfl) (fun _ => rfl))))) (w_co (e := PyData.int) (e' := eD) (fun a : Int => ((PyData.int a) : D)) (w_name (e := PyData.int) (x := end_1) rfl) (fun _ => rfl)) (w_ix (e := eD) (w_nameO (e := eD) (x := own_1) rfl) (w_dC (e := PyData.int) (x := (1 : Int)) rfl) (fun _ => rfl))) (w_dC (e := PyData.int) (x := (1 : Int)) rfl) (fun own_2 => [sv (eTalk talk_1), sv (PyData.int x_1), sv (eSeg segment_1), so (List.map eD own_2), so (List.map eD other_1), sv (PyData.int end_1), sv (PyData.int s_3), (Option.map En.d u_6), none, none, none]) (fun _ => rfl) (fun own_2 q => (s_seq0 (s_setIx (xs := own_2) (e := eD) rfl (w_co (e := PyData.int) (e' := eD) (fun a : Int => ((PyData.int a) : D)) (w_I2 (w_cast (e := PyData.int) (w_ix (e := eD) (w_nameO (e := eD) (x := own_2) rfl) (w_dC (e := PyData.int) (x := (3 : Int)) rfl) (fun _ => rfl))) (w_name (e := PyData.int) (x := s_3) rfl)) (fun _ => rfl)) (w_dC (e := PyData.int) (x := (3 : Int)) rfl) (fun own_3 => [sv (eTalk talk_1), sv (PyData.int x_1), sv (eSeg segment_1), so (List.map eD own_3), so (List.map eD other_1), sv (PyData.int end_1), sv (PyData.int s_3), (Option.map En.d u_6), none, none, none]) (fun _ => rfl) (fun own_3 q => (s_seq0 (s_asg (e := PyData.int) (w_call1 (w_I0 (g' := fun i j => i + j) (w_prj (e := eSeg) (e' := PyData.int) 4 (fun p : Seg => p.2.2.2.2.1) (w_name (e := eSeg) (x := segment_1) rfl) (fun _ => ⟨_, rfl, dix_nn (by decide) rfl⟩)) (w_I2 (w_name (e := PyData.int) (x := s_3) rfl) (w_dC (e := PyData.int) (x := (1 : Int)) rfl)) (fun _ _ => rfl))) (fun top_1 : Int => [sv (eTalk talk_1), sv (PyData.int x_1), sv (eSeg segment_1), so (List.map eD own_3), so (List.map eD other_1), sv (PyData.int end_1), sv (PyData.int s_3), (Option.map En.d u_6), sv (PyData.int top_1), none, none]) (fun _ => rfl) (fun top_1 q => (s_seq0 (s_setIx (xs := other_1) (e := eD) rfl (w_if (t_val (w_call2 (w_name (e := PyData.int) (x := top_1) rfl) (w_cast (e := PyData.int) (w_ix (e := eD) (w_nameO (e := eD) (x := other_1) rfl) (w_dC (e := PyData.int) (x := (2 : Int)) rfl) (fun _ => rfl))))) (w_co (e := PyData.int) (e' := eD) (fun a : Int => ((PyData.int a) : D)) (w_name (e := PyData.int) (x := top_1) rfl) (fun _ => rfl)) (w_ix (e := eD) (w_nameO (e := eD) (x := other_1) rfl) (w_dC (e := PyData.int) (x := (2 : Int)) rfl) (fun _ => rfl))) (w_dC (e := PyData.int) (x := (2 : Int)) rfl) (fun other_2 => [sv (eTalk talk_1), sv (PyData.int x_1), sv (eSeg segment_1), so (List.map eD own_3), so (List.map eD other_2), sv (PyData.int end_1), sv (PyData.int s_3), (Option.map En.d u_6), sv (PyData.int top_1), none, none]) (fun _ => rfl) (fun other_2 q => (s_seq0 (s_setIx (xs := other_2) (e := eD) rfl (w_if (t_val (w_call2 (w_prj (e := eSeg) (e' := PyData.int) 4 (fun p : Seg => p.2.2.2.2.1) (w_name (e := eSeg) (x := segment_1) rfl) (fun _ => ⟨_, rfl, dix_nn (by decide) rfl⟩)) (w_cast (e := PyData.int) (w_ix (e := eD) (w_nameO (e := eD) (x := other_2) rfl) (w_dC (e := PyData.int) (x := (4 : Int)) rfl) (fun _ => rfl))))) (w_co (e := PyData.int) (e' := eD) (fun a : Int => ((PyData.int a) : D)) (w_prj (e := eSeg) (e' := PyData.int) 4 (fun p : Seg => p.2.2.2.2.1) (w_name (e := eSeg) (x := segment_1) rfl) (fun _ => ⟨_, rfl, dix_nn (by decide) rfl⟩)) (fun _ => rfl)) (w_ix (e := eD) (w_nameO (e := eD) (x := other_2) rfl) (w_dC (e := PyData.int) (x := (4 : Int)) rfl) (fun _ => rfl))) (w_dC (e := PyData.int) (x := (4 : Int)) rfl) (fun other_3 => [sv (eTalk talk_1), sv (PyData.int x_1), sv (eSeg segment_1), so (List.map eD own_3), so (List.map eD other_3), sv (PyData.int end_1), sv (PyData.int s_3), (Option.map En.d u_6), sv (PyData.int top_1), none, none]) (fun _ => rfl) (fun other_3 q => (s_seq_cut0 (a := _) (fun s_2 : (List D) => y__law_behind_j3 x_1 other_3 G s_2) (fun (s_2 : (List D)) (u_5 : Unit) => [sv (eTalk talk_1), sv (PyData.int x_1), sv (eSeg segment_1), so (List.map eD s_2), so (List.map eD other_3), sv (PyData.int end_1), sv (PyData.int s_3), (Option.map En.d u_6), sv (PyData.int top_1), none, none]) (fun s_2 u_5 q => (s_seq0 (s_asg (e := PyData.str) (w_ifP (t_and (t_val (w_isN (r := isNo) (w_ix (e := eD) (w_nameO (e := eD) (x := s_2) rfl) (w_dC (e := PyData.int) (x := (6 : Int)) rfl) (fun _ => rfl)) (fun _ => rfl))) (t_val (w_isN (r := isNo) (w_ix (e := eD) (w_nameO (e := eD) (x := other_3) rfl) (w_dC (e := PyData.int) (x := (6 : Int)) rfl) (fun _ => rfl)) (fun _ => rfl)))) (w_dC (e := PyData.str) (x := (Str.ofString "open")) rfl) (w_dC (e := PyData.str) (x := (Str.ofString "closing")) rfl)) (fun state_1 : Str => [sv (eTalk talk_1), sv (PyData.int x_1), sv (eSeg segment_1), so (List.map eD s_2), so (List.map eD other_3), sv (PyData.int end_1), sv (PyData.int s_3), (Option.map En.d u_6), sv (PyData.int top_1), sv (PyData.str state_1), none]) (fun _ => rfl) (fun state_1 q => (s_seq_cut0 (a := _) (fun s_1 : Str => y__law_behind_j2 x_1 s_2 other_3 G s_1) (fun (s_1 : Str) (u_4 : Unit) => [sv (eTalk talk_1), sv (PyData.int x_1), sv (eSeg segment_1), so (List.map eD s_2), so (List.map eD other_3), sv (PyData.int end_1), sv (PyData.int s_3), (Option.map En.d u_6), sv (PyData.int top_1), sv (PyData.str s_1), none]) (fun s_1 u_4 q => (s_seq0 (s_asg (e := (eL eSide)) (w_list (l_cons (e := eSide) (w_cast (e := eSide) (w_co (e := (eU eD)) (e' := eD) (fun a : (List D) => (((eU eD) a) : D)) (w_tupOf (e := eD) (w_nameO (e := eD) (x := s_2) rfl) (fun _ => rfl)) (fun _ => rfl))) (l_cons (e := eSide) (w_cast (e := eSide) (w_co (e := (eU eD)) (e' := eD) (fun a : (List D) => (((eU eD) a) : D)) (w_tupOf (e := eD) (w_nameO (e := eD) (x := other_3) rfl) (fun _ => rfl)) (fun _ => rfl))) (l_nil (e := eSide))))) (fun rows_1 : (List Side) => [sv (eTalk talk_1), sv (PyData.int x_1), sv (eSeg segment_1), so (List.map eD s_2), so (List.map eD other_3), sv (PyData.int end_1), sv (PyData.int s_3), (Option.map En.d u_6), sv (PyData.int top_1), sv (PyData.str s_1), sv ((eL eSide) rows_1)]) (fun _ => rfl) (fun rows_1 q => (s_ret (e := eTalk) (w_tup3 (w_name (e := PyData.str) (x := s_1) rfl) (w_ix (e := eSide) (w_name (e := (eL eSide)) (x := rows_1) rfl) (w_name (e := PyData.int) (x := x_1) rfl) (fun _ => rfl)) (w_co (e := eSide) (e' := (eO eSide)) (fun a : Side => ((some a) : (Option Side))) (w_ix (e := eSide) (w_name (e := (eL eSide)) (x := rows_1) rfl) (w_I0 (g' := fun i j => i - j) (w_dC (e := PyData.int) (x := (1 : Int)) rfl) (w_name (e := PyData.int) (x := x_1) rfl) (fun _ _ => rfl)) (fun _ => rfl)) (fun _ => rfl))) hQ q)) q))) (fun N_2 hN_2 => (s_if (t_and (t_val (w_notN (r := isNo) (w_ix (e := eD) (w_nameO (e := eD) (x := s_2) rfl) (w_dC (e := PyData.int) (x := (6 : Int)) rfl) (fun _ => rfl)) (fun _ => rfl))) (t_and (t_val (w_notN (r := isNo) (w_ix (e := eD) (w_nameO (e := eD) (x := other_3) rfl) (w_dC (e := PyData.int) (x := (6 : Int)) rfl) (fun _ => rfl)) (fun _ => rfl))) (t_and (t_val (w_eqD (w_ix (e := eD) (w_nameO (e := eD) (x := s_2) rfl) (w_dC (e := PyData.int) (x := (4 : Int)) rfl) (fun _ => rfl)) (w_ix (e := eD) (w_nameO (e := eD) (x := s_2) rfl) (w_dC (e := PyData.int) (x := (6 : Int)) rfl) (fun _ => rfl)))) (t_val (w_eqD (w_ix (e := eD) (w_nameO (e := eD) (x := other_3) rfl) (w_dC (e := PyData.int) (x := (4 : Int)) rfl) (fun _ => rfl)) (w_ix (e := eD) (w_nameO (e := eD) (x := other_3) rfl) (w_dC (e := PyData.int) (x := (6 : Int)) rfl) (fun _ => rfl))))))) (fun q => (s_asg (e := PyData.str) (w_dC (e := PyData.str) (x := (Str.ofString "over")) rfl) (fun state_3 : Str => [sv (eTalk talk_1), sv (PyData.int x_1), sv (eSeg segment_1), so (List.map eD s_2), so (List.map eD other_3), sv (PyData.int end_1), sv (PyData.int s_3), (Option.map En.d u_6), sv (PyData.int top_1), sv (PyData.str state_3), none]) (fun _ => rfl) (fun state_3 q => (hN_2 state_3 () q)) q)) (fun q => (s_next (hN_2 state_1 () q))) q)))) q))) (fun N_3 hN_3 => (s_if (t_val (w_eqS (r := fun (a : Int) (b : Int) => decide (a = b)) (w_ix (e := PyData.int) (w_call1 (w_name (e := eSeg) (x := segment_1) rfl)) (w_dC (e := PyData.int) (x := (0 : Int)) rfl) (fun _ => rfl)) (w_dC (e := PyData.int) (x := (1 : Int)) rfl) r_I)) (fun q => (s_setIx (xs := own_3) (e := eD) rfl (w_co (e := PyData.int) (e' := eD) (fun a : Int => ((PyData.int a) : D)) (w_name (e := PyData.int) (x := end_1) rfl) (fun _ => rfl)) (w_dC (e := PyData.int) (x := (6 : Int)) rfl) (fun own_5 => [sv (eTalk talk_1), sv (PyData.int x_1), sv (eSeg segment_1), so (List.map eD own_5), so (List.map eD other_3), sv (PyData.int end_1), sv (PyData.int s_3), (Option.map En.d u_6), sv (PyData.int top_1), none, none]) (fun _ => rfl) (fun own_5 q => (hN_3 own_5 () q)) q)) (fun q => (s_next (hN_3 own_3 () q))) q)))) q))) q))) q))) q))) q))) (fun _ q => q) (fun k_1 r_1 s_3 u_6 N_1 B_1 hN_1 hB_1 q => (gn (env' := [sv (eTalk talk_1), sv (PyData.int x_1), sv (eSeg segment_1), so (List.map eD own_1), so (List.map eD other_1), sv (PyData.int end_1), sv (PyData.int s_3), sv (PyData.int k_1), none, none, none]) rfl (s_asg (e := PyData.int) (w_I (g' := fun i j => i * j) (w_name (e := PyData.int) (x := s_3) rfl) (w_dC (e := PyData.int) (x := (2 : Int)) rfl) (fun _ _ => rfl)) (fun window_4 : Int => [sv (eTalk talk_1), sv (PyData.int x_1), sv (eSeg segment_1), so (List.map eD own_1), so (List.map eD other_1), sv (PyData.int end_1), sv (PyData.int window_4), sv (PyData.int k_1), none, none, none]) (fun _ => rfl) (fun window_4 q => (hN_1 window_4 (some (PyData.int k_1)) q)) q))) q))) q))) q))
theorem ok_law_asked (T : Tx K mg) : FnOk P w K mg base CX0 2 T.ad_law_asked T.fd_law_asked ["talk", "x", "segment"] (spD K (F3 (pr3 eTalk PyData.int eSeg (eT2 PyData.str eTalk) y__law_asked))) := by
  refine T.d_law_asked.F.ok x_law_asked (fun vs H Q E h => spD_len F3_len h) (fun cdv A outer s H vs Q E hr h => ?_)
  have nd := x_law_asked.nd
  refine ⟨_, (pss_cons (ps_set (i := 3) nd rfl (Or.inl rfl) (pe_ix ix_seq (pv 0) pe_int (fun _ _ => rfl)))
        (pss_cons (ps_asg (pe_tup (pa_cons (pe_call (ok_law_form T) hr (by rfl) T.d_law_form.g T.d_law_form.F.kp T.d_law_form.b .nil pass0 (pa_cons (pv 2) pa_nil)) (pa_cons (pe_ix ix_seq (pv 2) pe_int (fun _ _ => rfl)) (pa_cons (pe_ix ix_seq (pv 2) pe_int (fun _ _ => rfl)) (pa_cons (pe_callB (call_max2 rfl) (by rfl) T.b_max (by decide +kernel) (pa_cons (pe_ix ix_seq (pv 2) pe_int (fun _ _ => rfl)) (pa_cons pe_int pa_nil))) pa_nil))))) (pg_tup (n := 4) rfl (pgs_cons (pg_name (i := 4) nd rfl (Or.inl rfl)) (pgs_cons (pg_name (i := 5) nd rfl (Or.inl rfl)) (pgs_cons (pg_name (i := 6) nd rfl (Or.inl rfl)) (pgs_cons (pg_name (i := 7) nd rfl (Or.inl rfl)) pgs_nil))))))
        (pss_cons (ps_set (i := 8) nd rfl (Or.inl rfl) (pe_tup (pa_cons pe_str (pa_cons (pe_tup (pa_cons pe_str (pa_cons (pv 3) (pa_cons pe_non pa_nil)))) pa_nil))))
        (pss_cons (ps_if (PW.pt (pw_and (pt_cmpR op_eq (pv 1) pe_int (nomark _)) (pw_and1 (pt_cmpR op_eq (pe_ix ix_seq (pv 4) pe_int (fun _ _ => rfl)) pe_int (nomark _))))) (pss_one (ps_ret (pe_tup (pa_cons (pe_ifExp (PW.pt (pw_and (pt_cmpR (op_eqD hr.units) (pv 4) (pe_lst (pa_cons pe_int (pa_cons pe_int (pa_cons pe_int (pa_cons pe_int pa_nil))))) (nomark _)) (pw_and1 (pt_cmpR op_eq (pv 5) (pe_ix ix_seq (pv 3) pe_int (fun _ _ => rfl)) (nomark _))))) pe_str pe_str) (pa_cons (pv 0) pa_nil))))) pss_nil)
        (pss_cons (ps_if (pt_cmpR op_eq (pv 1) pe_int (nomark _)) (pss_one (ps_ret (pe_ifExp (pt_cmpR op_eq (pv 5) (pe_ix ix_seq (pv 3) pe_int (fun _ _ => rfl)) (nomark _)) (pv 8) (pe_tup (pa_cons pe_str (pa_cons (pv 0) pa_nil)))))) pss_nil)
        (pss_cons (ps_if (PW.pt (pw_or (pt_cmpR op_eq (pe_ix ix_seq (pv 4) pe_int (fun _ _ => rfl)) pe_int (nomark _)) (pw_or (pt_cmpR op_ne (pv 6) (pe_ix ix_seq (pv 3) pe_int (fun _ _ => rfl)) (nomark _)) (pw_or1 (PW.pt (pw_and (pt_cmpR op_eq (pe_ix ix_seq (pv 4) pe_int (fun _ _ => rfl)) pe_int (nomark _)) (pw_and1 (pt_cmpR op_eq (pe_ix ix_seq (pv 4) pe_int (fun _ _ => rfl)) pe_int (nomark _))))))))) (pss_one (ps_ret (pe_tup (pa_cons pe_str (pa_cons (pv 0) pa_nil))))) pss_nil)
        (pss_cons (ps_if (pt_cmpR op_eq (pe_ix ix_seq (pv 4) pe_int (fun _ _ => rfl)) pe_int (nomark _)) (pss_one (ps_ret (pv 8))) pss_nil)
        (pss_cons (ps_par (i := 9) (j := 10) (by rfl) nd rfl rfl (by decide) rfl rfl (pa_cons (pe_ix ix_seq (pv 3) pe_int (fun _ _ => rfl)) (pa_cons (pe_call (ok_law_shift T) hr (by rfl) T.d_law_shift.g T.d_law_shift.F.kp T.d_law_shift.b .nil pass0 (pa_cons (pe_ix ix_seq (pv 2) pe_int (fun _ _ => rfl)) pa_nil)) pa_nil)) (by rfl))
        (pss_cons (ps_if (PW.pt (pw_or (pt_cmpR op_isN (pv 9) pe_non (nomark _)) (pw_or1 (pt_cmpR op_isN (pv 10) pe_non (nomark _))))) (pss_one (ps_asg (pe_tup (pa_cons pe_int (pa_cons pe_int pa_nil))) (pg_tup (n := 2) rfl (pgs_cons (pg_name (i := 9) nd rfl (Or.inl rfl)) (pgs_cons (pg_name (i := 10) nd rfl (Or.inl rfl)) pgs_nil))))) pss_nil)
        (pss_cons (ps_set (i := 11) nd rfl (Or.inl rfl) (pe_tup (pa_cons (pv 5) (pa_cons (pe_call (ok_law_mod T) hr (by rfl) T.d_law_mod.g T.d_law_mod.F.kp T.d_law_mod.b .nil pass0 (pa_cons (pe_op op_add (pv 5) pe_int) pa_nil)) (pa_cons (pe_call (ok_law_mod T) hr (by rfl) T.d_law_mod.g T.d_law_mod.F.kp T.d_law_mod.b .nil pass0 (pa_cons (pe_op op_add (pe_op op_add (pv 5) pe_int) (pe_ix ix_seq (pv 3) pe_int (fun _ _ => rfl))) pa_nil)) (pa_cons (pv 7) (pa_cons (pv 5) (pa_cons (pv 10) (pa_cons pe_non pa_nil)))))))))
        (pss_one (ps_ret (pe_tup (pa_cons pe_str (pa_cons (pe_tup (pa_cons pe_str (pa_cons (pe_op op_catA (pe_slice sl_tupA (pv 3) po_none (po_some pe_int)) (pe_tup (pa_cons (pe_call (ok_law_mod T) hr (by rfl) T.d_law_mod.g T.d_law_mod.F.kp T.d_law_mod.b .nil pass0 (pa_cons (pe_op op_add (pv 6) (pv 7)) pa_nil)) (pa_cons (pe_ix ix_seq (pv 3) pe_int (fun _ _ => rfl)) (pa_cons (pv 6) (pa_cons (pv 9) (pa_cons pe_non pa_nil))))))) (pa_cons (pv 11) pa_nil)))) pa_nil))))))))))))))), fn_pure ((rs_seq (rs_asg (ro rv_ix (RfE.b (rn 0)) (RfE.b (rc_int _))) (rg_name 3))
        (rs_seq (rs_asg (re_tup (raC (re_call (raC (rn 2) raN)) (raC (ro rv_ix (RfE.b (rn 2)) (RfE.b (rc_int _))) (raC (ro rv_ix (RfE.b (rn 2)) (RfE.b (rc_int _))) (raC (re_cb ro_max (rbC (RfE.b (ro rv_ix (RfE.b (rn 2)) (RfE.b (rc_int _)))) (rbC (RfE.b (rc_int _)) rbN))) raN))))) (rg_tup (rg_cons (rg_name 4) (rg_cons (rg_name 5) (rg_cons (rg_name 6) (rg_cons (rg_name 7) rg_nil))))))
        (rs_seq (rs_asg (re_tup (raC (rc_str _) (raC (re_tup (raC (rc_str _) (raC (rn 3) (raC rc_non raN)))) raN))) (rg_name 8))
        (rs_seq (rs_if (rt_and (rt_test (ro rv_eq (RfE.b (rn 1)) (RfE.b (rc_int _)))) (rt_test (ro rv_eq (RfE.b (ro rv_ix (RfE.b (rn 4)) (RfE.b (rc_int _)))) (RfE.b (rc_int _))))) (rs_ret (re_tup (raC (re_if (rt_and (rt_test (ro rv_eqD (RfE.b (rn 4)) (RfE.b (RfF.e (show RfF _ _ (dCL ([PyData.int 0, PyData.int 1, PyData.int 0, PyData.int 0])) from rf_lst (raC (rc_int _) (raC (rc_int _) (raC (rc_int _) (raC (rc_int _) raN))))))))) (rt_test (ro rv_eq (RfE.b (rn 5)) (RfE.b (ro rv_ix (RfE.b (rn 3)) (RfE.b (rc_int _))))))) (rc_str _) (rc_str _)) (raC (rn 0) raN)))) rs_next)
        (rs_seq (rs_if (rt_test (ro rv_eq (RfE.b (rn 1)) (RfE.b (rc_int _)))) (rs_ret (re_if (rt_test (ro rv_eq (RfE.b (rn 5)) (RfE.b (ro rv_ix (RfE.b (rn 3)) (RfE.b (rc_int _)))))) (rn 8) (re_tup (raC (rc_str _) (raC (rn 0) raN))))) rs_next)
        (rs_seq (rs_if (rt_or (rt_test (ro rv_eq (RfE.b (ro rv_ix (RfE.b (rn 4)) (RfE.b (rc_int _)))) (RfE.b (rc_int _)))) (rt_or (rt_test (ro rv_ne (RfE.b (rn 6)) (RfE.b (ro rv_ix (RfE.b (rn 3)) (RfE.b (rc_int _)))))) (rt_and (rt_test (ro rv_eq (RfE.b (ro rv_ix (RfE.b (rn 4)) (RfE.b (rc_int _)))) (RfE.b (rc_int _)))) (rt_test (ro rv_eq (RfE.b (ro rv_ix (RfE.b (rn 4)) (RfE.b (rc_int _)))) (RfE.b (rc_int _))))))) (rs_ret (re_tup (raC (rc_str _) (raC (rn 0) raN)))) rs_next)
        (rs_seq (rs_if (rt_test (ro rv_eq (RfE.b (ro rv_ix (RfE.b (rn 4)) (RfE.b (rc_int _)))) (RfE.b (rc_int _)))) (rs_ret (rn 8)) rs_next)
        (rs_seq (rs_par 9 10 (raC (ro rv_ix (RfE.b (rn 3)) (RfE.b (rc_int _))) (raC (re_call (raC (ro rv_ix (RfE.b (rn 2)) (RfE.b (rc_int _))) raN)) raN)))
        (rs_seq (rs_if (rt_or (rt_test (ro rv_isN (RfE.b (rn 9)) (RfE.b rc_non))) (rt_test (ro rv_isN (RfE.b (rn 10)) (RfE.b rc_non)))) (rs_asg (show RfE _ _ (dC (PyData.tuple [PyData.int 0, PyData.int 0])) from re_tup (raC (rc_int _) (raC (rc_int _) raN))) (rg_tup (rg_cons (rg_name 9) (rg_cons (rg_name 10) rg_nil)))) rs_next)
        (rs_seq (rs_asg (re_tup (raC (rn 5) (raC (re_call (raC (ro rv_add (RfE.b (rn 5)) (RfE.b (rc_int _))) raN)) (raC (re_call (raC (ro rv_add (RfE.b (ro rv_add (RfE.b (rn 5)) (RfE.b (rc_int _)))) (RfE.b (ro rv_ix (RfE.b (rn 3)) (RfE.b (rc_int _))))) raN)) (raC (rn 7) (raC (rn 5) (raC (rn 10) (raC rc_non raN)))))))) (rg_name 11))
        (rs_ret (re_tup (raC (rc_str _) (raC (re_tup (raC (rc_str _) (raC (ro rv_catT (RfE.b (re_slT (RfE.b (rn 3)) rp_no (rp_some (rc_int _)))) (RfE.b (re_tup (raC (re_call (raC (ro rv_add (RfE.b (rn 6)) (RfE.b (rn 7))) raN)) (raC (ro rv_ix (RfE.b (rn 3)) (RfE.b (rc_int _))) (raC (rn 6) (raC (rn 9) (raC rc_non raN)))))))) (raC (rn 11) raN)))) raN))))))))))))))) h (by rw [spD_len F3_len h]; decide) (F3_in fun a0 a1 a2 Qd q => ?_)⟩
  obtain ⟨talk_1, x_1, segment_1, G, rfl, rfl, rfl, q, hQ⟩ := q
  delta y__law_asked at q
  exact (s_seq0 (s_asg (e := eSide) (w_prj (e := eTalk) (e' := eSide) 1 (fun p : Talk => p.2.1) (w_name (e := eTalk) (x := talk_1) rfl) (fun _ => ⟨_, rfl, dix_nn (by decide) rfl⟩)) (fun opener_1 : Side => [sv (eTalk talk_1), sv (PyData.int x_1), sv (eSeg segment_1), sv (eSide opener_1), none, none, none, none, none, none, none, none]) (fun _ => rfl) (fun opener_1 q => (s_seq0 (s_pat (e := (eT4 (eL PyData.int) PyData.int PyData.int PyData.int)) (w_tup4 (w_call1 (w_name (e := eSeg) (x := segment_1) rfl)) (w_prj (e := eSeg) (e' := PyData.int) 3 (fun p : Seg => p.2.2.2.1) (w_name (e := eSeg) (x := segment_1) rfl) (fun _ => ⟨_, rfl, dix_nn (by decide) rfl⟩)) (w_prj (e := eSeg) (e' := PyData.int) 4 (fun p : Seg => p.2.2.2.2.1) (w_name (e := eSeg) (x := segment_1) rfl) (fun _ => ⟨_, rfl, dix_nn (by decide) rfl⟩)) (w_I2 (w_prj (e := eSeg) (e' := PyData.int) 6 (fun p : Seg => p.2.2.2.2.2.2.1) (w_name (e := eSeg) (x := segment_1) rfl) (fun _ => ⟨_, rfl, dix_nn (by decide) rfl⟩)) (w_dC (e := PyData.int) (x := (1 : Int)) rfl))) (fun p_1 q => (g_tup (gs_cons (gn (env' := [sv (eTalk talk_1), sv (PyData.int x_1), sv (eSeg segment_1), sv (eSide opener_1), sv ((eL PyData.int) p_1.1), none, none, none, none, none, none, none]) rfl (gs_cons (gn (env' := [sv (eTalk talk_1), sv (PyData.int x_1), sv (eSeg segment_1), sv (eSide opener_1), sv ((eL PyData.int) p_1.1), sv (PyData.int p_1.2.1), none, none, none, none, none, none]) rfl (gs_cons (gn (env' := [sv (eTalk talk_1), sv (PyData.int x_1), sv (eSeg segment_1), sv (eSide opener_1), sv ((eL PyData.int) p_1.1), sv (PyData.int p_1.2.1), sv (PyData.int p_1.2.2.1), none, none, none, none, none]) rfl (gs_cons (gn (env' := [sv (eTalk talk_1), sv (PyData.int x_1), sv (eSeg segment_1), sv (eSide opener_1), sv ((eL PyData.int) p_1.1), sv (PyData.int p_1.2.1), sv (PyData.int p_1.2.2.1), sv (PyData.int p_1.2.2.2), none, none, none, none]) rfl (gs_nil (s_seq0 (s_asg (e := (eT2 PyData.str (eT3 PyData.str eSide eN))) (w_tup2 (w_dC (e := PyData.str) (x := (Str.ofString "fits")) rfl) (w_tup3 (w_dC (e := PyData.str) (x := (Str.ofString "over")) rfl) (w_name (e := eSide) (x := opener_1) rfl) (w_dC (e := eN) (x := ()) rfl))) (fun over_1 : (Str × (Str × Side × Unit)) => [sv (eTalk talk_1), sv (PyData.int x_1), sv (eSeg segment_1), sv (eSide opener_1), sv ((eL PyData.int) p_1.1), sv (PyData.int p_1.2.1), sv (PyData.int p_1.2.2.1), sv (PyData.int p_1.2.2.2), sv ((eT2 PyData.str (eT3 PyData.str eSide eN)) over_1), none, none, none]) (fun _ => rfl) (fun over_1 q => (s_seq0 (s_if (t_and (t_val (w_eqS (r := fun (a : Int) (b : Int) => decide (a = b)) (w_name (e := PyData.int) (x := x_1) rfl) (w_dC (e := PyData.int) (x := (0 : Int)) rfl) r_I)) (t_val (w_eqS (r := fun (a : Int) (b : Int) => decide (a = b)) (w_ix (e := PyData.int) (w_name (e := (eL PyData.int)) (x := p_1.1) rfl) (w_dC (e := PyData.int) (x := (2 : Int)) rfl) (fun _ => rfl)) (w_dC (e := PyData.int) (x := (0 : Int)) rfl) r_I))) (fun q => (s_ret (e := (eT2 PyData.str eTalk)) (w_tup2 (w_ifP (t_andP (t_val (w_eqD (w_name (e := (eL PyData.int)) (x := p_1.1) rfl) (w_list (l_dCL (e := PyData.int) (xs := [(0 : Int), (1 : Int), (0 : Int), (0 : Int)]) rfl)))) (t_val (w_eqS (r := fun (a : Int) (b : Int) => decide (a = b)) (w_name (e := PyData.int) (x := p_1.2.1) rfl) (w_prj (e := eSide) (e' := PyData.int) 0 (fun p : Side => p.1) (w_name (e := eSide) (x := opener_1) rfl) (fun _ => ⟨_, rfl, dix_nn (by decide) rfl⟩)) r_I))) (w_dC (e := PyData.str) (x := (Str.ofString "again")) rfl) (w_dC (e := PyData.str) (x := (Str.ofString "state")) rfl)) (w_name (e := eTalk) (x := talk_1) rfl)) hQ q)) (fun q => (s_next (s_seq0 (s_if (t_val (w_eqS (r := fun (a : Int) (b : Int) => decide (a = b)) (w_name (e := PyData.int) (x := x_1) rfl) (w_dC (e := PyData.int) (x := (0 : Int)) rfl) r_I)) (fun q => (s_ret (e := (eT2 PyData.str eTalk)) (w_ifP (t_val (w_eqS (r := fun (a : Int) (b : Int) => decide (a = b)) (w_name (e := PyData.int) (x := p_1.2.1) rfl) (w_prj (e := eSide) (e' := PyData.int) 1 (fun p : Side => p.2.1) (w_name (e := eSide) (x := opener_1) rfl) (fun _ => ⟨_, rfl, dix_nn (by decide) rfl⟩)) r_I)) (w_co (e := (eT2 PyData.str (eT3 PyData.str eSide eN))) (e' := (eT2 PyData.str eTalk)) (fun a : (Str × (Str × Side × Unit)) => ((a.1, (a.2.1, a.2.2.1, none)) : (Str × Talk))) (w_name (e := (eT2 PyData.str (eT3 PyData.str eSide eN))) (x := over_1) rfl) (fun _ => rfl)) (w_tup2 (w_dC (e := PyData.str) (x := (Str.ofString "state")) rfl) (w_name (e := eTalk) (x := talk_1) rfl))) hQ q)) (fun q => (s_next (s_seq0 (s_if (t_or (t_val (w_eqS (r := fun (a : Int) (b : Int) => decide (a = b)) (w_ix (e := PyData.int) (w_name (e := (eL PyData.int)) (x := p_1.1) rfl) (w_dC (e := PyData.int) (x := (3 : Int)) rfl) (fun _ => rfl)) (w_dC (e := PyData.int) (x := (0 : Int)) rfl) r_I)) (t_or (t_val (w_neS (r := fun (a : Int) (b : Int) => decide (a = b)) (w_name (e := PyData.int) (x := p_1.2.2.1) rfl) (w_prj (e := eSide) (e' := PyData.int) 1 (fun p : Side => p.2.1) (w_name (e := eSide) (x := opener_1) rfl) (fun _ => ⟨_, rfl, dix_nn (by decide) rfl⟩)) r_I)) (t_and (t_val (w_eqS (r := fun (a : Int) (b : Int) => decide (a = b)) (w_ix (e := PyData.int) (w_name (e := (eL PyData.int)) (x := p_1.1) rfl) (w_dC (e := PyData.int) (x := (1 : Int)) rfl) (fun _ => rfl)) (w_dC (e := PyData.int) (x := (0 : Int)) rfl) r_I)) (t_val (w_eqS (r := fun (a : Int) (b : Int) => decide (a = b)) (w_ix (e := PyData.int) (w_name (e := (eL PyData.int)) (x := p_1.1) rfl) (w_dC (e := PyData.int) (x := (2 : Int)) rfl) (fun _ => rfl)) (w_dC (e := PyData.int) (x := (0 : Int)) rfl) r_I))))) (fun q => (s_ret (e := (eT2 PyData.str eTalk)) (w_tup2 (w_dC (e := PyData.str) (x := (Str.ofString "state")) rfl) (w_name (e := eTalk) (x := talk_1) rfl)) hQ q)) (fun q => (s_next (s_seq0 (s_if (t_val (w_eqS (r := fun (a : Int) (b : Int) => decide (a = b)) (w_ix (e := PyData.int) (w_name (e := (eL PyData.int)) (x := p_1.1) rfl) (w_dC (e := PyData.int) (x := (2 : Int)) rfl) (fun _ => rfl)) (w_dC (e := PyData.int) (x := (1 : Int)) rfl) r_I)) (fun q => (s_ret (e := (eT2 PyData.str eTalk)) (w_co (e := (eT2 PyData.str (eT3 PyData.str eSide eN))) (e' := (eT2 PyData.str eTalk)) (fun a : (Str × (Str × Side × Unit)) => ((a.1, (a.2.1, a.2.2.1, none)) : (Str × Talk))) (w_name (e := (eT2 PyData.str (eT3 PyData.str eSide eN))) (x := over_1) rfl) (fun _ => rfl)) hQ q)) (fun q => (s_next (s_seq0 (s_par (e := (eO PyData.int)) (e' := (eO PyData.int)) (w_prj (e := eSide) (e' := (eO PyData.int)) 5 (fun p : Side => p.2.2.2.2.2.1) (w_name (e := eSide) (x := opener_1) rfl) (fun _ => ⟨_, rfl, dix_nn (by decide) rfl⟩)) (w_call1 (w_prj (e := eSeg) (e' := (eU PyData.int)) 8 (fun p : Seg => p.2.2.2.2.2.2.2.2.1) (w_name (e := eSeg) (x := segment_1) rfl) (fun _ => ⟨_, rfl, dix_nn (by decide) rfl⟩))) (fun one_1 two_1 => [sv (eTalk talk_1), sv (PyData.int x_1), sv (eSeg segment_1), sv (eSide opener_1), sv ((eL PyData.int) p_1.1), sv (PyData.int p_1.2.1), sv (PyData.int p_1.2.2.1), sv (PyData.int p_1.2.2.2), sv ((eT2 PyData.str (eT3 PyData.str eSide eN)) over_1), sv ((eO PyData.int) one_1), sv ((eO PyData.int) two_1), none]) (fun _ _ => rfl) (fun one_1 two_1 q => (s_seq_cut0 (a := _) (fun s_1 : (Option Int) × (Option Int) => y__law_asked_j1 opener_1 p_1 G s_1.1 s_1.2) (fun (s_1 : (Option Int) × (Option Int)) (u_1 : Unit) => [sv (eTalk talk_1), sv (PyData.int x_1), sv (eSeg segment_1), sv (eSide opener_1), sv ((eL PyData.int) p_1.1), sv (PyData.int p_1.2.1), sv (PyData.int p_1.2.2.1), sv (PyData.int p_1.2.2.2), sv ((eT2 PyData.str (eT3 PyData.str eSide eN)) over_1), sv ((eO PyData.int) s_1.1), sv ((eO PyData.int) s_1.2), none]) (fun s_1 u_1 q => (s_seq0 (s_asg (e := (eT7 PyData.int PyData.int PyData.int PyData.int PyData.int (eO PyData.int) eN)) (w_tup7 (w_name (e := PyData.int) (x := p_1.2.1) rfl) (w_call1 (w_I0 (g' := fun i j => i + j) (w_name (e := PyData.int) (x := p_1.2.1) rfl) (w_dC (e := PyData.int) (x := (1 : Int)) rfl) (fun _ _ => rfl))) (w_call1 (w_I0 (g' := fun i j => i + j) (w_I0 (g' := fun i j => i + j) (w_name (e := PyData.int) (x := p_1.2.1) rfl) (w_dC (e := PyData.int) (x := (1 : Int)) rfl) (fun _ _ => rfl)) (w_prj (e := eSide) (e' := PyData.int) 3 (fun p : Side => p.2.2.2.1) (w_name (e := eSide) (x := opener_1) rfl) (fun _ => ⟨_, rfl, dix_nn (by decide) rfl⟩)) (fun _ _ => rfl))) (w_name (e := PyData.int) (x := p_1.2.2.2) rfl) (w_name (e := PyData.int) (x := p_1.2.1) rfl) (w_name (e := (eO PyData.int)) (x := s_1.2) rfl) (w_dC (e := eN) (x := ()) rfl)) (fun answerer_1 : (Int × Int × Int × Int × Int × (Option Int) × Unit) => [sv (eTalk talk_1), sv (PyData.int x_1), sv (eSeg segment_1), sv (eSide opener_1), sv ((eL PyData.int) p_1.1), sv (PyData.int p_1.2.1), sv (PyData.int p_1.2.2.1), sv (PyData.int p_1.2.2.2), sv ((eT2 PyData.str (eT3 PyData.str eSide eN)) over_1), sv ((eO PyData.int) s_1.1), sv ((eO PyData.int) s_1.2), sv ((eT7 PyData.int PyData.int PyData.int PyData.int PyData.int (eO PyData.int) eN) answerer_1)]) (fun _ => rfl) (fun answerer_1 q => (s_ret (e := (eT2 PyData.str eTalk)) (w_tup2 (w_dC (e := PyData.str) (x := (Str.ofString "fits")) rfl) (w_tup3 (w_dC (e := PyData.str) (x := (Str.ofString "answered")) rfl) (w_co (e := (eT7 PyData.int PyData.int PyData.int PyData.int PyData.int (eO PyData.int) eN)) (e' := eSide) (fun a : (Int × Int × Int × Int × Int × (Option Int) × Unit) => ((a.1, a.2.1, a.2.2.1, a.2.2.2.1, a.2.2.2.2.1, a.2.2.2.2.2.1, none) : Side)) (w_catG (e := (eT2 PyData.int PyData.int)) (e' := (eT5 PyData.int PyData.int PyData.int (eO PyData.int) eN)) (e3 := (eT7 PyData.int PyData.int PyData.int PyData.int PyData.int (eO PyData.int) eN)) (fun (x : (Int × Int)) (y : (Int × Int × Int × (Option Int) × Unit)) => (x.1, x.2, y.1, y.2.1, y.2.2.1, y.2.2.2.1, y.2.2.2.2)) (w_slG (e := eSide) (e' := (eT2 PyData.int PyData.int)) (fun p : Side => (p.1, p.2.1)) (w_name (e := eSide) (x := opener_1) rfl) o_no (o_some (w_dC (e := PyData.int) (x := (2 : Int)) rfl)) (fun _ => ⟨_, rfl, rfl⟩)) (w_tup5 (w_call1 (w_I0 (g' := fun i j => i + j) (w_name (e := PyData.int) (x := p_1.2.2.1) rfl) (w_name (e := PyData.int) (x := p_1.2.2.2) rfl) (fun _ _ => rfl))) (w_prj (e := eSide) (e' := PyData.int) 3 (fun p : Side => p.2.2.2.1) (w_name (e := eSide) (x := opener_1) rfl) (fun _ => ⟨_, rfl, dix_nn (by decide) rfl⟩)) (w_name (e := PyData.int) (x := p_1.2.2.1) rfl) (w_name (e := (eO PyData.int)) (x := s_1.1) rfl) (w_dC (e := eN) (x := ()) rfl)) (fun _ _ => ⟨_, _, rfl, rfl, rfl, by show 7 ≤ sizeLine; decide⟩)) (fun _ => rfl)) (w_co (e := (eT7 PyData.int PyData.int PyData.int PyData.int PyData.int (eO PyData.int) eN)) (e' := (eO eSide)) (fun a : (Int × Int × Int × Int × Int × (Option Int) × Unit) => ((some (a.1, a.2.1, a.2.2.1, a.2.2.2.1, a.2.2.2.2.1, a.2.2.2.2.2.1, none)) : (Option Side))) (w_name (e := (eT7 PyData.int PyData.int PyData.int PyData.int PyData.int (eO PyData.int) eN)) (x := answerer_1) rfl) (fun _ => rfl)))) hQ q)) q))) (fun N_1 hN_1 => (s_if (t_orP (t_val (w_isN (r := fun a : (Option Int) => a.isNone) (w_name (e := (eO PyData.int)) (x := one_1) rfl) (n_O (fun _ => rfl)))) (t_val (w_isN (r := fun a : (Option Int) => a.isNone) (w_name (e := (eO PyData.int)) (x := two_1) rfl) (n_O (fun _ => rfl))))) (fun q => (s_pat (e := (eT2 PyData.int PyData.int)) (w_dC (e := (eT2 PyData.int PyData.int)) (x := ((0 : Int), (0 : Int))) rfl) (fun p_2 q => (g_tup (gs_cons (gn (env' := [sv (eTalk talk_1), sv (PyData.int x_1), sv (eSeg segment_1), sv (eSide opener_1), sv ((eL PyData.int) p_1.1), sv (PyData.int p_1.2.1), sv (PyData.int p_1.2.2.1), sv (PyData.int p_1.2.2.2), sv ((eT2 PyData.str (eT3 PyData.str eSide eN)) over_1), sv (PyData.int p_2.1), sv ((eO PyData.int) two_1), none]) rfl (gs_cons (gn (env' := [sv (eTalk talk_1), sv (PyData.int x_1), sv (eSeg segment_1), sv (eSide opener_1), sv ((eL PyData.int) p_1.1), sv (PyData.int p_1.2.1), sv (PyData.int p_1.2.2.1), sv (PyData.int p_1.2.2.2), sv ((eT2 PyData.str (eT3 PyData.str eSide eN)) over_1), sv (PyData.int p_2.1), sv (PyData.int p_2.2), none]) rfl (gs_nil (hN_1 ((some p_2.1), (some p_2.2)) () q)))))) rfl)) q)) (fun q => (s_next (hN_1 (one_1, two_1) () q))) q)))) q)))) q)))) q)))) q)))) q))) q))))))))))) rfl)) q))) q))
theorem ok_law_track (T : Tx K mg) : FnOk P w K mg base CX0 4 T.ad_law_track T.fd_law_track ["talk", "x", "segment"] (spD K (F3 (pr3 eTalk PyData.int eSeg (eT2 PyData.str eTalk) y__law_track))) := by
  refine T.d_law_track.F.ok x_law_track (fun vs H Q E h => spD_len F3_len h) (fun cdv A outer s H vs Q E hr h => ?_)
  have nd := x_law_track.nd
  refine ⟨_, (pss_cons (ps_if (pt_val (pe_call (ok_law_is_odd T) (hr.mono (by decide)) (by rfl) T.d_law_is_odd.g T.d_law_is_odd.F.kp T.d_law_is_odd.b .nil pass0 (pa_cons (pv 2) pa_nil))) (pss_one (ps_ret (pe_tup (pa_cons pe_str (pa_cons (pv 0) pa_nil))))) pss_nil)
        (pss_cons (ps_if (pt_cmpR op_eq (pe_ix ix_seq (pv 0) pe_int (fun _ _ => rfl)) pe_str (nomark _)) (pss_one (ps_ret (pe_call (ok_law_asked T) (hr.mono (by decide)) (by rfl) T.d_law_asked.g T.d_law_asked.F.kp T.d_law_asked.b .nil pass0 (pa_cons (pv 0) (pa_cons (pv 1) (pa_cons (pv 2) pa_nil)))))) pss_nil)
        (pss_cons (ps_par3 (i := 3) (j := 4) (l := 5) (by rfl) nd rfl rfl rfl (by decide) (by decide) (by decide) rfl rfl rfl (pa_cons (pe_call (ok_law_form T) (hr.mono (by decide)) (by rfl) T.d_law_form.g T.d_law_form.F.kp T.d_law_form.b .nil pass0 (pa_cons (pv 2) pa_nil)) (pa_cons (pe_ix ix_seq (pv 2) pe_int (fun _ _ => rfl)) (pa_cons (pe_ix ix_seq (pv 2) pe_int (fun _ _ => rfl)) pa_nil))) (by rfl))
        (pss_cons (ps_set (i := 6) nd rfl (Or.inl rfl) (pe_and (pe_cmpR op_notN (pe_ix ix_seq (pv 0) pe_int (fun _ _ => rfl)) pe_non (nomark _)) (pe_and (pe_cmpR op_eq (pv 4) (pe_ix ix_seq (pe_ix ix_seq (pv 0) (pe_op op_add pe_int (pv 1)) (fun _ _ => rfl)) pe_int (fun _ _ => rfl)) (nomark _)) (pe_and (pe_cmpR op_eq (pe_ix ix_seq (pv 3) pe_int (fun _ _ => rfl)) pe_int (nomark _)) (pe_one (pe_cmpR op_eq (pe_ix ix_seq (pv 3) pe_int (fun _ _ => rfl)) (pv 1) (nomark _)))))))
        (pss_cons (ps_set (i := 6) nd rfl (Or.inl rfl) (pe_and (pv 6) (pe_one (pe_or (pe_cmpR op_eq (pv 1) pe_int (nomark _)) (pe_one (pe_cmpR op_eq (pv 5) (pe_call (ok_law_mod T) (hr.mono (by decide)) (by rfl) T.d_law_mod.g T.d_law_mod.F.kp T.d_law_mod.b .nil pass0 (pa_cons (pe_op op_add (pe_ix ix_seq (pe_ix ix_seq (pv 0) pe_int (fun _ _ => rfl)) pe_int (fun _ _ => rfl)) pe_int) pa_nil)) (nomark _)))))))
        (pss_cons (ps_if (pt_cmpR op_eq (pe_ix ix_seq (pv 0) pe_int (fun _ _ => rfl)) pe_str (nomark _)) (pss_cons (ps_if (PW.pt (pw_and (pt_cmpR op_eq (pv 1) pe_int (nomark _)) (pw_and (pt_cmpR (op_eqD hr.units) (pv 3) (pe_lst (pa_cons pe_int (pa_cons pe_int (pa_cons pe_int (pa_cons pe_int pa_nil))))) (nomark _)) (pw_and1 (pt_val (pe_call (ok_law_later T) (hr.mono (by decide)) (by rfl) T.d_law_later.g T.d_law_later.F.kp T.d_law_later.b .nil pass0 (pa_cons (pv 4) (pa_cons (pe_ix ix_seq (pe_ix ix_seq (pv 0) pe_int (fun _ _ => rfl)) pe_int (fun _ _ => rfl)) pa_nil)))))))) (pss_one (ps_ret (pe_tup (pa_cons pe_str (pa_cons (pv 0) pa_nil))))) pss_nil)
        (pss_cons (ps_set (i := 7) nd rfl (Or.inl rfl) (pe_and (pe_cmpR op_eq (pe_ix ix_seq (pv 3) pe_int (fun _ _ => rfl)) pe_int (nomark _)) (pe_and (pe_cmpR op_notN (pe_ix ix_seq (pv 0) pe_int (fun _ _ => rfl)) pe_non (nomark _)) (pe_one (pe_call (ok_law_well T) hr (by rfl) T.d_law_well.g T.d_law_well.F.kp T.d_law_well.b .nil pass0 (pa_cons (pv 0) (pa_cons (pv 1) (pa_cons (pv 2) pa_nil))))))))
        (pss_one (ps_ret (pe_tup (pa_cons (pe_ifExp (pt_val (pv 7)) pe_str pe_str) (pa_cons (pv 0) pa_nil))))))) pss_nil)
        (pss_cons (ps_if (pt_cmpR op_eq (pe_ix ix_seq (pv 3) pe_int (fun _ _ => rfl)) pe_int (nomark _)) (pss_one (ps_ret (pe_tup (pa_cons (pe_ifExp (pt_val (pv 6)) pe_str pe_str) (pa_cons (pv 0) pa_nil))))) pss_nil)
        (pss_cons (ps_if (pt_cmpR op_eq (pe_ix ix_seq (pv 0) pe_int (fun _ _ => rfl)) pe_str (nomark _)) (pss_cons (ps_if (pt_cmpR op_eq (pe_ix ix_seq (pv 3) pe_int (fun _ _ => rfl)) pe_int (nomark _)) (pss_one (ps_ret (pe_ifExp (pt_cmpR op_eq (pv 4) (pe_ix ix_seq (pe_ix ix_seq (pv 0) (pe_op op_add pe_int (pv 1)) (fun _ _ => rfl)) pe_int (fun _ _ => rfl)) (nomark _)) (pe_tup (pa_cons pe_str (pa_cons (pe_op op_catA (pe_tup (pa_cons pe_str pa_nil)) (pe_slice sl_tupA (pv 0) (po_some pe_int) po_none)) pa_nil))) (pe_tup (pa_cons pe_str (pa_cons (pv 0) pa_nil)))))) pss_nil)
        (pss_one (ps_if (PW.pt (pw_or (pt_cmpR op_eq (pv 1) pe_int (nomark _)) (pw_or1 (pt_cmpR op_ne (pv 5) (pe_ix ix_seq (pe_ix ix_seq (pv 0) pe_int (fun _ _ => rfl)) pe_int (fun _ _ => rfl)) (nomark _))))) (pss_one (ps_ret (pe_tup (pa_cons pe_str (pa_cons (pv 0) pa_nil))))) pss_nil))) pss_nil)
        (pss_cons (ps_if (pt_not (pt_val (pe_call (ok_law_well T) hr (by rfl) T.d_law_well.g T.d_law_well.F.kp T.d_law_well.b .nil pass0 (pa_cons (pv 0) (pa_cons (pv 1) (pa_cons (pv 2) pa_nil)))))) (pss_one (ps_ret (pe_tup (pa_cons pe_str (pa_cons (pv 0) pa_nil))))) pss_nil)
        (pss_cons (ps_if (pt_cmpR op_eq (pe_ix ix_seq (pv 3) pe_int (fun _ _ => rfl)) pe_int (nomark _)) (pss_cons (ps_set (i := 8) nd rfl (Or.inl rfl) (pe_or (pe_cmpR op_eq (pv 4) (pe_ix ix_seq (pe_ix ix_seq (pv 0) (pe_op op_add pe_int (pv 1)) (fun _ _ => rfl)) pe_int (fun _ _ => rfl)) (nomark _)) (pe_one (pe_cmpR op_eq (pv 4) (pe_ix ix_seq (pe_ix ix_seq (pv 0) (pe_op op_add pe_int (pv 1)) (fun _ _ => rfl)) pe_int (fun _ _ => rfl)) (nomark _)))))
        (pss_one (ps_ret (pe_ifExp (pt_val (pv 8)) (pe_tup (pa_cons pe_str (pa_cons (pe_op op_catA (pe_tup (pa_cons pe_str pa_nil)) (pe_slice sl_tupA (pv 0) (po_some pe_int) po_none)) pa_nil))) (pe_tup (pa_cons pe_str (pa_cons (pv 0) pa_nil))))))) pss_nil)
        (pss_one (ps_ret (pe_tup (pa_cons pe_str (pa_cons (pe_call (ok_law_behind T) hr (by rfl) T.d_law_behind.g T.d_law_behind.F.kp T.d_law_behind.b .nil pass0 (pa_cons (pv 0) (pa_cons (pv 1) (pa_cons (pv 2) pa_nil)))) pa_nil))))))))))))))), fn_pure ((rs_seq (rs_if (rt_val (re_call (raC (rn 2) raN))) (rs_ret (re_tup (raC (rc_str _) (raC (rn 0) raN)))) rs_next)
        (rs_seq (rs_if (rt_test (ro rv_eq (RfE.b (ro rv_ix (RfE.b (rn 0)) (RfE.b (rc_int _)))) (RfE.b (rc_str _)))) (rs_ret (re_call (raC (rn 0) (raC (rn 1) (raC (rn 2) raN))))) rs_next)
        (rs_seq (rs_par3 3 4 5 (raC (re_call (raC (rn 2) raN)) (raC (ro rv_ix (RfE.b (rn 2)) (RfE.b (rc_int _))) (raC (ro rv_ix (RfE.b (rn 2)) (RfE.b (rc_int _))) raN))))
        (rs_seq (rs_asg (re_and (ro rv_notN (RfE.b (ro rv_ix (RfE.b (rn 0)) (RfE.b (rc_int _)))) (RfE.b rc_non)) (re_and (ro rv_eq (RfE.b (rn 4)) (RfE.b (ro rv_ix (RfE.b (ro rv_ix (RfE.b (rn 0)) (RfE.b (ro rv_add (RfE.b (rc_int _)) (RfE.b (rn 1)))))) (RfE.b (rc_int _))))) (re_and (ro rv_eq (RfE.b (ro rv_ix (RfE.b (rn 3)) (RfE.b (rc_int _)))) (RfE.b (rc_int _))) (ro rv_eq (RfE.b (ro rv_ix (RfE.b (rn 3)) (RfE.b (rc_int _)))) (RfE.b (rn 1)))))) (rg_name 6))
        (rs_seq (rs_asg (re_and (rn 6) (re_or (ro rv_eq (RfE.b (rn 1)) (RfE.b (rc_int _))) (ro rv_eq (RfE.b (rn 5)) (RfE.b (re_call (raC (ro rv_add (RfE.b (ro rv_ix (RfE.b (ro rv_ix (RfE.b (rn 0)) (RfE.b (rc_int _)))) (RfE.b (rc_int _)))) (RfE.b (rc_int _))) raN)))))) (rg_name 6))
        (rs_seq (rs_if (rt_test (ro rv_eq (RfE.b (ro rv_ix (RfE.b (rn 0)) (RfE.b (rc_int _)))) (RfE.b (rc_str _)))) (rs_seq (rs_if (rt_and (rt_test (ro rv_eq (RfE.b (rn 1)) (RfE.b (rc_int _)))) (rt_and (rt_test (ro rv_eqD (RfE.b (rn 3)) (RfE.b (RfF.e (show RfF _ _ (dCL ([PyData.int 0, PyData.int 1, PyData.int 0, PyData.int 0])) from rf_lst (raC (rc_int _) (raC (rc_int _) (raC (rc_int _) (raC (rc_int _) raN))))))))) (rt_val (re_call (raC (rn 4) (raC (ro rv_ix (RfE.b (ro rv_ix (RfE.b (rn 0)) (RfE.b (rc_int _)))) (RfE.b (rc_int _))) raN)))))) (rs_ret (re_tup (raC (rc_str _) (raC (rn 0) raN)))) rs_next)
        (rs_seq (rs_asg (re_and (ro rv_eq (RfE.b (ro rv_ix (RfE.b (rn 3)) (RfE.b (rc_int _)))) (RfE.b (rc_int _))) (re_and (ro rv_notN (RfE.b (ro rv_ix (RfE.b (rn 0)) (RfE.b (rc_int _)))) (RfE.b rc_non)) (re_call (raC (rn 0) (raC (rn 1) (raC (rn 2) raN)))))) (rg_name 7))
        (rs_ret (re_tup (raC (re_if (rt_val (rn 7)) (rc_str _) (rc_str _)) (raC (rn 0) raN)))))) rs_next)
        (rs_seq (rs_if (rt_test (ro rv_eq (RfE.b (ro rv_ix (RfE.b (rn 3)) (RfE.b (rc_int _)))) (RfE.b (rc_int _)))) (rs_ret (re_tup (raC (re_if (rt_val (rn 6)) (rc_str _) (rc_str _)) (raC (rn 0) raN)))) rs_next)
        (rs_seq (rs_if (rt_test (ro rv_eq (RfE.b (ro rv_ix (RfE.b (rn 0)) (RfE.b (rc_int _)))) (RfE.b (rc_str _)))) (rs_seq (rs_if (rt_test (ro rv_eq (RfE.b (ro rv_ix (RfE.b (rn 3)) (RfE.b (rc_int _)))) (RfE.b (rc_int _)))) (rs_ret (re_if (rt_test (ro rv_eq (RfE.b (rn 4)) (RfE.b (ro rv_ix (RfE.b (ro rv_ix (RfE.b (rn 0)) (RfE.b (ro rv_add (RfE.b (rc_int _)) (RfE.b (rn 1)))))) (RfE.b (rc_int _)))))) (re_tup (raC (rc_str _) (raC (ro rv_catT (RfE.b (show RfE _ _ (dC (PyData.tuple [PyData.str "over"])) from re_tup (raC (rc_str _) raN))) (RfE.b (re_slT (RfE.b (rn 0)) (rp_some (rc_int _)) rp_no))) raN))) (re_tup (raC (rc_str _) (raC (rn 0) raN))))) rs_next)
        (rs_if (rt_or (rt_test (ro rv_eq (RfE.b (rn 1)) (RfE.b (rc_int _)))) (rt_test (ro rv_ne (RfE.b (rn 5)) (RfE.b (ro rv_ix (RfE.b (ro rv_ix (RfE.b (rn 0)) (RfE.b (rc_int _)))) (RfE.b (rc_int _))))))) (rs_ret (re_tup (raC (rc_str _) (raC (rn 0) raN)))) rs_next)) rs_next)
        (rs_seq (rs_if (rt_not (rt_val (re_call (raC (rn 0) (raC (rn 1) (raC (rn 2) raN)))))) (rs_ret (re_tup (raC (rc_str _) (raC (rn 0) raN)))) rs_next)
        (rs_seq (rs_if (rt_test (ro rv_eq (RfE.b (ro rv_ix (RfE.b (rn 3)) (RfE.b (rc_int _)))) (RfE.b (rc_int _)))) (rs_seq (rs_asg (re_or (ro rv_eq (RfE.b (rn 4)) (RfE.b (ro rv_ix (RfE.b (ro rv_ix (RfE.b (rn 0)) (RfE.b (ro rv_add (RfE.b (rc_int _)) (RfE.b (rn 1)))))) (RfE.b (rc_int _))))) (ro rv_eq (RfE.b (rn 4)) (RfE.b (ro rv_ix (RfE.b (ro rv_ix (RfE.b (rn 0)) (RfE.b (ro rv_add (RfE.b (rc_int _)) (RfE.b (rn 1)))))) (RfE.b (rc_int _)))))) (rg_name 8))
        (rs_ret (re_if (rt_val (rn 8)) (re_tup (raC (rc_str _) (raC (ro rv_catT (RfE.b (show RfE _ _ (dC (PyData.tuple [PyData.str "over"])) from re_tup (raC (rc_str _) raN))) (RfE.b (re_slT (RfE.b (rn 0)) (rp_some (rc_int _)) rp_no))) raN))) (re_tup (raC (rc_str _) (raC (rn 0) raN)))))) rs_next)
        (rs_ret (re_tup (raC (rc_str _) (raC (re_call (raC (rn 0) (raC (rn 1) (raC (rn 2) raN)))) raN))))))))))))))) h (by rw [spD_len F3_len h]; decide) (F3_in fun a0 a1 a2 Qd q => ?_)⟩
  obtain ⟨talk_1, x_1, segment_1, G, rfl, rfl, rfl, q, hQ⟩ := q
  delta y__law_track at q
  exact (s_seq0 (s_if (t_val (w_call1 (w_name (e := eSeg) (x := segment_1) rfl))) (fun q => (s_ret (e := (eT2 PyData.str eTalk)) (w_tup2 (w_dC (e := PyData.str) (x := (Str.ofString "odd")) rfl) (w_name (e := eTalk) (x := talk_1) rfl)) hQ q)) (fun q => (s_next (s_seq0 (s_if (t_val (w_eqS (r := fun (a : Str) (b : Str) => decide (a = b)) (w_prj (e := eTalk) (e' := PyData.str) 0 (fun p : Talk => p.1) (w_name (e := eTalk) (x := talk_1) rfl) (fun _ => ⟨_, rfl, dix_nn (by decide) rfl⟩)) (w_dC (e := PyData.str) (x := (Str.ofString "asked")) rfl) r_S)) (fun q => (s_ret (e := (eT2 PyData.str eTalk)) (w_call3 (w_name (e := eTalk) (x := talk_1) rfl) (w_name (e := PyData.int) (x := x_1) rfl) (w_name (e := eSeg) (x := segment_1) rfl)) hQ q)) (fun q => (s_next (s_seq0 (s_par3 (e := (eL PyData.int)) (e' := PyData.int) (e3 := PyData.int) (w_call1 (w_name (e := eSeg) (x := segment_1) rfl)) (w_prj (e := eSeg) (e' := PyData.int) 3 (fun p : Seg => p.2.2.2.1) (w_name (e := eSeg) (x := segment_1) rfl) (fun _ => ⟨_, rfl, dix_nn (by decide) rfl⟩)) (w_prj (e := eSeg) (e' := PyData.int) 4 (fun p : Seg => p.2.2.2.2.1) (w_name (e := eSeg) (x := segment_1) rfl) (fun _ => ⟨_, rfl, dix_nn (by decide) rfl⟩)) (fun (form_1 : (List Int)) (seq_1 : Int) (ack_1 : Int) => [sv (eTalk talk_1), sv (PyData.int x_1), sv (eSeg segment_1), sv ((eL PyData.int) form_1), sv (PyData.int seq_1), sv (PyData.int ack_1), none, none, none]) (fun _ _ _ => rfl) (fun form_1 seq_1 ack_1 q => (s_seq0 (s_asg (e := PyData.bool) (w_and (w_notN (r := fun a : (Option Side) => a.isNone) (w_prj (e := eTalk) (e' := (eO eSide)) 2 (fun p : Talk => p.2.2) (w_name (e := eTalk) (x := talk_1) rfl) (fun _ => ⟨_, rfl, dix_nn (by decide) rfl⟩)) (n_O (fun _ => rfl))) (w_and (w_eqS (r := fun (a : Int) (b : Int) => decide (a = b)) (w_name (e := PyData.int) (x := seq_1) rfl) (w_prj (e := eSide) (e' := PyData.int) 0 (fun p : Side => p.1) (w_cast (e := eSide) (w_ix (e := eD) (w_co (e := eTalk) (e' := (eU eD)) (fun a : Talk => ([(PyData.str a.1), (eSide a.2.1), ((eO eSide) a.2.2)] : (List D))) (w_name (e := eTalk) (x := talk_1) rfl) (fun _ => rfl)) (w_I0 (g' := fun i j => i + j) (w_dC (e := PyData.int) (x := (1 : Int)) rfl) (w_name (e := PyData.int) (x := x_1) rfl) (fun _ _ => rfl)) (fun _ => rfl))) (fun _ => ⟨_, rfl, dix_nn (by decide) rfl⟩)) r_I) (w_and (w_eqS (r := fun (a : Int) (b : Int) => decide (a = b)) (w_ix (e := PyData.int) (w_name (e := (eL PyData.int)) (x := form_1) rfl) (w_dC (e := PyData.int) (x := (1 : Int)) rfl) (fun _ => rfl)) (w_dC (e := PyData.int) (x := (1 : Int)) rfl) r_I) (w_eqS (r := fun (a : Int) (b : Int) => decide (a = b)) (w_ix (e := PyData.int) (w_name (e := (eL PyData.int)) (x := form_1) rfl) (w_dC (e := PyData.int) (x := (3 : Int)) rfl) (fun _ => rfl)) (w_name (e := PyData.int) (x := x_1) rfl) r_I)))) (fun known_1 : Bool => [sv (eTalk talk_1), sv (PyData.int x_1), sv (eSeg segment_1), sv ((eL PyData.int) form_1), sv (PyData.int seq_1), sv (PyData.int ack_1), sv (PyData.bool known_1), none, none]) (fun _ => rfl) (fun known_1 q => (s_seq0 (s_asg (e := PyData.bool) (w_and (w_name (e := PyData.bool) (x := known_1) rfl) (w_or (w_eqS (r := fun (a : Int) (b : Int) => decide (a = b)) (w_name (e := PyData.int) (x := x_1) rfl) (w_dC (e := PyData.int) (x := (0 : Int)) rfl) r_I) (w_eqS (r := fun (a : Int) (b : Int) => decide (a = b)) (w_name (e := PyData.int) (x := ack_1) rfl) (w_call1 (w_I0 (g' := fun i j => i + j) (w_prj (e := eSide) (e' := PyData.int) 0 (fun p : Side => p.1) (w_prj (e := eTalk) (e' := eSide) 1 (fun p : Talk => p.2.1) (w_name (e := eTalk) (x := talk_1) rfl) (fun _ => ⟨_, rfl, dix_nn (by decide) rfl⟩)) (fun _ => ⟨_, rfl, dix_nn (by decide) rfl⟩)) (w_dC (e := PyData.int) (x := (1 : Int)) rfl) (fun _ _ => rfl))) r_I))) (fun known_2 : Bool => [sv (eTalk talk_1), sv (PyData.int x_1), sv (eSeg segment_1), sv ((eL PyData.int) form_1), sv (PyData.int seq_1), sv (PyData.int ack_1), sv (PyData.bool known_2), none, none]) (fun _ => rfl) (fun known_2 q => (s_seq0 (s_if (t_val (w_eqS (r := fun (a : Str) (b : Str) => decide (a = b)) (w_prj (e := eTalk) (e' := PyData.str) 0 (fun p : Talk => p.1) (w_name (e := eTalk) (x := talk_1) rfl) (fun _ => ⟨_, rfl, dix_nn (by decide) rfl⟩)) (w_dC (e := PyData.str) (x := (Str.ofString "over")) rfl) r_S)) (fun q => (s_seq0 (s_if (t_and (t_val (w_eqS (r := fun (a : Int) (b : Int) => decide (a = b)) (w_name (e := PyData.int) (x := x_1) rfl) (w_dC (e := PyData.int) (x := (0 : Int)) rfl) r_I)) (t_and (t_val (w_eqD (w_name (e := (eL PyData.int)) (x := form_1) rfl) (w_list (l_dCL (e := PyData.int) (xs := [(0 : Int), (1 : Int), (0 : Int), (0 : Int)]) rfl)))) (t_val (w_call2 (w_name (e := PyData.int) (x := seq_1) rfl) (w_prj (e := eSide) (e' := PyData.int) 1 (fun p : Side => p.2.1) (w_prj (e := eTalk) (e' := eSide) 1 (fun p : Talk => p.2.1) (w_name (e := eTalk) (x := talk_1) rfl) (fun _ => ⟨_, rfl, dix_nn (by decide) rfl⟩)) (fun _ => ⟨_, rfl, dix_nn (by decide) rfl⟩)))))) (fun q => (s_ret (e := (eT2 PyData.str eTalk)) (w_tup2 (w_dC (e := PyData.str) (x := (Str.ofString "new")) rfl) (w_name (e := eTalk) (x := talk_1) rfl)) hQ q)) (fun q => (s_next (s_seq0 (s_asg (e := PyData.bool) (w_and (w_eqS (r := fun (a : Int) (b : Int) => decide (a = b)) (w_ix (e := PyData.int) (w_name (e := (eL PyData.int)) (x := form_1) rfl) (w_dC (e := PyData.int) (x := (1 : Int)) rfl) (fun _ => rfl)) (w_dC (e := PyData.int) (x := (0 : Int)) rfl) r_I) (w_and (w_notN (r := fun a : (Option Side) => a.isNone) (w_prj (e := eTalk) (e' := (eO eSide)) 2 (fun p : Talk => p.2.2) (w_name (e := eTalk) (x := talk_1) rfl) (fun _ => ⟨_, rfl, dix_nn (by decide) rfl⟩)) (n_O (fun _ => rfl))) (w_call3 (w_name (e := eTalk) (x := talk_1) rfl) (w_name (e := PyData.int) (x := x_1) rfl) (w_name (e := eSeg) (x := segment_1) rfl)))) (fun well_1 : Bool => [sv (eTalk talk_1), sv (PyData.int x_1), sv (eSeg segment_1), sv ((eL PyData.int) form_1), sv (PyData.int seq_1), sv (PyData.int ack_1), sv (PyData.bool known_2), sv (PyData.bool well_1), none]) (fun _ => rfl) (fun well_1 q => (s_ret (e := (eT2 PyData.str eTalk)) (w_tup2 (w_ifP (t_val (w_name (e := PyData.bool) (x := well_1) rfl)) (w_dC (e := PyData.str) (x := (Str.ofString "again")) rfl) (w_dC (e := PyData.str) (x := (Str.ofString "over")) rfl)) (w_name (e := eTalk) (x := talk_1) rfl)) hQ q)) q)))) q))) (fun q => (s_next (s_seq0 (s_if (t_val (w_eqS (r := fun (a : Int) (b : Int) => decide (a = b)) (w_ix (e := PyData.int) (w_name (e := (eL PyData.int)) (x := form_1) rfl) (w_dC (e := PyData.int) (x := (1 : Int)) rfl) (fun _ => rfl)) (w_dC (e := PyData.int) (x := (1 : Int)) rfl) r_I)) (fun q => (s_ret (e := (eT2 PyData.str eTalk)) (w_tup2 (w_ifP (t_val (w_name (e := PyData.bool) (x := known_2) rfl)) (w_dC (e := PyData.str) (x := (Str.ofString "again")) rfl) (w_dC (e := PyData.str) (x := (Str.ofString "state")) rfl)) (w_name (e := eTalk) (x := talk_1) rfl)) hQ q)) (fun q => (s_next (s_seq_cut0 (a := _) (fun s_1 : Unit => y__law_track_j1 talk_1 x_1 segment_1 form_1 seq_1 G) (fun (s_1 : Unit) (u_1 : Unit) => [sv (eTalk talk_1), sv (PyData.int x_1), sv (eSeg segment_1), sv ((eL PyData.int) form_1), sv (PyData.int seq_1), sv (PyData.int ack_1), sv (PyData.bool known_2), none, none]) (fun s_1 u_1 q => (s_seq0 (s_if (t_not (t_val (w_call3 (w_name (e := eTalk) (x := talk_1) rfl) (w_name (e := PyData.int) (x := x_1) rfl) (w_name (e := eSeg) (x := segment_1) rfl)))) (fun q => (s_ret (e := (eT2 PyData.str eTalk)) (w_tup2 (w_dC (e := PyData.str) (x := (Str.ofString "window")) rfl) (w_name (e := eTalk) (x := talk_1) rfl)) hQ q)) (fun q => (s_next (s_seq0 (s_if (t_val (w_eqS (r := fun (a : Int) (b : Int) => decide (a = b)) (w_ix (e := PyData.int) (w_name (e := (eL PyData.int)) (x := form_1) rfl) (w_dC (e := PyData.int) (x := (2 : Int)) rfl) (fun _ => rfl)) (w_dC (e := PyData.int) (x := (1 : Int)) rfl) r_I)) (fun q => (s_seq0 (s_asg (e := PyData.bool) (w_or (w_eqS (r := fun (a : Int) (b : Int) => decide (a = b)) (w_name (e := PyData.int) (x := seq_1) rfl) (w_prj (e := eSide) (e' := PyData.int) 1 (fun p : Side => p.2.1) (w_cast (e := eSide) (w_ix (e := eD) (w_co (e := eTalk) (e' := (eU eD)) (fun a : Talk => ([(PyData.str a.1), (eSide a.2.1), ((eO eSide) a.2.2)] : (List D))) (w_name (e := eTalk) (x := talk_1) rfl) (fun _ => rfl)) (w_I0 (g' := fun i j => i + j) (w_dC (e := PyData.int) (x := (1 : Int)) rfl) (w_name (e := PyData.int) (x := x_1) rfl) (fun _ _ => rfl)) (fun _ => rfl))) (fun _ => ⟨_, rfl, dix_nn (by decide) rfl⟩)) r_I) (w_eqS (r := fun (a : Int) (b : Int) => decide (a = b)) (w_name (e := PyData.int) (x := seq_1) rfl) (w_prj (e := eSide) (e' := PyData.int) 4 (fun p : Side => p.2.2.2.2.1) (w_cast (e := eSide) (w_ix (e := eD) (w_co (e := eTalk) (e' := (eU eD)) (fun a : Talk => ([(PyData.str a.1), (eSide a.2.1), ((eO eSide) a.2.2)] : (List D))) (w_name (e := eTalk) (x := talk_1) rfl) (fun _ => rfl)) (w_I0 (g' := fun i j => i + j) (w_dC (e := PyData.int) (x := (1 : Int)) rfl) (w_name (e := PyData.int) (x := x_1) rfl) (fun _ _ => rfl)) (fun _ => rfl))) (fun _ => ⟨_, rfl, dix_nn (by decide) rfl⟩)) r_I)) (fun hit_1 : Bool => [sv (eTalk talk_1), sv (PyData.int x_1), sv (eSeg segment_1), sv ((eL PyData.int) form_1), sv (PyData.int seq_1), sv (PyData.int ack_1), sv (PyData.bool known_2), none, sv (PyData.bool hit_1)]) (fun _ => rfl) (fun hit_1 q => (s_ret (e := (eT2 PyData.str eTalk)) (w_ifP (t_val (w_name (e := PyData.bool) (x := hit_1) rfl)) (w_tup2 (w_dC (e := PyData.str) (x := (Str.ofString "fits")) rfl) (w_catG (e := (eT1 PyData.str)) (e' := (eT2 eSide (eO eSide))) (e3 := eTalk) (fun (x : (Str)) (y : (Side × (Option Side))) => (x, y.1, y.2)) (w_dC (e := (eT1 PyData.str)) (x := (Str.ofString "over")) rfl) (w_slG (e := eTalk) (e' := (eT2 eSide (eO eSide))) (fun p : Talk => (p.2.1, p.2.2)) (w_name (e := eTalk) (x := talk_1) rfl) (o_some (w_dC (e := PyData.int) (x := (1 : Int)) rfl)) o_no (fun _ => ⟨_, rfl, rfl⟩)) (fun _ _ => ⟨_, _, rfl, rfl, rfl, by show 3 ≤ sizeLine; decide⟩))) (w_tup2 (w_dC (e := PyData.str) (x := (Str.ofString "again")) rfl) (w_name (e := eTalk) (x := talk_1) rfl))) hQ q)) q))) (fun q => (s_next (s_ret (e := (eT2 PyData.str eTalk)) (w_tup2 (w_dC (e := PyData.str) (x := (Str.ofString "fits")) rfl) (w_call3 (w_name (e := eTalk) (x := talk_1) rfl) (w_name (e := PyData.int) (x := x_1) rfl) (w_name (e := eSeg) (x := segment_1) rfl))) hQ q))) q)))) q))) (fun N_1 hN_1 => (s_if (t_val (w_eqS (r := fun (a : Str) (b : Str) => decide (a = b)) (w_prj (e := eTalk) (e' := PyData.str) 0 (fun p : Talk => p.1) (w_name (e := eTalk) (x := talk_1) rfl) (fun _ => ⟨_, rfl, dix_nn (by decide) rfl⟩)) (w_dC (e := PyData.str) (x := (Str.ofString "answered")) rfl) r_S)) (fun q => (s_seq0 (s_if (t_val (w_eqS (r := fun (a : Int) (b : Int) => decide (a = b)) (w_ix (e := PyData.int) (w_name (e := (eL PyData.int)) (x := form_1) rfl) (w_dC (e := PyData.int) (x := (2 : Int)) rfl) (fun _ => rfl)) (w_dC (e := PyData.int) (x := (1 : Int)) rfl) r_I)) (fun q => (s_ret (e := (eT2 PyData.str eTalk)) (w_ifP (t_val (w_eqS (r := fun (a : Int) (b : Int) => decide (a = b)) (w_name (e := PyData.int) (x := seq_1) rfl) (w_prj (e := eSide) (e' := PyData.int) 1 (fun p : Side => p.2.1) (w_cast (e := eSide) (w_ix (e := eD) (w_co (e := eTalk) (e' := (eU eD)) (fun a : Talk => ([(PyData.str a.1), (eSide a.2.1), ((eO eSide) a.2.2)] : (List D))) (w_name (e := eTalk) (x := talk_1) rfl) (fun _ => rfl)) (w_I0 (g' := fun i j => i + j) (w_dC (e := PyData.int) (x := (1 : Int)) rfl) (w_name (e := PyData.int) (x := x_1) rfl) (fun _ _ => rfl)) (fun _ => rfl))) (fun _ => ⟨_, rfl, dix_nn (by decide) rfl⟩)) r_I)) (w_tup2 (w_dC (e := PyData.str) (x := (Str.ofString "fits")) rfl) (w_catG (e := (eT1 PyData.str)) (e' := (eT2 eSide (eO eSide))) (e3 := eTalk) (fun (x : (Str)) (y : (Side × (Option Side))) => (x, y.1, y.2)) (w_dC (e := (eT1 PyData.str)) (x := (Str.ofString "over")) rfl) (w_slG (e := eTalk) (e' := (eT2 eSide (eO eSide))) (fun p : Talk => (p.2.1, p.2.2)) (w_name (e := eTalk) (x := talk_1) rfl) (o_some (w_dC (e := PyData.int) (x := (1 : Int)) rfl)) o_no (fun _ => ⟨_, rfl, rfl⟩)) (fun _ _ => ⟨_, _, rfl, rfl, rfl, by show 3 ≤ sizeLine; decide⟩))) (w_tup2 (w_dC (e := PyData.str) (x := (Str.ofString "state")) rfl) (w_name (e := eTalk) (x := talk_1) rfl))) hQ q)) (fun q => (s_next (s_if (t_or (t_val (w_eqS (r := fun (a : Int) (b : Int) => decide (a = b)) (w_name (e := PyData.int) (x := x_1) rfl) (w_dC (e := PyData.int) (x := (1 : Int)) rfl) r_I)) (t_val (w_neS (r := fun (a : Int) (b : Int) => decide (a = b)) (w_name (e := PyData.int) (x := ack_1) rfl) (w_prj (e := eSide) (e' := PyData.int) 1 (fun p : Side => p.2.1) (w_get (e := eSide) (w_prj (e := eTalk) (e' := (eO eSide)) 2 (fun p : Talk => p.2.2) (w_name (e := eTalk) (x := talk_1) rfl) (fun _ => ⟨_, rfl, dix_nn (by decide) rfl⟩))) (fun _ => ⟨_, rfl, dix_nn (by decide) rfl⟩)) r_I))) (fun q => (s_ret (e := (eT2 PyData.str eTalk)) (w_tup2 (w_dC (e := PyData.str) (x := (Str.ofString "state")) rfl) (w_name (e := eTalk) (x := talk_1) rfl)) hQ q)) (fun q => (s_next (hN_1 () () q))) q))) q))) (fun q => (s_next (hN_1 () () q))) q))))) q)))) q))) q))) q))) q)))) q)))) q))
theorem ok_law_options (T : Tx K mg) : FnOk P w K mg base CX0 3 T.ad_law_options T.fd_law_options ["state"] (spS K (F0 (pr0 (eU PyData.int) y__law_options))) := by
  refine T.d_law_options.F.ok x_law_options (fun vs H Q E h => spS_len F0_len h) (fun cdv A outer s H vs Q E hr h => ?_)
  have nd := x_law_options.nd
  refine ⟨_, (pss_cons (ps_if (pt_cmpR op_eq (pe_call (ok_law_take T) (hr.mono (by decide)) (by rfl) T.d_law_take.g T.d_law_take.F.kp T.d_law_take.b .nil pass0 (pa_cons (pv 0) (pa_cons pe_int pa_nil))) pe_int (nomark _)) (pss_one (ps_ret (pe_tup pa_nil))) pss_nil)
        (pss_cons (ps_set (i := 1) nd rfl (Or.inl rfl) (pe_call (ok_law_take T) (hr.mono (by decide)) (by rfl) T.d_law_take.g T.d_law_take.F.kp T.d_law_take.b .nil pass0 (pa_cons (pv 0) (pa_cons pe_int pa_nil))))
        (pss_cons (ps_set (i := 2) nd rfl (Or.inl rfl) (pe_op op_catA (pe_op op_rep2 (pe_tup (pa_cons pe_int pa_nil)) (pv 1)) (pe_tup (pa_cons pe_int (pa_cons pe_int (pa_cons (pe_call (ok_law_pick T) hr (by rfl) T.d_law_pick.g T.d_law_pick.F.kp T.d_law_pick.b .nil pass0 (pa_cons (pv 0) (pa_cons (pe_lst (pa_cons pe_int (pa_cons pe_int (pa_cons pe_int (pa_cons pe_int (pa_cons pe_int (pa_cons pe_int (pa_cons pe_int (pa_cons pe_int pa_nil))))))))) pa_nil))) pa_nil))))))
        (pss_one (ps_ret (pe_op op_catA (pv 2) (pe_op op_rep2 (pe_tup (pa_cons pe_int pa_nil)) (pe_op op_mod (pe_callTy call_int1 (by rfl) T.b_int (by decide +kernel) (pa_cons (pe_un un_neg (pe_callB call_len_seq (by rfl) T.b_len (by decide +kernel) (pa_cons (pv 2) pa_nil))) pa_nil)) pe_int)))))))), fn_state ((rs_seq (rs_if (rt_test (ro rv_eq (RfE.b (re_callS (raC (rc_int _) raN))) (RfE.b (rc_int _)))) (rs_ret (show RfE _ _ (dC (PyData.tuple [])) from re_tup raN)) rs_next)
        (rs_seq (rs_asg (re_callS (raC (rc_int _) raN)) (rg_name 1))
        (rs_seq (rs_asg (ro rv_catT (RfE.b (ro rv_repT (RfE.b (show RfE _ _ (dC (PyData.tuple [PyData.int 1])) from re_tup (raC (rc_int _) raN))) (RfE.b (rn 1)))) (RfE.b (re_tup (raC (rc_int _) (raC (rc_int _) (raC (re_callS (raC (RfF.e (show RfF _ _ (dCL ([PyData.int 0, PyData.int 1, PyData.int 2, PyData.int 7, PyData.int 13, PyData.int 14, PyData.int 15, PyData.int 255])) from rf_lst (raC (rc_int _) (raC (rc_int _) (raC (rc_int _) (raC (rc_int _) (raC (rc_int _) (raC (rc_int _) (raC (rc_int _) (raC (rc_int _) raN)))))))))) raN)) raN)))))) (rg_name 2))
        (rs_ret (ro rv_catT (RfE.b (rn 2)) (RfE.b (ro rv_repT (RfE.b (show RfE _ _ (dC (PyData.tuple [PyData.int 1])) from re_tup (raC (rc_int _) raN))) (RfE.b (ro rv_mod (RfE.b (re_cb ro_int (rbC (RfE.b (ru rv_neg (RfE.b (re_cb ro_len (rbC (RfE.b (rn 2)) rbN))))) rbN))) (RfE.b (rc_int _)))))))))))) h (by rw [spS_len F0_len h]; decide) (F0_in fun  Qd q => ?_)⟩
  obtain ⟨G, q, hQ⟩ := q
  delta y__law_options at q
  exact (s_seq0 (s_if (t_val (w_eqS (r := fun (a : Int) (b : Int) => decide (a = b)) (w_take0 rfl (w_dC (e := PyData.int) (x := (3 : Int)) rfl)) (w_dC (e := PyData.int) (x := (0 : Int)) rfl) r_I)) (fun q => (s_ret (e := (eU PyData.int)) (w_dC (e := (eU PyData.int)) (x := []) rfl) hQ q)) (fun q => (s_next (s_seq0 (s_asg (e := PyData.int) (w_take0 rfl (w_dC (e := PyData.int) (x := (6 : Int)) rfl)) (fun front_1 : Int => [some En.st, sv (PyData.int front_1), none]) (fun _ => rfl) (fun front_1 q => (s_seq0 (s_asg (e := (eU PyData.int)) (w_catU (e := PyData.int) (w_repU (e := PyData.int) (w_dC (e := (eU PyData.int)) (x := [(1 : Int)]) rfl) (w_name (e := PyData.int) (x := front_1) rfl)) (w_co (e := (eT3 PyData.int PyData.int PyData.int)) (e' := (eU PyData.int)) (fun a : (Int × Int × Int) => ([a.1, a.2.1, a.2.2] : (List Int))) (w_tup3 (w_dC (e := PyData.int) (x := (3 : Int)) rfl) (w_dC (e := PyData.int) (x := (3 : Int)) rfl) (w_pick (e := PyData.int) rfl (w_list (l_dCL (e := PyData.int) (xs := [(0 : Int), (1 : Int), (2 : Int), (7 : Int), (13 : Int), (14 : Int), (15 : Int), (255 : Int)]) rfl)) (fun _ => rfl))) (fun _ => rfl))) (fun row_1 : (List Int) => [some En.st, sv (PyData.int front_1), sv ((eU PyData.int) row_1)]) (fun _ => rfl) (fun row_1 q => (s_ret (e := (eU PyData.int)) (w_catU (e := PyData.int) (w_name (e := (eU PyData.int)) (x := row_1) rfl) (w_repU (e := PyData.int) (w_dC (e := (eU PyData.int)) (x := [(1 : Int)]) rfl) (w_I (g' := fun i j => i % j) (w_int (w_neg (w_len (e := PyData.int) (w_name (e := (eU PyData.int)) (x := row_1) rfl) (fun _ => rfl)))) (w_dC (e := PyData.int) (x := (4 : Int)) rfl) (fun _ _ => rfl)))) hQ q)) q))) q)))) q))
theorem ok_law_segment (T : Tx K mg) : FnOk P w K mg base CX0 4 T.ad_law_segment T.fd_law_segment ["state", "seq", "ack", "flags", "size"] (spS K (F4 (pr4 PyData.int PyData.int PyData.int PyData.int eSeg y__law_segment))) := by
  refine T.d_law_segment.F.ok x_law_segment (fun vs H Q E h => spS_len F4_len h) (fun cdv A outer s H vs Q E hr h => ?_)
  have nd := x_law_segment.nd
  refine ⟨_, (pss_cons (ps_set (i := 5) nd rfl (Or.inl rfl) (pe_tup (pa_cons (pe_call (ok_law_number T) (hr.mono (by decide)) (by rfl) T.d_law_number.g T.d_law_number.F.kp T.d_law_number.b .nil pass0 (pa_cons (pv 0) (pa_cons pe_int (pa_cons pe_int pa_nil)))) (pa_cons (pe_call (ok_law_number T) (hr.mono (by decide)) (by rfl) T.d_law_number.g T.d_law_number.F.kp T.d_law_number.b .nil pass0 (pa_cons (pv 0) (pa_cons pe_int (pa_cons pe_int pa_nil)))) pa_nil))))
        (pss_cons (ps_set (i := 6) nd rfl (Or.inl rfl) (pe_call (ok_law_pick T) (hr.mono (by decide)) (by rfl) T.d_law_pick.g T.d_law_pick.F.kp T.d_law_pick.b .nil pass0 (pa_cons (pv 0) (pa_cons (pe_lst (pa_cons pe_int (pa_cons pe_int (pa_cons pe_int (pa_cons pe_int (pa_cons pe_int (pa_cons pe_int (pa_cons pe_int pa_nil)))))))) pa_nil))))
        (pss_cons (ps_set (i := 7) nd rfl (Or.inl rfl) (pe_call (ok_law_pick T) (hr.mono (by decide)) (by rfl) T.d_law_pick.g T.d_law_pick.F.kp T.d_law_pick.b .nil pass0 (pa_cons (pv 0) (pa_cons (pe_lst (pa_cons pe_int (pa_cons pe_int (pa_cons pe_int (pa_cons pe_int (pa_cons pe_int (pa_cons pe_int (pa_cons (pe_call (ok_law_take T) (hr.mono (by decide)) (by rfl) T.d_law_take.g T.d_law_take.F.kp T.d_law_take.b .nil pass0 (pa_cons (pv 0) (pa_cons pe_int pa_nil))) pa_nil)))))))) pa_nil))))
        (pss_cons (ps_set (i := 8) nd rfl (Or.inl rfl) (pe_op op_catA (pe_op op_catA (pe_tup (pa_cons pe_str pa_nil)) (pv 5)) (pe_tup (pa_cons (pe_call (ok_law_mod T) (hr.mono (by decide)) (by rfl) T.d_law_mod.g T.d_law_mod.F.kp T.d_law_mod.b .nil pass0 (pa_cons (pv 1) pa_nil)) (pa_cons (pe_call (ok_law_mod T) (hr.mono (by decide)) (by rfl) T.d_law_mod.g T.d_law_mod.F.kp T.d_law_mod.b .nil pass0 (pa_cons (pv 2) pa_nil)) (pa_cons (pe_op op_add (pv 3) (pv 6)) (pa_cons (pv 7) (pa_cons (pe_call (ok_law_take T) (hr.mono (by decide)) (by rfl) T.d_law_take.g T.d_law_take.F.kp T.d_law_take.b .nil pass0 (pa_cons (pv 0) (pa_cons pe_int pa_nil))) pa_nil))))))))
        (pss_one (ps_ret (pe_op op_catA (pv 8) (pe_tup (pa_cons (pe_call (ok_law_options T) hr (by rfl) T.d_law_options.g T.d_law_options.F.kp T.d_law_options.b .nil pass0 (pa_cons (pv 0) pa_nil)) (pa_cons (pe_op op_rep2 (pe_tup (pa_cons pe_int pa_nil)) (pv 4)) pa_nil)))))))))), fn_state ((rs_seq (rs_asg (re_tup (raC (re_callS (raC (rc_int _) (raC (rc_int _) raN))) (raC (re_callS (raC (rc_int _) (raC (rc_int _) raN))) raN))) (rg_name 5))
        (rs_seq (rs_asg (re_callS (raC (RfF.e (show RfF _ _ (dCL ([PyData.int 0, PyData.int 0, PyData.int 8, PyData.int 32, PyData.int 64, PyData.int 128, PyData.int 200])) from rf_lst (raC (rc_int _) (raC (rc_int _) (raC (rc_int _) (raC (rc_int _) (raC (rc_int _) (raC (rc_int _) (raC (rc_int _) raN))))))))) raN)) (rg_name 6))
        (rs_seq (rs_asg (re_callS (raC (RfF.e (rf_lst (raC (rc_int _) (raC (rc_int _) (raC (rc_int _) (raC (rc_int _) (raC (rc_int _) (raC (rc_int _) (raC (re_callS (raC (rc_int _) raN)) raN))))))))) raN)) (rg_name 7))
        (rs_seq (rs_asg (ro rv_catT (RfE.b (ro rv_catT (RfE.b (show RfE _ _ (dC (PyData.tuple [PyData.str "tcp"])) from re_tup (raC (rc_str _) raN))) (RfE.b (rn 5)))) (RfE.b (re_tup (raC (re_call (raC (rn 1) raN)) (raC (re_call (raC (rn 2) raN)) (raC (ro rv_add (RfE.b (rn 3)) (RfE.b (rn 6))) (raC (rn 7) (raC (re_callS (raC (rc_int _) raN)) raN)))))))) (rg_name 8))
        (rs_ret (ro rv_catT (RfE.b (rn 8)) (RfE.b (re_tup (raC (re_callS raN) (raC (ro rv_repT (RfE.b (show RfE _ _ (dC (PyData.tuple [PyData.int 7])) from re_tup (raC (rc_int _) raN))) (RfE.b (rn 4))) raN))))))))))) h (by rw [spS_len F4_len h]; decide) (F4_in fun a0 a1 a2 a3 Qd q => ?_)⟩
  obtain ⟨seq_1, ack_1, flags_1, size_1, G, rfl, rfl, rfl, rfl, q, hQ⟩ := q
  delta y__law_segment at q
  exact (s_seq0 (s_asg (e := (eT2 PyData.int PyData.int)) (w_tup2 (w_num rfl (w_dC (e := PyData.int) (x := (1 : Int)) rfl) (w_dC (e := PyData.int) (x := (65535 : Int)) rfl)) (w_num rfl (w_dC (e := PyData.int) (x := (1 : Int)) rfl) (w_dC (e := PyData.int) (x := (65535 : Int)) rfl))) (fun ports_1 : (Int × Int) => [some En.st, sv (PyData.int seq_1), sv (PyData.int ack_1), sv (PyData.int flags_1), sv (PyData.int size_1), sv ((eT2 PyData.int PyData.int) ports_1), none, none, none]) (fun _ => rfl) (fun ports_1 q => (s_seq0 (s_asg (e := PyData.int) (w_pick (e := PyData.int) rfl (w_list (l_dCL (e := PyData.int) (xs := [(0 : Int), (0 : Int), (8 : Int), (32 : Int), (64 : Int), (128 : Int), (200 : Int)]) rfl)) (fun _ => rfl)) (fun extra_1 : Int => [some En.st, sv (PyData.int seq_1), sv (PyData.int ack_1), sv (PyData.int flags_1), sv (PyData.int size_1), sv ((eT2 PyData.int PyData.int) ports_1), sv (PyData.int extra_1), none, none]) (fun _ => rfl) (fun extra_1 q => (s_seq0 (s_asg (e := PyData.int) (w_pick (e := PyData.int) rfl (w_list (l_cons (e := PyData.int) (w_dC (e := PyData.int) (x := (0 : Int)) rfl) (l_cons (e := PyData.int) (w_dC (e := PyData.int) (x := (1 : Int)) rfl) (l_cons (e := PyData.int) (w_dC (e := PyData.int) (x := (2 : Int)) rfl) (l_cons (e := PyData.int) (w_dC (e := PyData.int) (x := (10 : Int)) rfl) (l_cons (e := PyData.int) (w_dC (e := PyData.int) (x := (5000 : Int)) rfl) (l_cons (e := PyData.int) (w_dC (e := PyData.int) (x := (65535 : Int)) rfl) (l_cons (e := PyData.int) (w_take0 rfl (w_dC (e := PyData.int) (x := (65536 : Int)) rfl)) (l_nil (e := PyData.int)))))))))) (fun _ => rfl)) (fun window_1 : Int => [some En.st, sv (PyData.int seq_1), sv (PyData.int ack_1), sv (PyData.int flags_1), sv (PyData.int size_1), sv ((eT2 PyData.int PyData.int) ports_1), sv (PyData.int extra_1), sv (PyData.int window_1), none]) (fun _ => rfl) (fun window_1 q => (s_seq0 (s_asg (e := (eT8 PyData.str PyData.int PyData.int PyData.int PyData.int PyData.int PyData.int PyData.int)) (w_catG (e := (eT3 PyData.str PyData.int PyData.int)) (e' := (eT5 PyData.int PyData.int PyData.int PyData.int PyData.int)) (e3 := (eT8 PyData.str PyData.int PyData.int PyData.int PyData.int PyData.int PyData.int PyData.int)) (fun (x : (Str × Int × Int)) (y : (Int × Int × Int × Int × Int)) => (x.1, x.2.1, x.2.2, y.1, y.2.1, y.2.2.1, y.2.2.2.1, y.2.2.2.2)) (w_catG (e := (eT1 PyData.str)) (e' := (eT2 PyData.int PyData.int)) (e3 := (eT3 PyData.str PyData.int PyData.int)) (fun (x : (Str)) (y : (Int × Int)) => (x, y.1, y.2)) (w_dC (e := (eT1 PyData.str)) (x := (Str.ofString "tcp")) rfl) (w_name (e := (eT2 PyData.int PyData.int)) (x := ports_1) rfl) (fun _ _ => ⟨_, _, rfl, rfl, rfl, by show 3 ≤ sizeLine; decide⟩)) (w_tup5 (w_call1 (w_name (e := PyData.int) (x := seq_1) rfl)) (w_call1 (w_name (e := PyData.int) (x := ack_1) rfl)) (w_I0 (g' := fun i j => i + j) (w_name (e := PyData.int) (x := flags_1) rfl) (w_name (e := PyData.int) (x := extra_1) rfl) (fun _ _ => rfl)) (w_name (e := PyData.int) (x := window_1) rfl) (w_take0 rfl (w_dC (e := PyData.int) (x := (2 : Int)) rfl))) (fun _ _ => ⟨_, _, rfl, rfl, rfl, by show 8 ≤ sizeLine; decide⟩)) (fun first_1 : (Str × Int × Int × Int × Int × Int × Int × Int) => [some En.st, sv (PyData.int seq_1), sv (PyData.int ack_1), sv (PyData.int flags_1), sv (PyData.int size_1), sv ((eT2 PyData.int PyData.int) ports_1), sv (PyData.int extra_1), sv (PyData.int window_1), sv ((eT8 PyData.str PyData.int PyData.int PyData.int PyData.int PyData.int PyData.int PyData.int) first_1)]) (fun _ => rfl) (fun first_1 q => (s_ret (e := eSeg) (w_catG (e := (eT8 PyData.str PyData.int PyData.int PyData.int PyData.int PyData.int PyData.int PyData.int)) (e' := (eT2 (eU PyData.int) (eU PyData.int))) (e3 := eSeg) (fun (x : (Str × Int × Int × Int × Int × Int × Int × Int)) (y : ((List Int) × (List Int))) => (x.1, x.2.1, x.2.2.1, x.2.2.2.1, x.2.2.2.2.1, x.2.2.2.2.2.1, x.2.2.2.2.2.2.1, x.2.2.2.2.2.2.2, y.1, y.2)) (w_name (e := (eT8 PyData.str PyData.int PyData.int PyData.int PyData.int PyData.int PyData.int PyData.int)) (x := first_1) rfl) (w_tup2 (w_callS0 rfl) (w_repU (e := PyData.int) (w_dC (e := (eU PyData.int)) (x := [(7 : Int)]) rfl) (w_name (e := PyData.int) (x := size_1) rfl))) (fun _ _ => ⟨_, _, rfl, rfl, rfl, by show 10 ≤ sizeLine; decide⟩)) hQ q)) q))) q))) q))) q))
theorem ok_law_near_segment (T : Tx K mg) : FnOk P w K mg base CX0 5 T.ad_law_near_segment T.fd_law_near_segment ["state", "talk", "x"] (spS K (F2 (pr2 eTalk PyData.int eSeg y__law_near_segment))) := by
  refine T.d_law_near_segment.F.ok x_law_near_segment (fun vs H Q E h => spS_len F2_len h) (fun cdv A outer s H vs Q E hr h => ?_)
  have nd := x_law_near_segment.nd
  refine ⟨_, (pss_cons (ps_par (i := 3) (j := 4) (by rfl) nd rfl rfl (by decide) rfl rfl (pa_cons (pe_ix ix_seq (pv 1) (pe_op op_add pe_int (pv 2)) (fun _ _ => rfl)) (pa_cons (pe_ix ix_seq (pv 1) (pe_op op_sub pe_int (pv 2)) (fun _ _ => rfl)) pa_nil)) (by rfl))
        (pss_cons (ps_if (pt_cmpR op_isN (pv 3) pe_non (nomark _)) (pss_one (ps_set (i := 3) nd rfl (Or.inl rfl) (pe_tup (pa_cons pe_int (pa_cons pe_int (pa_cons pe_int (pa_cons pe_int (pa_cons pe_int (pa_cons pe_int (pa_cons pe_non pa_nil)))))))))) pss_nil)
        (pss_cons (ps_if (pt_cmpR op_isN (pv 4) pe_non (nomark _)) (pss_one (ps_set (i := 4) nd rfl (Or.inl rfl) (pe_tup (pa_cons pe_int (pa_cons pe_int (pa_cons pe_int (pa_cons pe_int (pa_cons pe_int (pa_cons pe_int (pa_cons pe_non pa_nil)))))))))) pss_nil)
        (pss_cons (ps_set (i := 5) nd rfl (Or.inl rfl) (pe_call (ok_law_pick T) (hr.mono (by decide)) (by rfl) T.d_law_pick.g T.d_law_pick.F.kp T.d_law_pick.b .nil pass0 (pa_cons (pv 0) (pa_cons (pe_lst (pa_cons pe_int (pa_cons pe_int (pa_cons pe_int (pa_cons pe_int (pa_cons (pe_un un_neg pe_int) (pa_cons pe_int (pa_cons pe_int (pa_cons (pe_un un_neg pe_int) pa_nil))))))))) pa_nil))))
        (pss_cons (ps_set (i := 6) nd rfl (Or.inl rfl) (pe_lst (pa_cons (pe_ix ix_seq (pv 3) pe_int (fun _ _ => rfl)) (pa_cons (pe_ix ix_seq (pv 3) pe_int (fun _ _ => rfl)) (pa_cons (pe_ix ix_seq (pv 3) pe_int (fun _ _ => rfl)) (pa_cons (pe_ix ix_seq (pv 3) pe_int (fun _ _ => rfl)) (pa_cons (pe_ix ix_seq (pv 3) pe_int (fun _ _ => rfl)) (pa_cons (pe_op op_sub (pe_ix ix_seq (pv 3) pe_int (fun _ _ => rfl)) (pe_ix ix_seq (pv 4) pe_int (fun _ _ => rfl))) (pa_cons (pe_ifExp (pt_cmpR op_isN (pe_ix ix_seq (pv 3) pe_int (fun _ _ => rfl)) pe_non (nomark _)) (pe_ix ix_seq (pv 3) pe_int (fun _ _ => rfl)) (pe_ix ix_seq (pv 3) pe_int (fun _ _ => rfl))) pa_nil)))))))))
        (pss_cons (ps_set (i := 7) nd rfl (Or.inl rfl) (pe_op op_add (pe_call (ok_law_pick T) (hr.mono (by decide)) (by rfl) T.d_law_pick.g T.d_law_pick.F.kp T.d_law_pick.b .nil pass0 (pa_cons (pv 0) (pa_cons (pv 6) pa_nil))) (pv 5)))
        (pss_cons (ps_set (i := 8) nd rfl (Or.inl rfl) (pe_lst (pa_cons (pe_ix ix_seq (pv 4) pe_int (fun _ _ => rfl)) (pa_cons (pe_ix ix_seq (pv 4) pe_int (fun _ _ => rfl)) (pa_cons (pe_ix ix_seq (pv 4) pe_int (fun _ _ => rfl)) (pa_cons (pe_op op_add (pe_ix ix_seq (pv 4) pe_int (fun _ _ => rfl)) pe_int) (pa_cons (pe_op op_sub (pe_ix ix_seq (pv 4) pe_int (fun _ _ => rfl)) pe_int) (pa_cons (pe_ifExp (pt_cmpR op_isN (pe_ix ix_seq (pv 4) pe_int (fun _ _ => rfl)) pe_non (nomark _)) (pe_ix ix_seq (pv 4) pe_int (fun _ _ => rfl)) (pe_ix ix_seq (pv 4) pe_int (fun _ _ => rfl))) pa_nil))))))))
        (pss_cons (ps_set (i := 9) nd rfl (Or.inl rfl) (pe_op op_add (pe_call (ok_law_pick T) (hr.mono (by decide)) (by rfl) T.d_law_pick.g T.d_law_pick.F.kp T.d_law_pick.b .nil pass0 (pa_cons (pv 0) (pa_cons (pv 8) pa_nil))) (pe_call (ok_law_pick T) (hr.mono (by decide)) (by rfl) T.d_law_pick.g T.d_law_pick.F.kp T.d_law_pick.b .nil pass0 (pa_cons (pv 0) (pa_cons (pe_lst (pa_cons pe_int (pa_cons pe_int (pa_cons pe_int (pa_cons pe_int (pa_cons (pe_un un_neg pe_int) pa_nil)))))) pa_nil)))))
        (pss_cons (ps_set (i := 10) nd rfl (Or.inl rfl) (pe_call (ok_law_pick T) (hr.mono (by decide)) (by rfl) T.d_law_pick.g T.d_law_pick.F.kp T.d_law_pick.b .nil pass0 (pa_cons (pv 0) (pa_cons (pe_lst (pa_cons pe_int (pa_cons pe_int (pa_cons pe_int (pa_cons pe_int (pa_cons pe_int (pa_cons pe_int (pa_cons pe_int (pa_cons pe_int (pa_cons pe_int (pa_cons pe_int (pa_cons (pe_call (ok_law_take T) (hr.mono (by decide)) (by rfl) T.d_law_take.g T.d_law_take.F.kp T.d_law_take.b .nil pass0 (pa_cons (pv 0) (pa_cons pe_int pa_nil))) pa_nil)))))))))))) pa_nil))))
        (pss_cons (ps_set (i := 11) nd rfl (Or.inl rfl) (pe_call (ok_law_pick T) (hr.mono (by decide)) (by rfl) T.d_law_pick.g T.d_law_pick.F.kp T.d_law_pick.b .nil pass0 (pa_cons (pv 0) (pa_cons (pe_lst (pa_cons pe_int (pa_cons pe_int (pa_cons pe_int (pa_cons pe_int (pa_cons pe_int (pa_cons pe_int (pa_cons (pe_call (ok_law_take T) (hr.mono (by decide)) (by rfl) T.d_law_take.g T.d_law_take.F.kp T.d_law_take.b .nil pass0 (pa_cons (pv 0) (pa_cons pe_int pa_nil))) pa_nil)))))))) pa_nil))))
        (pss_cons (ps_if (PW.pt (pw_and (pt_cmpR op_in_seq (pv 10) (pe_lst (pa_cons pe_int (pa_cons pe_int pa_nil))) (by rfl)) (pw_and1 (pt_cmpR op_gt (pe_call (ok_law_take T) (hr.mono (by decide)) (by rfl) T.d_law_take.g T.d_law_take.F.kp T.d_law_take.b .nil pass0 (pa_cons (pv 0) (pa_cons pe_int pa_nil))) pe_int (nomark _))))) (pss_one (ps_set (i := 11) nd rfl (Or.inl rfl) pe_int)) pss_nil)
        (pss_cons (ps_if (pt_cmpR op_eq (pe_call (ok_law_take T) (hr.mono (by decide)) (by rfl) T.d_law_take.g T.d_law_take.F.kp T.d_law_take.b .nil pass0 (pa_cons (pv 0) (pa_cons pe_int pa_nil))) pe_int (nomark _)) (pss_one (ps_set (i := 7) nd rfl (Or.inl rfl) (pe_op op_sub (pe_op op_sub (pv 7) (pv 11)) (pe_op op_mod (pe_callTy call_int1 (by rfl) T.b_int (by decide +kernel) (pa_cons (pv 10) pa_nil)) pe_int)))) pss_nil)
        (pss_one (ps_ret (pe_call (ok_law_segment T) hr (by rfl) T.d_law_segment.g T.d_law_segment.F.kp T.d_law_segment.b .nil pass0 (pa_cons (pv 0) (pa_cons (pv 7) (pa_cons (pv 9) (pa_cons (pv 10) (pa_cons (pv 11) pa_nil)))))))))))))))))))), fn_state ((rs_seq (rs_par 3 4 (raC (ro rv_ix (RfE.b (rn 1)) (RfE.b (ro rv_add (RfE.b (rc_int _)) (RfE.b (rn 2))))) (raC (ro rv_ix (RfE.b (rn 1)) (RfE.b (ro rv_sub (RfE.b (rc_int _)) (RfE.b (rn 2))))) raN)))
        (rs_seq (rs_if (rt_test (ro rv_isN (RfE.b (rn 3)) (RfE.b rc_non))) (rs_asg (show RfE _ _ (dC (PyData.tuple [PyData.int 5, PyData.int 6, PyData.int 7, PyData.int 1, PyData.int 5, PyData.int 0, PyData.none])) from re_tup (raC (rc_int _) (raC (rc_int _) (raC (rc_int _) (raC (rc_int _) (raC (rc_int _) (raC (rc_int _) (raC rc_non raN)))))))) (rg_name 3)) rs_next)
        (rs_seq (rs_if (rt_test (ro rv_isN (RfE.b (rn 4)) (RfE.b rc_non))) (rs_asg (show RfE _ _ (dC (PyData.tuple [PyData.int 5, PyData.int 6, PyData.int 7, PyData.int 1, PyData.int 5, PyData.int 0, PyData.none])) from re_tup (raC (rc_int _) (raC (rc_int _) (raC (rc_int _) (raC (rc_int _) (raC (rc_int _) (raC (rc_int _) (raC rc_non raN)))))))) (rg_name 4)) rs_next)
        (rs_seq (rs_asg (re_callS (raC (RfF.e (show RfF _ _ (dCL ([PyData.int 0, PyData.int 0, PyData.int 0, PyData.int 1, PyData.int (-1), PyData.int 2, PyData.int 2147483648, PyData.int (-2147483648)])) from rf_lst (raC (rc_int _) (raC (rc_int _) (raC (rc_int _) (raC (rc_int _) (raC (ru rv_neg (RfE.b (rc_int _))) (raC (rc_int _) (raC (rc_int _) (raC (ru rv_neg (RfE.b (rc_int _))) raN)))))))))) raN)) (rg_name 5))
        (rs_seq (rs_asg (RfF.e (rf_lst (raC (ro rv_ix (RfE.b (rn 3)) (RfE.b (rc_int _))) (raC (ro rv_ix (RfE.b (rn 3)) (RfE.b (rc_int _))) (raC (ro rv_ix (RfE.b (rn 3)) (RfE.b (rc_int _))) (raC (ro rv_ix (RfE.b (rn 3)) (RfE.b (rc_int _))) (raC (ro rv_ix (RfE.b (rn 3)) (RfE.b (rc_int _))) (raC (ro rv_sub (RfE.b (ro rv_ix (RfE.b (rn 3)) (RfE.b (rc_int _)))) (RfE.b (ro rv_ix (RfE.b (rn 4)) (RfE.b (rc_int _))))) (raC (re_if (rt_test (ro rv_isN (RfE.b (ro rv_ix (RfE.b (rn 3)) (RfE.b (rc_int _)))) (RfE.b rc_non))) (ro rv_ix (RfE.b (rn 3)) (RfE.b (rc_int _))) (ro rv_ix (RfE.b (rn 3)) (RfE.b (rc_int _)))) raN))))))))) (rg_name 6))
        (rs_seq (rs_asg (ro rv_add (RfE.b (re_callS (raC (rn 6) raN))) (RfE.b (rn 5))) (rg_name 7))
        (rs_seq (rs_asg (RfF.e (rf_lst (raC (ro rv_ix (RfE.b (rn 4)) (RfE.b (rc_int _))) (raC (ro rv_ix (RfE.b (rn 4)) (RfE.b (rc_int _))) (raC (ro rv_ix (RfE.b (rn 4)) (RfE.b (rc_int _))) (raC (ro rv_add (RfE.b (ro rv_ix (RfE.b (rn 4)) (RfE.b (rc_int _)))) (RfE.b (rc_int _))) (raC (ro rv_sub (RfE.b (ro rv_ix (RfE.b (rn 4)) (RfE.b (rc_int _)))) (RfE.b (rc_int _))) (raC (re_if (rt_test (ro rv_isN (RfE.b (ro rv_ix (RfE.b (rn 4)) (RfE.b (rc_int _)))) (RfE.b rc_non))) (ro rv_ix (RfE.b (rn 4)) (RfE.b (rc_int _))) (ro rv_ix (RfE.b (rn 4)) (RfE.b (rc_int _)))) raN)))))))) (rg_name 8))
        (rs_seq (rs_asg (ro rv_add (RfE.b (re_callS (raC (rn 8) raN))) (RfE.b (re_callS (raC (RfF.e (show RfF _ _ (dCL ([PyData.int 0, PyData.int 0, PyData.int 0, PyData.int 1, PyData.int (-1)])) from rf_lst (raC (rc_int _) (raC (rc_int _) (raC (rc_int _) (raC (rc_int _) (raC (ru rv_neg (RfE.b (rc_int _))) raN))))))) raN)))) (rg_name 9))
        (rs_seq (rs_asg (re_callS (raC (RfF.e (rf_lst (raC (rc_int _) (raC (rc_int _) (raC (rc_int _) (raC (rc_int _) (raC (rc_int _) (raC (rc_int _) (raC (rc_int _) (raC (rc_int _) (raC (rc_int _) (raC (rc_int _) (raC (re_callS (raC (rc_int _) raN)) raN))))))))))))) raN)) (rg_name 10))
        (rs_seq (rs_asg (re_callS (raC (RfF.e (rf_lst (raC (rc_int _) (raC (rc_int _) (raC (rc_int _) (raC (rc_int _) (raC (rc_int _) (raC (rc_int _) (raC (re_callS (raC (rc_int _) raN)) raN))))))))) raN)) (rg_name 11))
        (rs_seq (rs_if (rt_and (rt_test (ro (rv_in false) (RfE.b (rn 10)) (RfE.b (RfF.e (show RfF _ _ (dCL ([PyData.int 2, PyData.int 18])) from rf_lst (raC (rc_int _) (raC (rc_int _) raN))))))) (rt_test (ro rv_gt (RfE.b (re_callS (raC (rc_int _) raN))) (RfE.b (rc_int _))))) (rs_asg (rc_int _) (rg_name 11)) rs_next)
        (rs_seq (rs_if (rt_test (ro rv_eq (RfE.b (re_callS (raC (rc_int _) raN))) (RfE.b (rc_int _)))) (rs_asg (ro rv_sub (RfE.b (ro rv_sub (RfE.b (rn 7)) (RfE.b (rn 11)))) (RfE.b (ro rv_mod (RfE.b (re_cb ro_int (rbC (RfE.b (rn 10)) rbN))) (RfE.b (rc_int _))))) (rg_name 7)) rs_next)
        (rs_ret (re_callS (raC (rn 7) (raC (rn 9) (raC (rn 10) (raC (rn 11) raN))))))))))))))))))) h (by rw [spS_len F2_len h]; decide) (F2_in fun a0 a1 Qd q => ?_)⟩
  obtain ⟨talk_1, x_1, G, rfl, rfl, q, hQ⟩ := q
  delta y__law_near_segment at q
  exact (s_seq0 (s_par (e := (eO eSide)) (e' := (eO eSide)) (w_cast (e := (eO eSide)) (w_ix (e := eD) (w_co (e := eTalk) (e' := (eU eD)) (fun a : Talk => ([(PyData.str a.1), (eSide a.2.1), ((eO eSide) a.2.2)] : (List D))) (w_name (e := eTalk) (x := talk_1) rfl) (fun _ => rfl)) (w_I0 (g' := fun i j => i + j) (w_dC (e := PyData.int) (x := (1 : Int)) rfl) (w_name (e := PyData.int) (x := x_1) rfl) (fun _ _ => rfl)) (fun _ => rfl))) (w_cast (e := (eO eSide)) (w_ix (e := eD) (w_co (e := eTalk) (e' := (eU eD)) (fun a : Talk => ([(PyData.str a.1), (eSide a.2.1), ((eO eSide) a.2.2)] : (List D))) (w_name (e := eTalk) (x := talk_1) rfl) (fun _ => rfl)) (w_I0 (g' := fun i j => i - j) (w_dC (e := PyData.int) (x := (2 : Int)) rfl) (w_name (e := PyData.int) (x := x_1) rfl) (fun _ _ => rfl)) (fun _ => rfl))) (fun own_1 other_1 => [some En.st, sv (eTalk talk_1), sv (PyData.int x_1), sv ((eO eSide) own_1), sv ((eO eSide) other_1), none, none, none, none, none, none, none]) (fun _ _ => rfl) (fun own_1 other_1 q => (s_seq_cut0 (a := _) (fun s_4 : (Option Side) => y__law_near_segment_j4 other_1 G s_4) (fun (s_4 : (Option Side)) (u_4 : Unit) => [some En.st, sv (eTalk talk_1), sv (PyData.int x_1), sv ((eO eSide) s_4), sv ((eO eSide) other_1), none, none, none, none, none, none, none]) (fun s_4 u_4 q => (s_seq_cut0 (a := _) (fun s_3 : (Option Side) => y__law_near_segment_j3 s_4 G s_3) (fun (s_3 : (Option Side)) (u_3 : Unit) => [some En.st, sv (eTalk talk_1), sv (PyData.int x_1), sv ((eO eSide) s_4), sv ((eO eSide) s_3), none, none, none, none, none, none, none]) (fun s_3 u_3 q => (s_seq0 (s_asg (e := PyData.int) (w_pick (e := PyData.int) rfl (w_list (l_dCL (e := PyData.int) (xs := [(0 : Int), (0 : Int), (0 : Int), (1 : Int), (-1 : Int), (2 : Int), (2147483648 : Int), (-2147483648 : Int)]) rfl)) (fun _ => rfl)) (fun step_1 : Int => [some En.st, sv (eTalk talk_1), sv (PyData.int x_1), sv ((eO eSide) s_4), sv ((eO eSide) s_3), sv (PyData.int step_1), none, none, none, none, none, none]) (fun _ => rfl) (fun step_1 q => (s_seq0 (s_asg (e := (eL (eO PyData.int))) (w_list (l_cons (e := (eO PyData.int)) (w_co (e := PyData.int) (e' := (eO PyData.int)) (fun a : Int => ((some a) : (Option Int))) (w_prj (e := eSide) (e' := PyData.int) 0 (fun p : Side => p.1) (w_get (e := eSide) (w_name (e := (eO eSide)) (x := s_4) rfl)) (fun _ => ⟨_, rfl, dix_nn (by decide) rfl⟩)) (fun _ => rfl)) (l_cons (e := (eO PyData.int)) (w_co (e := PyData.int) (e' := (eO PyData.int)) (fun a : Int => ((some a) : (Option Int))) (w_prj (e := eSide) (e' := PyData.int) 1 (fun p : Side => p.2.1) (w_get (e := eSide) (w_name (e := (eO eSide)) (x := s_4) rfl)) (fun _ => ⟨_, rfl, dix_nn (by decide) rfl⟩)) (fun _ => rfl)) (l_cons (e := (eO PyData.int)) (w_co (e := PyData.int) (e' := (eO PyData.int)) (fun a : Int => ((some a) : (Option Int))) (w_prj (e := eSide) (e' := PyData.int) 1 (fun p : Side => p.2.1) (w_get (e := eSide) (w_name (e := (eO eSide)) (x := s_4) rfl)) (fun _ => ⟨_, rfl, dix_nn (by decide) rfl⟩)) (fun _ => rfl)) (l_cons (e := (eO PyData.int)) (w_co (e := PyData.int) (e' := (eO PyData.int)) (fun a : Int => ((some a) : (Option Int))) (w_prj (e := eSide) (e' := PyData.int) 2 (fun p : Side => p.2.2.1) (w_get (e := eSide) (w_name (e := (eO eSide)) (x := s_4) rfl)) (fun _ => ⟨_, rfl, dix_nn (by decide) rfl⟩)) (fun _ => rfl)) (l_cons (e := (eO PyData.int)) (w_co (e := PyData.int) (e' := (eO PyData.int)) (fun a : Int => ((some a) : (Option Int))) (w_prj (e := eSide) (e' := PyData.int) 4 (fun p : Side => p.2.2.2.2.1) (w_get (e := eSide) (w_name (e := (eO eSide)) (x := s_4) rfl)) (fun _ => ⟨_, rfl, dix_nn (by decide) rfl⟩)) (fun _ => rfl)) (l_cons (e := (eO PyData.int)) (w_co (e := PyData.int) (e' := (eO PyData.int)) (fun a : Int => ((some a) : (Option Int))) (w_I0 (g' := fun i j => i - j) (w_prj (e := eSide) (e' := PyData.int) 1 (fun p : Side => p.2.1) (w_get (e := eSide) (w_name (e := (eO eSide)) (x := s_4) rfl)) (fun _ => ⟨_, rfl, dix_nn (by decide) rfl⟩)) (w_prj (e := eSide) (e' := PyData.int) 3 (fun p : Side => p.2.2.2.1) (w_get (e := eSide) (w_name (e := (eO eSide)) (x := s_3) rfl)) (fun _ => ⟨_, rfl, dix_nn (by decide) rfl⟩)) (fun _ _ => rfl)) (fun _ => rfl)) (l_cons (e := (eO PyData.int)) (w_if (t_val (w_isN (r := fun a : (Option Int) => a.isNone) (w_prj (e := eSide) (e' := (eO PyData.int)) 6 (fun p : Side => p.2.2.2.2.2.2) (w_get (e := eSide) (w_name (e := (eO eSide)) (x := s_4) rfl)) (fun _ => ⟨_, rfl, dix_nn (by decide) rfl⟩)) (n_O (fun _ => rfl)))) (w_co (e := PyData.int) (e' := (eO PyData.int)) (fun a : Int => ((some a) : (Option Int))) (w_prj (e := eSide) (e' := PyData.int) 1 (fun p : Side => p.2.1) (w_get (e := eSide) (w_name (e := (eO eSide)) (x := s_4) rfl)) (fun _ => ⟨_, rfl, dix_nn (by decide) rfl⟩)) (fun _ => rfl)) (w_prj (e := eSide) (e' := (eO PyData.int)) 6 (fun p : Side => p.2.2.2.2.2.2) (w_get (e := eSide) (w_name (e := (eO eSide)) (x := s_4) rfl)) (fun _ => ⟨_, rfl, dix_nn (by decide) rfl⟩))) (l_nil (e := (eO PyData.int))))))))))) (fun seqs_1 : (List (Option Int)) => [some En.st, sv (eTalk talk_1), sv (PyData.int x_1), sv ((eO eSide) s_4), sv ((eO eSide) s_3), sv (PyData.int step_1), sv ((eL (eO PyData.int)) seqs_1), none, none, none, none, none]) (fun _ => rfl) (fun seqs_1 q => (s_seq0 (s_asg (e := PyData.int) (w_I0 (g' := fun i j => i + j) (w_get (e := PyData.int) (w_pick (e := (eO PyData.int)) rfl (w_name (e := (eL (eO PyData.int))) (x := seqs_1) rfl) (fun _ => rfl))) (w_name (e := PyData.int) (x := step_1) rfl) (fun _ _ => rfl)) (fun seq_1 : Int => [some En.st, sv (eTalk talk_1), sv (PyData.int x_1), sv ((eO eSide) s_4), sv ((eO eSide) s_3), sv (PyData.int step_1), sv ((eL (eO PyData.int)) seqs_1), sv (PyData.int seq_1), none, none, none, none]) (fun _ => rfl) (fun seq_1 q => (s_seq0 (s_asg (e := (eL (eO PyData.int))) (w_list (l_cons (e := (eO PyData.int)) (w_co (e := PyData.int) (e' := (eO PyData.int)) (fun a : Int => ((some a) : (Option Int))) (w_prj (e := eSide) (e' := PyData.int) 1 (fun p : Side => p.2.1) (w_get (e := eSide) (w_name (e := (eO eSide)) (x := s_3) rfl)) (fun _ => ⟨_, rfl, dix_nn (by decide) rfl⟩)) (fun _ => rfl)) (l_cons (e := (eO PyData.int)) (w_co (e := PyData.int) (e' := (eO PyData.int)) (fun a : Int => ((some a) : (Option Int))) (w_prj (e := eSide) (e' := PyData.int) 1 (fun p : Side => p.2.1) (w_get (e := eSide) (w_name (e := (eO eSide)) (x := s_3) rfl)) (fun _ => ⟨_, rfl, dix_nn (by decide) rfl⟩)) (fun _ => rfl)) (l_cons (e := (eO PyData.int)) (w_co (e := PyData.int) (e' := (eO PyData.int)) (fun a : Int => ((some a) : (Option Int))) (w_prj (e := eSide) (e' := PyData.int) 4 (fun p : Side => p.2.2.2.2.1) (w_get (e := eSide) (w_name (e := (eO eSide)) (x := s_3) rfl)) (fun _ => ⟨_, rfl, dix_nn (by decide) rfl⟩)) (fun _ => rfl)) (l_cons (e := (eO PyData.int)) (w_co (e := PyData.int) (e' := (eO PyData.int)) (fun a : Int => ((some a) : (Option Int))) (w_I0 (g' := fun i j => i + j) (w_prj (e := eSide) (e' := PyData.int) 0 (fun p : Side => p.1) (w_get (e := eSide) (w_name (e := (eO eSide)) (x := s_3) rfl)) (fun _ => ⟨_, rfl, dix_nn (by decide) rfl⟩)) (w_dC (e := PyData.int) (x := (1 : Int)) rfl) (fun _ _ => rfl)) (fun _ => rfl)) (l_cons (e := (eO PyData.int)) (w_co (e := PyData.int) (e' := (eO PyData.int)) (fun a : Int => ((some a) : (Option Int))) (w_I0 (g' := fun i j => i - j) (w_prj (e := eSide) (e' := PyData.int) 1 (fun p : Side => p.2.1) (w_get (e := eSide) (w_name (e := (eO eSide)) (x := s_3) rfl)) (fun _ => ⟨_, rfl, dix_nn (by decide) rfl⟩)) (w_dC (e := PyData.int) (x := (1073741824 : Int)) rfl) (fun _ _ => rfl)) (fun _ => rfl)) (l_cons (e := (eO PyData.int)) (w_if (t_val (w_isN (r := fun a : (Option Int) => a.isNone) (w_prj (e := eSide) (e' := (eO PyData.int)) 6 (fun p : Side => p.2.2.2.2.2.2) (w_get (e := eSide) (w_name (e := (eO eSide)) (x := s_3) rfl)) (fun _ => ⟨_, rfl, dix_nn (by decide) rfl⟩)) (n_O (fun _ => rfl)))) (w_co (e := PyData.int) (e' := (eO PyData.int)) (fun a : Int => ((some a) : (Option Int))) (w_prj (e := eSide) (e' := PyData.int) 1 (fun p : Side => p.2.1) (w_get (e := eSide) (w_name (e := (eO eSide)) (x := s_3) rfl)) (fun _ => ⟨_, rfl, dix_nn (by decide) rfl⟩)) (fun _ => rfl)) (w_prj (e := eSide) (e' := (eO PyData.int)) 6 (fun p : Side => p.2.2.2.2.2.2) (w_get (e := eSide) (w_name (e := (eO eSide)) (x := s_3) rfl)) (fun _ => ⟨_, rfl, dix_nn (by decide) rfl⟩))) (l_nil (e := (eO PyData.int)))))))))) (fun acks_1 : (List (Option Int)) => [some En.st, sv (eTalk talk_1), sv (PyData.int x_1), sv ((eO eSide) s_4), sv ((eO eSide) s_3), sv (PyData.int step_1), sv ((eL (eO PyData.int)) seqs_1), sv (PyData.int seq_1), sv ((eL (eO PyData.int)) acks_1), none, none, none]) (fun _ => rfl) (fun acks_1 q => (s_seq0 (s_asg (e := PyData.int) (w_I0 (g' := fun i j => i + j) (w_get (e := PyData.int) (w_pick (e := (eO PyData.int)) rfl (w_name (e := (eL (eO PyData.int))) (x := acks_1) rfl) (fun _ => rfl))) (w_pick (e := PyData.int) rfl (w_list (l_dCL (e := PyData.int) (xs := [(0 : Int), (0 : Int), (0 : Int), (1 : Int), (-1 : Int)]) rfl)) (fun _ => rfl)) (fun _ _ => rfl)) (fun ack_1 : Int => [some En.st, sv (eTalk talk_1), sv (PyData.int x_1), sv ((eO eSide) s_4), sv ((eO eSide) s_3), sv (PyData.int step_1), sv ((eL (eO PyData.int)) seqs_1), sv (PyData.int seq_1), sv ((eL (eO PyData.int)) acks_1), sv (PyData.int ack_1), none, none]) (fun _ => rfl) (fun ack_1 q => (s_seq0 (s_asg (e := PyData.int) (w_pick (e := PyData.int) rfl (w_list (l_cons (e := PyData.int) (w_dC (e := PyData.int) (x := (16 : Int)) rfl) (l_cons (e := PyData.int) (w_dC (e := PyData.int) (x := (16 : Int)) rfl) (l_cons (e := PyData.int) (w_dC (e := PyData.int) (x := (16 : Int)) rfl) (l_cons (e := PyData.int) (w_dC (e := PyData.int) (x := (16 : Int)) rfl) (l_cons (e := PyData.int) (w_dC (e := PyData.int) (x := (17 : Int)) rfl) (l_cons (e := PyData.int) (w_dC (e := PyData.int) (x := (17 : Int)) rfl) (l_cons (e := PyData.int) (w_dC (e := PyData.int) (x := (2 : Int)) rfl) (l_cons (e := PyData.int) (w_dC (e := PyData.int) (x := (18 : Int)) rfl) (l_cons (e := PyData.int) (w_dC (e := PyData.int) (x := (4 : Int)) rfl) (l_cons (e := PyData.int) (w_dC (e := PyData.int) (x := (20 : Int)) rfl) (l_cons (e := PyData.int) (w_take0 rfl (w_dC (e := PyData.int) (x := (32 : Int)) rfl)) (l_nil (e := PyData.int)))))))))))))) (fun _ => rfl)) (fun flags_1 : Int => [some En.st, sv (eTalk talk_1), sv (PyData.int x_1), sv ((eO eSide) s_4), sv ((eO eSide) s_3), sv (PyData.int step_1), sv ((eL (eO PyData.int)) seqs_1), sv (PyData.int seq_1), sv ((eL (eO PyData.int)) acks_1), sv (PyData.int ack_1), sv (PyData.int flags_1), none]) (fun _ => rfl) (fun flags_1 q => (s_seq0 (s_asg (e := PyData.int) (w_pick (e := PyData.int) rfl (w_list (l_cons (e := PyData.int) (w_dC (e := PyData.int) (x := (0 : Int)) rfl) (l_cons (e := PyData.int) (w_dC (e := PyData.int) (x := (0 : Int)) rfl) (l_cons (e := PyData.int) (w_dC (e := PyData.int) (x := (0 : Int)) rfl) (l_cons (e := PyData.int) (w_dC (e := PyData.int) (x := (1 : Int)) rfl) (l_cons (e := PyData.int) (w_dC (e := PyData.int) (x := (2 : Int)) rfl) (l_cons (e := PyData.int) (w_dC (e := PyData.int) (x := (5 : Int)) rfl) (l_cons (e := PyData.int) (w_take0 rfl (w_dC (e := PyData.int) (x := (30 : Int)) rfl)) (l_nil (e := PyData.int)))))))))) (fun _ => rfl)) (fun size_1 : Int => [some En.st, sv (eTalk talk_1), sv (PyData.int x_1), sv ((eO eSide) s_4), sv ((eO eSide) s_3), sv (PyData.int step_1), sv ((eL (eO PyData.int)) seqs_1), sv (PyData.int seq_1), sv ((eL (eO PyData.int)) acks_1), sv (PyData.int ack_1), sv (PyData.int flags_1), sv (PyData.int size_1)]) (fun _ => rfl) (fun size_1 q => (s_seq_cut0 (a := _) (fun s_2 : Int => y__law_near_segment_j2 seq_1 ack_1 flags_1 G s_2) (fun (s_2 : Int) (u_2 : Unit) => [some En.st, sv (eTalk talk_1), sv (PyData.int x_1), sv ((eO eSide) s_4), sv ((eO eSide) s_3), sv (PyData.int step_1), sv ((eL (eO PyData.int)) seqs_1), sv (PyData.int seq_1), sv ((eL (eO PyData.int)) acks_1), sv (PyData.int ack_1), sv (PyData.int flags_1), sv (PyData.int s_2)]) (fun s_2 u_2 q => (s_seq_cut0 (a := _) (fun s_1 : Int => y__law_near_segment_j1 ack_1 flags_1 s_2 G s_1) (fun (s_1 : Int) (u_1 : Unit) => [some En.st, sv (eTalk talk_1), sv (PyData.int x_1), sv ((eO eSide) s_4), sv ((eO eSide) s_3), sv (PyData.int step_1), sv ((eL (eO PyData.int)) seqs_1), sv (PyData.int s_1), sv ((eL (eO PyData.int)) acks_1), sv (PyData.int ack_1), sv (PyData.int flags_1), sv (PyData.int s_2)]) (fun s_1 u_1 q => (s_ret (e := eSeg) (w_callS4 rfl (w_name (e := PyData.int) (x := s_1) rfl) (w_name (e := PyData.int) (x := ack_1) rfl) (w_name (e := PyData.int) (x := flags_1) rfl) (w_name (e := PyData.int) (x := s_2) rfl)) hQ q)) (fun N_1 hN_1 => (s_if (t_val (w_eqS (r := fun (a : Int) (b : Int) => decide (a = b)) (w_take0 rfl (w_dC (e := PyData.int) (x := (4 : Int)) rfl)) (w_dC (e := PyData.int) (x := (0 : Int)) rfl) r_I)) (fun q => (s_asg (e := PyData.int) (w_I0 (g' := fun i j => i - j) (w_I0 (g' := fun i j => i - j) (w_name (e := PyData.int) (x := seq_1) rfl) (w_name (e := PyData.int) (x := s_2) rfl) (fun _ _ => rfl)) (w_I (g' := fun i j => i % j) (w_int (w_name (e := PyData.int) (x := flags_1) rfl)) (w_dC (e := PyData.int) (x := (2 : Int)) rfl) (fun _ _ => rfl)) (fun _ _ => rfl)) (fun seq_3 : Int => [some En.st, sv (eTalk talk_1), sv (PyData.int x_1), sv ((eO eSide) s_4), sv ((eO eSide) s_3), sv (PyData.int step_1), sv ((eL (eO PyData.int)) seqs_1), sv (PyData.int seq_3), sv ((eL (eO PyData.int)) acks_1), sv (PyData.int ack_1), sv (PyData.int flags_1), sv (PyData.int s_2)]) (fun _ => rfl) (fun seq_3 q => (hN_1 seq_3 () q)) q)) (fun q => (s_next (hN_1 seq_1 () q))) q)))) (fun N_2 hN_2 => (s_if (t_and (t_val (w_in fl_I (w_name (e := PyData.int) (x := flags_1) rfl) (w_list (l_dCL (e := PyData.int) (xs := [(2 : Int), (18 : Int)]) rfl)) (fun _ => rfl))) (t_val (w_I0 (g' := fun i j => decide (j < i)) (w_take0 rfl (w_dC (e := PyData.int) (x := (4 : Int)) rfl)) (w_dC (e := PyData.int) (x := (0 : Int)) rfl) (fun _ _ => rfl)))) (fun q => (s_asg (e := PyData.int) (w_dC (e := PyData.int) (x := (0 : Int)) rfl) (fun size_3 : Int => [some En.st, sv (eTalk talk_1), sv (PyData.int x_1), sv ((eO eSide) s_4), sv ((eO eSide) s_3), sv (PyData.int step_1), sv ((eL (eO PyData.int)) seqs_1), sv (PyData.int seq_1), sv ((eL (eO PyData.int)) acks_1), sv (PyData.int ack_1), sv (PyData.int flags_1), sv (PyData.int size_3)]) (fun _ => rfl) (fun size_3 q => (hN_2 size_3 () q)) q)) (fun q => (s_next (hN_2 size_1 () q))) q)))) q))) q))) q))) q))) q))) q))) q))) (fun N_3 hN_3 => (s_if (t_val (w_isN (r := fun a : (Option Side) => a.isNone) (w_name (e := (eO eSide)) (x := other_1) rfl) (n_O (fun _ => rfl)))) (fun q => (s_asg (e := (eT7 PyData.int PyData.int PyData.int PyData.int PyData.int PyData.int eN)) (w_dC (e := (eT7 PyData.int PyData.int PyData.int PyData.int PyData.int PyData.int eN)) (x := ((5 : Int), (6 : Int), (7 : Int), (1 : Int), (5 : Int), (0 : Int), ())) rfl) (fun other_3 : (Int × Int × Int × Int × Int × Int × Unit) => [some En.st, sv (eTalk talk_1), sv (PyData.int x_1), sv ((eO eSide) s_4), sv ((eT7 PyData.int PyData.int PyData.int PyData.int PyData.int PyData.int eN) other_3), none, none, none, none, none, none, none]) (fun _ => rfl) (fun other_3 q => (hN_3 (some (other_3.1, other_3.2.1, other_3.2.2.1, other_3.2.2.2.1, other_3.2.2.2.2.1, (some other_3.2.2.2.2.2.1), none)) () q)) q)) (fun q => (s_next (hN_3 other_1 () q))) q)))) (fun N_4 hN_4 => (s_if (t_val (w_isN (r := fun a : (Option Side) => a.isNone) (w_name (e := (eO eSide)) (x := own_1) rfl) (n_O (fun _ => rfl)))) (fun q => (s_asg (e := (eT7 PyData.int PyData.int PyData.int PyData.int PyData.int PyData.int eN)) (w_dC (e := (eT7 PyData.int PyData.int PyData.int PyData.int PyData.int PyData.int eN)) (x := ((5 : Int), (6 : Int), (7 : Int), (1 : Int), (5 : Int), (0 : Int), ())) rfl) (fun own_3 : (Int × Int × Int × Int × Int × Int × Unit) => [some En.st, sv (eTalk talk_1), sv (PyData.int x_1), sv ((eT7 PyData.int PyData.int PyData.int PyData.int PyData.int PyData.int eN) own_3), sv ((eO eSide) other_1), none, none, none, none, none, none, none]) (fun _ => rfl) (fun own_3 q => (hN_4 (some (own_3.1, own_3.2.1, own_3.2.2.1, own_3.2.2.2.1, own_3.2.2.2.2.1, (some own_3.2.2.2.2.2.1), none)) () q)) q)) (fun q => (s_next (hN_4 own_1 () q))) q)))) q))
theorem ok_law_good_segment (T : Tx K mg) : FnOk P w K mg base CX0 5 T.ad_law_good_segment T.fd_law_good_segment ["state", "talk", "x"] (spS K (F2 (pr2 eTalk PyData.int eSeg y__law_good_segment))) := by
  refine T.d_law_good_segment.F.ok x_law_good_segment (fun vs H Q E h => spS_len F2_len h) (fun cdv A outer s H vs Q E hr h => ?_)
  have nd := x_law_good_segment.nd
  refine ⟨_, (pss_cons (ps_par (i := 3) (j := 4) (by rfl) nd rfl rfl (by decide) rfl rfl (pa_cons (pe_ix ix_seq (pv 1) (pe_op op_add pe_int (pv 2)) (fun _ _ => rfl)) (pa_cons (pe_ix ix_seq (pv 1) (pe_op op_sub pe_int (pv 2)) (fun _ _ => rfl)) pa_nil)) (by rfl))
        (pss_cons (ps_if (pt_cmpR op_eq (pe_ix ix_seq (pv 1) pe_int (fun _ _ => rfl)) pe_str (nomark _)) (pss_one (ps_ret (pe_call (ok_law_segment T) hr (by rfl) T.d_law_segment.g T.d_law_segment.F.kp T.d_law_segment.b .nil pass0 (pa_cons (pv 0) (pa_cons (pe_call (ok_law_pick T) (hr.mono (by decide)) (by rfl) T.d_law_pick.g T.d_law_pick.F.kp T.d_law_pick.b .nil pass0 (pa_cons (pv 0) (pa_cons (pe_lst (pa_cons (pe_ifExp (pt_cmpR op_eq (pv 2) pe_int (nomark _)) (pe_ix ix_seq (pv 3) pe_int (fun _ _ => rfl)) pe_int) (pa_cons (pe_call (ok_law_take T) (hr.mono (by decide)) (by rfl) T.d_law_take.g T.d_law_take.F.kp T.d_law_take.b .nil pass0 (pa_cons (pv 0) (pa_cons pe_int pa_nil))) pa_nil))) pa_nil))) (pa_cons (pe_ix ix_seq (pe_ix ix_seq (pv 1) pe_int (fun _ _ => rfl)) pe_int (fun _ _ => rfl)) (pa_cons (pe_ifExp (pt_cmpR op_eq (pv 2) pe_int (nomark _)) pe_int pe_int) (pa_cons pe_int pa_nil)))))))) pss_nil)
        (pss_cons (ps_set (i := 5) nd rfl (Or.inl rfl) (pe_call (ok_law_pick T) (hr.mono (by decide)) (by rfl) T.d_law_pick.g T.d_law_pick.F.kp T.d_law_pick.b .nil pass0 (pa_cons (pv 0) (pa_cons (pe_lst (pa_cons pe_int (pa_cons pe_int (pa_cons pe_int (pa_cons pe_int (pa_cons pe_int pa_nil)))))) pa_nil))))
        (pss_cons (ps_if (PW.pt (pw_and (pt_cmpR op_eq (pe_ix ix_seq (pv 1) pe_int (fun _ _ => rfl)) pe_str (nomark _)) (pw_and1 (pt_cmpR op_eq (pv 2) pe_int (nomark _))))) (pss_one (ps_ret (pe_call (ok_law_segment T) hr (by rfl) T.d_law_segment.g T.d_law_segment.F.kp T.d_law_segment.b .nil pass0 (pa_cons (pv 0) (pa_cons (pe_ix ix_seq (pv 3) pe_int (fun _ _ => rfl)) (pa_cons (pe_ix ix_seq (pv 4) pe_int (fun _ _ => rfl)) (pa_cons pe_int (pa_cons pe_int pa_nil)))))))) pss_nil)
        (pss_cons (ps_set (i := 6) nd rfl (Or.inl rfl) (pe_ifExp (pt_cmpR op_eq (pe_call (ok_law_take T) (hr.mono (by decide)) (by rfl) T.d_law_take.g T.d_law_take.F.kp T.d_law_take.b .nil pass0 (pa_cons (pv 0) (pa_cons pe_int pa_nil))) pe_int (nomark _)) pe_int pe_int))
        (pss_cons (ps_set (i := 7) nd rfl (Or.inl rfl) (pe_call (ok_law_mod T) (hr.mono (by decide)) (by rfl) T.d_law_mod.g T.d_law_mod.F.kp T.d_law_mod.b .nil pass0 (pa_cons (pe_op op_sub (pe_ix ix_seq (pv 3) pe_int (fun _ _ => rfl)) (pe_ix ix_seq (pv 3) pe_int (fun _ _ => rfl))) pa_nil)))
        (pss_cons (ps_set (i := 5) nd rfl (Or.inl rfl) (pe_callB (call_max2 rfl) (by rfl) T.b_max (by decide +kernel) (pa_cons pe_int (pa_cons (pe_callB (call_min2 rfl) (by rfl) T.b_min (by decide +kernel) (pa_cons (pv 5) (pa_cons (pe_op op_sub (pv 7) pe_int) pa_nil))) pa_nil))))
        (pss_cons (ps_if (pt_cmpR op_notN (pe_ix ix_seq (pv 3) pe_int (fun _ _ => rfl)) pe_non (nomark _)) (pss_one (ps_asg (pe_tup (pa_cons pe_int (pa_cons pe_int pa_nil))) (pg_tup (n := 2) rfl (pgs_cons (pg_name (i := 6) nd rfl (Or.inl rfl)) (pgs_cons (pg_name (i := 5) nd rfl (Or.inl rfl)) pgs_nil))))) pss_nil)
        (pss_one (ps_ret (pe_call (ok_law_segment T) hr (by rfl) T.d_law_segment.g T.d_law_segment.F.kp T.d_law_segment.b .nil pass0 (pa_cons (pv 0) (pa_cons (pe_ix ix_seq (pv 3) pe_int (fun _ _ => rfl)) (pa_cons (pe_call (ok_law_pick T) (hr.mono (by decide)) (by rfl) T.d_law_pick.g T.d_law_pick.F.kp T.d_law_pick.b .nil pass0 (pa_cons (pv 0) (pa_cons (pe_lst (pa_cons (pe_ix ix_seq (pv 4) pe_int (fun _ _ => rfl)) (pa_cons (pe_ix ix_seq (pv 4) pe_int (fun _ _ => rfl)) (pa_cons (pe_ix ix_seq (pv 4) pe_int (fun _ _ => rfl)) pa_nil)))) pa_nil))) (pa_cons (pv 6) (pa_cons (pv 5) pa_nil)))))))))))))))), fn_state ((rs_seq (rs_par 3 4 (raC (ro rv_ix (RfE.b (rn 1)) (RfE.b (ro rv_add (RfE.b (rc_int _)) (RfE.b (rn 2))))) (raC (ro rv_ix (RfE.b (rn 1)) (RfE.b (ro rv_sub (RfE.b (rc_int _)) (RfE.b (rn 2))))) raN)))
        (rs_seq (rs_if (rt_test (ro rv_eq (RfE.b (ro rv_ix (RfE.b (rn 1)) (RfE.b (rc_int _)))) (RfE.b (rc_str _)))) (rs_ret (re_callS (raC (re_callS (raC (RfF.e (rf_lst (raC (re_if (rt_test (ro rv_eq (RfE.b (rn 2)) (RfE.b (rc_int _)))) (ro rv_ix (RfE.b (rn 3)) (RfE.b (rc_int _))) (rc_int _)) (raC (re_callS (raC (rc_int _) raN)) raN)))) raN)) (raC (ro rv_ix (RfE.b (ro rv_ix (RfE.b (rn 1)) (RfE.b (rc_int _)))) (RfE.b (rc_int _))) (raC (re_if (rt_test (ro rv_eq (RfE.b (rn 2)) (RfE.b (rc_int _)))) (rc_int _) (rc_int _)) (raC (rc_int _) raN)))))) rs_next)
        (rs_seq (rs_asg (re_callS (raC (RfF.e (show RfF _ _ (dCL ([PyData.int 0, PyData.int 0, PyData.int 1, PyData.int 3, PyData.int 20])) from rf_lst (raC (rc_int _) (raC (rc_int _) (raC (rc_int _) (raC (rc_int _) (raC (rc_int _) raN))))))) raN)) (rg_name 5))
        (rs_seq (rs_if (rt_and (rt_test (ro rv_eq (RfE.b (ro rv_ix (RfE.b (rn 1)) (RfE.b (rc_int _)))) (RfE.b (rc_str _)))) (rt_test (ro rv_eq (RfE.b (rn 2)) (RfE.b (rc_int _))))) (rs_ret (re_callS (raC (ro rv_ix (RfE.b (rn 3)) (RfE.b (rc_int _))) (raC (ro rv_ix (RfE.b (rn 4)) (RfE.b (rc_int _))) (raC (rc_int _) (raC (rc_int _) raN)))))) rs_next)
        (rs_seq (rs_asg (re_if (rt_test (ro rv_eq (RfE.b (re_callS (raC (rc_int _) raN))) (RfE.b (rc_int _)))) (rc_int _) (rc_int _)) (rg_name 6))
        (rs_seq (rs_asg (re_call (raC (ro rv_sub (RfE.b (ro rv_ix (RfE.b (rn 3)) (RfE.b (rc_int _)))) (RfE.b (ro rv_ix (RfE.b (rn 3)) (RfE.b (rc_int _))))) raN)) (rg_name 7))
        (rs_seq (rs_asg (re_cb ro_max (rbC (RfE.b (rc_int _)) (rbC (RfE.b (re_cb ro_min (rbC (RfE.b (rn 5)) (rbC (RfE.b (ro rv_sub (RfE.b (rn 7)) (RfE.b (rc_int _)))) rbN)))) rbN))) (rg_name 5))
        (rs_seq (rs_if (rt_test (ro rv_notN (RfE.b (ro rv_ix (RfE.b (rn 3)) (RfE.b (rc_int _)))) (RfE.b rc_non))) (rs_asg (show RfE _ _ (dC (PyData.tuple [PyData.int 16, PyData.int 0])) from re_tup (raC (rc_int _) (raC (rc_int _) raN))) (rg_tup (rg_cons (rg_name 6) (rg_cons (rg_name 5) rg_nil)))) rs_next)
        (rs_ret (re_callS (raC (ro rv_ix (RfE.b (rn 3)) (RfE.b (rc_int _))) (raC (re_callS (raC (RfF.e (rf_lst (raC (ro rv_ix (RfE.b (rn 4)) (RfE.b (rc_int _))) (raC (ro rv_ix (RfE.b (rn 4)) (RfE.b (rc_int _))) (raC (ro rv_ix (RfE.b (rn 4)) (RfE.b (rc_int _))) raN))))) raN)) (raC (rn 6) (raC (rn 5) raN))))))))))))))) h (by rw [spS_len F2_len h]; decide) (F2_in fun a0 a1 Qd q => ?_)⟩
  obtain ⟨talk_1, x_1, G, rfl, rfl, q, hQ⟩ := q
  delta y__law_good_segment at q
  exact (s_seq0 (s_par (e := (eO eSide)) (e' := (eO eSide)) (w_cast (e := (eO eSide)) (w_ix (e := eD) (w_co (e := eTalk) (e' := (eU eD)) (fun a : Talk => ([(PyData.str a.1), (eSide a.2.1), ((eO eSide) a.2.2)] : (List D))) (w_name (e := eTalk) (x := talk_1) rfl) (fun _ => rfl)) (w_I0 (g' := fun i j => i + j) (w_dC (e := PyData.int) (x := (1 : Int)) rfl) (w_name (e := PyData.int) (x := x_1) rfl) (fun _ _ => rfl)) (fun _ => rfl))) (w_cast (e := (eO eSide)) (w_ix (e := eD) (w_co (e := eTalk) (e' := (eU eD)) (fun a : Talk => ([(PyData.str a.1), (eSide a.2.1), ((eO eSide) a.2.2)] : (List D))) (w_name (e := eTalk) (x := talk_1) rfl) (fun _ => rfl)) (w_I0 (g' := fun i j => i - j) (w_dC (e := PyData.int) (x := (2 : Int)) rfl) (w_name (e := PyData.int) (x := x_1) rfl) (fun _ _ => rfl)) (fun _ => rfl))) (fun own_1 other_1 => [some En.st, sv (eTalk talk_1), sv (PyData.int x_1), sv ((eO eSide) own_1), sv ((eO eSide) other_1), none, none, none]) (fun _ _ => rfl) (fun own_1 other_1 q => (s_seq0 (s_if (t_val (w_eqS (r := fun (a : Str) (b : Str) => decide (a = b)) (w_prj (e := eTalk) (e' := PyData.str) 0 (fun p : Talk => p.1) (w_name (e := eTalk) (x := talk_1) rfl) (fun _ => ⟨_, rfl, dix_nn (by decide) rfl⟩)) (w_dC (e := PyData.str) (x := (Str.ofString "asked")) rfl) r_S)) (fun q => (s_ret (e := eSeg) (w_callS4 rfl (w_pick (e := PyData.int) rfl (w_list (l_cons (e := PyData.int) (w_if (t_val (w_eqS (r := fun (a : Int) (b : Int) => decide (a = b)) (w_name (e := PyData.int) (x := x_1) rfl) (w_dC (e := PyData.int) (x := (0 : Int)) rfl) r_I)) (w_prj (e := eSide) (e' := PyData.int) 0 (fun p : Side => p.1) (w_get (e := eSide) (w_name (e := (eO eSide)) (x := own_1) rfl)) (fun _ => ⟨_, rfl, dix_nn (by decide) rfl⟩)) (w_dC (e := PyData.int) (x := (4294967295 : Int)) rfl)) (l_cons (e := PyData.int) (w_take0 rfl (w_dC (e := PyData.int) (x := (9 : Int)) rfl)) (l_nil (e := PyData.int))))) (fun _ => rfl)) (w_prj (e := eSide) (e' := PyData.int) 1 (fun p : Side => p.2.1) (w_prj (e := eTalk) (e' := eSide) 1 (fun p : Talk => p.2.1) (w_name (e := eTalk) (x := talk_1) rfl) (fun _ => ⟨_, rfl, dix_nn (by decide) rfl⟩)) (fun _ => ⟨_, rfl, dix_nn (by decide) rfl⟩)) (w_ifP (t_val (w_eqS (r := fun (a : Int) (b : Int) => decide (a = b)) (w_name (e := PyData.int) (x := x_1) rfl) (w_dC (e := PyData.int) (x := (0 : Int)) rfl) r_I)) (w_dC (e := PyData.int) (x := (2 : Int)) rfl) (w_dC (e := PyData.int) (x := (18 : Int)) rfl)) (w_dC (e := PyData.int) (x := (0 : Int)) rfl)) hQ q)) (fun q => (s_next (s_seq0 (s_asg (e := PyData.int) (w_pick (e := PyData.int) rfl (w_list (l_dCL (e := PyData.int) (xs := [(0 : Int), (0 : Int), (1 : Int), (3 : Int), (20 : Int)]) rfl)) (fun _ => rfl)) (fun size_1 : Int => [some En.st, sv (eTalk talk_1), sv (PyData.int x_1), sv ((eO eSide) own_1), sv ((eO eSide) other_1), sv (PyData.int size_1), none, none]) (fun _ => rfl) (fun size_1 q => (s_seq0 (s_if (t_andP (t_val (w_eqS (r := fun (a : Str) (b : Str) => decide (a = b)) (w_prj (e := eTalk) (e' := PyData.str) 0 (fun p : Talk => p.1) (w_name (e := eTalk) (x := talk_1) rfl) (fun _ => ⟨_, rfl, dix_nn (by decide) rfl⟩)) (w_dC (e := PyData.str) (x := (Str.ofString "answered")) rfl) r_S)) (t_val (w_eqS (r := fun (a : Int) (b : Int) => decide (a = b)) (w_name (e := PyData.int) (x := x_1) rfl) (w_dC (e := PyData.int) (x := (1 : Int)) rfl) r_I))) (fun q => (s_ret (e := eSeg) (w_callS4 rfl (w_prj (e := eSide) (e' := PyData.int) 0 (fun p : Side => p.1) (w_get (e := eSide) (w_name (e := (eO eSide)) (x := own_1) rfl)) (fun _ => ⟨_, rfl, dix_nn (by decide) rfl⟩)) (w_prj (e := eSide) (e' := PyData.int) 1 (fun p : Side => p.2.1) (w_get (e := eSide) (w_name (e := (eO eSide)) (x := other_1) rfl)) (fun _ => ⟨_, rfl, dix_nn (by decide) rfl⟩)) (w_dC (e := PyData.int) (x := (18 : Int)) rfl) (w_dC (e := PyData.int) (x := (0 : Int)) rfl)) hQ q)) (fun q => (s_next (s_seq0 (s_asg (e := PyData.int) (w_ifP (t_val (w_eqS (r := fun (a : Int) (b : Int) => decide (a = b)) (w_take0 rfl (w_dC (e := PyData.int) (x := (6 : Int)) rfl)) (w_dC (e := PyData.int) (x := (0 : Int)) rfl) r_I)) (w_dC (e := PyData.int) (x := (17 : Int)) rfl) (w_dC (e := PyData.int) (x := (16 : Int)) rfl)) (fun flags_1 : Int => [some En.st, sv (eTalk talk_1), sv (PyData.int x_1), sv ((eO eSide) own_1), sv ((eO eSide) other_1), sv (PyData.int size_1), sv (PyData.int flags_1), none]) (fun _ => rfl) (fun flags_1 q => (s_seq0 (s_asg (e := PyData.int) (w_call1 (w_I0 (g' := fun i j => i - j) (w_prj (e := eSide) (e' := PyData.int) 2 (fun p : Side => p.2.2.1) (w_get (e := eSide) (w_name (e := (eO eSide)) (x := own_1) rfl)) (fun _ => ⟨_, rfl, dix_nn (by decide) rfl⟩)) (w_prj (e := eSide) (e' := PyData.int) 1 (fun p : Side => p.2.1) (w_get (e := eSide) (w_name (e := (eO eSide)) (x := own_1) rfl)) (fun _ => ⟨_, rfl, dix_nn (by decide) rfl⟩)) (fun _ _ => rfl))) (fun room_1 : Int => [some En.st, sv (eTalk talk_1), sv (PyData.int x_1), sv ((eO eSide) own_1), sv ((eO eSide) other_1), sv (PyData.int size_1), sv (PyData.int flags_1), sv (PyData.int room_1)]) (fun _ => rfl) (fun room_1 q => (s_seq0 (s_asg (e := PyData.int) (w_I2 (w_dC (e := PyData.int) (x := (0 : Int)) rfl) (w_I2 (w_name (e := PyData.int) (x := size_1) rfl) (w_I0 (g' := fun i j => i - j) (w_name (e := PyData.int) (x := room_1) rfl) (w_dC (e := PyData.int) (x := (1 : Int)) rfl) (fun _ _ => rfl)))) (fun size_2 : Int => [some En.st, sv (eTalk talk_1), sv (PyData.int x_1), sv ((eO eSide) own_1), sv ((eO eSide) other_1), sv (PyData.int size_2), sv (PyData.int flags_1), sv (PyData.int room_1)]) (fun _ => rfl) (fun size_2 q => (s_seq_cut0 (a := _) (fun s_1 : Int × Int => y__law_good_segment_j1 own_1 other_1 G s_1.1 s_1.2) (fun (s_1 : Int × Int) (u_1 : Unit) => [some En.st, sv (eTalk talk_1), sv (PyData.int x_1), sv ((eO eSide) own_1), sv ((eO eSide) other_1), sv (PyData.int s_1.1), sv (PyData.int s_1.2), sv (PyData.int room_1)]) (fun s_1 u_1 q => (s_ret (e := eSeg) (w_callS4 rfl (w_prj (e := eSide) (e' := PyData.int) 1 (fun p : Side => p.2.1) (w_get (e := eSide) (w_name (e := (eO eSide)) (x := own_1) rfl)) (fun _ => ⟨_, rfl, dix_nn (by decide) rfl⟩)) (w_pick (e := PyData.int) rfl (w_list (l_cons (e := PyData.int) (w_prj (e := eSide) (e' := PyData.int) 1 (fun p : Side => p.2.1) (w_get (e := eSide) (w_name (e := (eO eSide)) (x := other_1) rfl)) (fun _ => ⟨_, rfl, dix_nn (by decide) rfl⟩)) (l_cons (e := PyData.int) (w_prj (e := eSide) (e' := PyData.int) 1 (fun p : Side => p.2.1) (w_get (e := eSide) (w_name (e := (eO eSide)) (x := other_1) rfl)) (fun _ => ⟨_, rfl, dix_nn (by decide) rfl⟩)) (l_cons (e := PyData.int) (w_prj (e := eSide) (e' := PyData.int) 4 (fun p : Side => p.2.2.2.2.1) (w_get (e := eSide) (w_name (e := (eO eSide)) (x := other_1) rfl)) (fun _ => ⟨_, rfl, dix_nn (by decide) rfl⟩)) (l_nil (e := PyData.int)))))) (fun _ => rfl)) (w_name (e := PyData.int) (x := s_1.2) rfl) (w_name (e := PyData.int) (x := s_1.1) rfl)) hQ q)) (fun N_1 hN_1 => (s_if (t_val (w_notN (r := fun a : (Option Int) => a.isNone) (w_prj (e := eSide) (e' := (eO PyData.int)) 6 (fun p : Side => p.2.2.2.2.2.2) (w_get (e := eSide) (w_name (e := (eO eSide)) (x := own_1) rfl)) (fun _ => ⟨_, rfl, dix_nn (by decide) rfl⟩)) (n_O (fun _ => rfl)))) (fun q => (s_pat (e := (eT2 PyData.int PyData.int)) (w_dC (e := (eT2 PyData.int PyData.int)) (x := ((16 : Int), (0 : Int))) rfl) (fun p_1 q => (g_tup (gs_cons (gn (env' := [some En.st, sv (eTalk talk_1), sv (PyData.int x_1), sv ((eO eSide) own_1), sv ((eO eSide) other_1), sv (PyData.int size_2), sv (PyData.int p_1.1), sv (PyData.int room_1)]) rfl (gs_cons (gn (env' := [some En.st, sv (eTalk talk_1), sv (PyData.int x_1), sv ((eO eSide) own_1), sv ((eO eSide) other_1), sv (PyData.int p_1.2), sv (PyData.int p_1.1), sv (PyData.int room_1)]) rfl (gs_nil (hN_1 (p_1.2, p_1.1) () q)))))) rfl)) q)) (fun q => (s_next (hN_1 (size_2, flags_1) () q))) q)))) q))) q))) q)))) q))) q)))) q))) q))
theorem ok_law_start (T : Tx K mg) : FnOk P w K mg base CX0 3 T.ad_law_start T.fd_law_start ["state"] (spS K (F0 (pr0 PyData.int y__law_start))) := by
  refine T.d_law_start.F.ok x_law_start (fun vs H Q E h => spS_len F0_len h) (fun cdv A outer s H vs Q E hr h => ?_)
  have nd := x_law_start.nd
  refine ⟨_, (pss_one (ps_ret (pe_call (ok_law_pick T) hr (by rfl) T.d_law_pick.g T.d_law_pick.F.kp T.d_law_pick.b .nil pass0 (pa_cons (pv 0) (pa_cons (pe_lst (pa_cons pe_int (pa_cons pe_int (pa_cons pe_int (pa_cons pe_int (pa_cons (pe_call (ok_law_number T) hr (by rfl) T.d_law_number.g T.d_law_number.F.kp T.d_law_number.b .nil pass0 (pa_cons (pv 0) (pa_cons pe_int (pa_cons pe_int pa_nil)))) pa_nil)))))) pa_nil))))), fn_state ((rs_ret (re_callS (raC (RfF.e (rf_lst (raC (rc_int _) (raC (rc_int _) (raC (rc_int _) (raC (rc_int _) (raC (re_callS (raC (rc_int _) (raC (rc_int _) raN))) raN))))))) raN)))) h (by rw [spS_len F0_len h]; decide) (F0_in fun  Qd q => ?_)⟩
  obtain ⟨G, q, hQ⟩ := q
  delta y__law_start at q
  exact (s_ret (e := PyData.int) (w_pick (e := PyData.int) rfl (w_list (l_cons (e := PyData.int) (w_dC (e := PyData.int) (x := (0 : Int)) rfl) (l_cons (e := PyData.int) (w_dC (e := PyData.int) (x := (4294967295 : Int)) rfl) (l_cons (e := PyData.int) (w_dC (e := PyData.int) (x := (4294967290 : Int)) rfl) (l_cons (e := PyData.int) (w_dC (e := PyData.int) (x := (2147483647 : Int)) rfl) (l_cons (e := PyData.int) (w_num rfl (w_dC (e := PyData.int) (x := (0 : Int)) rfl) (w_dC (e := PyData.int) (x := (4294967295 : Int)) rfl)) (l_nil (e := PyData.int)))))))) (fun _ => rfl)) hQ q)
theorem ok_law_begun (T : Tx K mg) : FnOk P w K mg base CX0 2 T.ad_law_begun T.fd_law_begun ["segment"] (spD K (F1 (pr1 eSeg eTalk y__law_begun))) := by
  refine T.d_law_begun.F.ok x_law_begun (fun vs H Q E h => spD_len F1_len h) (fun cdv A outer s H vs Q E hr h => ?_)
  have nd := x_law_begun.nd
  refine ⟨_, (pss_cons (ps_set (i := 1) nd rfl (Or.inl rfl) (pe_ix ix_seq (pv 0) pe_int (fun _ _ => rfl)))
        (pss_cons (ps_set (i := 2) nd rfl (Or.inl rfl) (pe_call (ok_law_mod T) hr (by rfl) T.d_law_mod.g T.d_law_mod.F.kp T.d_law_mod.b .nil pass0 (pa_cons (pe_op op_add (pv 1) pe_int) pa_nil)))
        (pss_one (ps_ret (pe_tup (pa_cons pe_str (pa_cons (pe_tup (pa_cons (pv 1) (pa_cons (pv 2) (pa_cons (pv 2) (pa_cons (pe_callB (call_max2 rfl) (by rfl) T.b_max (by decide +kernel) (pa_cons (pe_ix ix_seq (pv 0) pe_int (fun _ _ => rfl)) (pa_cons pe_int pa_nil))) (pa_cons (pv 1) (pa_cons (pe_call (ok_law_shift T) hr (by rfl) T.d_law_shift.g T.d_law_shift.F.kp T.d_law_shift.b .nil pass0 (pa_cons (pe_ix ix_seq (pv 0) pe_int (fun _ _ => rfl)) pa_nil)) (pa_cons pe_non pa_nil)))))))) (pa_cons pe_non pa_nil)))))))), fn_pure ((rs_seq (rs_asg (ro rv_ix (RfE.b (rn 0)) (RfE.b (rc_int _))) (rg_name 1))
        (rs_seq (rs_asg (re_call (raC (ro rv_add (RfE.b (rn 1)) (RfE.b (rc_int _))) raN)) (rg_name 2))
        (rs_ret (re_tup (raC (rc_str _) (raC (re_tup (raC (rn 1) (raC (rn 2) (raC (rn 2) (raC (re_cb ro_max (rbC (RfE.b (ro rv_ix (RfE.b (rn 0)) (RfE.b (rc_int _)))) (rbC (RfE.b (rc_int _)) rbN))) (raC (rn 1) (raC (re_call (raC (ro rv_ix (RfE.b (rn 0)) (RfE.b (rc_int _))) raN)) (raC rc_non raN)))))))) (raC rc_non raN)))))))) h (by rw [spD_len F1_len h]; decide) (F1_in fun a0 Qd q => ?_)⟩
  obtain ⟨segment_1, G, rfl, q, hQ⟩ := q
  delta y__law_begun at q
  exact (s_seq0 (s_asg (e := PyData.int) (w_prj (e := eSeg) (e' := PyData.int) 3 (fun p : Seg => p.2.2.2.1) (w_name (e := eSeg) (x := segment_1) rfl) (fun _ => ⟨_, rfl, dix_nn (by decide) rfl⟩)) (fun start_1 : Int => [sv (eSeg segment_1), sv (PyData.int start_1), none]) (fun _ => rfl) (fun start_1 q => (s_seq0 (s_asg (e := PyData.int) (w_call1 (w_I0 (g' := fun i j => i + j) (w_name (e := PyData.int) (x := start_1) rfl) (w_dC (e := PyData.int) (x := (1 : Int)) rfl) (fun _ _ => rfl))) (fun end_1 : Int => [sv (eSeg segment_1), sv (PyData.int start_1), sv (PyData.int end_1)]) (fun _ => rfl) (fun end_1 q => (s_ret (e := eTalk) (w_tup3 (w_dC (e := PyData.str) (x := (Str.ofString "asked")) rfl) (w_tup7 (w_name (e := PyData.int) (x := start_1) rfl) (w_name (e := PyData.int) (x := end_1) rfl) (w_name (e := PyData.int) (x := end_1) rfl) (w_I2 (w_prj (e := eSeg) (e' := PyData.int) 6 (fun p : Seg => p.2.2.2.2.2.2.1) (w_name (e := eSeg) (x := segment_1) rfl) (fun _ => ⟨_, rfl, dix_nn (by decide) rfl⟩)) (w_dC (e := PyData.int) (x := (1 : Int)) rfl)) (w_name (e := PyData.int) (x := start_1) rfl) (w_call1 (w_prj (e := eSeg) (e' := (eU PyData.int)) 8 (fun p : Seg => p.2.2.2.2.2.2.2.2.1) (w_name (e := eSeg) (x := segment_1) rfl) (fun _ => ⟨_, rfl, dix_nn (by decide) rfl⟩))) (w_co (e := eN) (e' := (eO PyData.int)) (fun a : Unit => (none : (Option Int))) (w_dC (e := eN) (x := ()) rfl) (fun _ => rfl))) (w_co (e := eN) (e' := (eO eSide)) (fun a : Unit => (none : (Option Side))) (w_dC (e := eN) (x := ()) rfl) (fun _ => rfl))) hQ q)) q))) q))
theorem ok_law_worked (T : Tx K mg) : FnOk P w K mg base CX0 8 T.ad_law_worked T.fd_law_worked [] (spD K (F0 (pr0 PyData.bool y__law_worked))) := by
  refine T.d_law_worked.F.ok x_law_worked (fun vs H Q E h => spD_len F0_len h) (fun cdv A outer s H vs Q E hr h => ?_)
  have nd := x_law_worked.nd
  refine ⟨_, (pss_cons (ps_set (i := 0) nd rfl (Or.inl rfl) (pe_tup (pa_cons pe_str (pa_cons pe_int (pa_cons pe_int (pa_cons pe_int (pa_cons pe_int (pa_cons pe_int (pa_cons pe_int (pa_cons pe_int (pa_cons (pe_tup (pa_cons pe_int (pa_cons pe_int (pa_cons pe_int (pa_cons pe_int pa_nil))))) (pa_cons (pe_tup pa_nil) pa_nil))))))))))))
        (pss_cons (ps_set (i := 1) nd rfl (Or.inl rfl) (pe_tup (pa_cons pe_str (pa_cons (pe_tup (pa_cons pe_int (pa_cons pe_int (pa_cons pe_int (pa_cons pe_int (pa_cons pe_int (pa_cons pe_int (pa_cons pe_non pa_nil)))))))) (pa_cons pe_non pa_nil)))))
        (pss_cons (ps_if (pt_not (pt_val (pe_call (ok_law_same T) (hr.mono (by decide)) (by rfl) T.d_law_same.g T.d_law_same.F.kp T.d_law_same.b .nil pass0 (pa_cons (pe_call (ok_begun T) (hr.mono (by decide)) (by rfl) T.d_begun.g T.d_begun.F.kp T.d_begun.b .nil pass0 (pa_cons (pv 0) pa_nil)) (pa_cons (pv 1) pa_nil))))) (pss_one (ps_ret pe_bl)) pss_nil)
        (pss_cons (ps_set (i := 2) nd rfl (Or.inl rfl) (pe_tup (pa_cons pe_str (pa_cons pe_int (pa_cons pe_int (pa_cons pe_int (pa_cons pe_int (pa_cons pe_int (pa_cons pe_int (pa_cons pe_int (pa_cons (pe_tup pa_nil) (pa_cons (pe_tup pa_nil) pa_nil))))))))))))
        (pss_cons (ps_set (i := 3) nd rfl (Or.inl rfl) (pe_tup (pa_cons pe_str (pa_cons (pe_tup (pa_cons pe_int (pa_cons pe_int (pa_cons pe_int (pa_cons pe_int (pa_cons pe_int (pa_cons pe_int (pa_cons pe_non pa_nil)))))))) (pa_cons (pe_tup (pa_cons pe_int (pa_cons pe_int (pa_cons pe_int (pa_cons pe_int (pa_cons pe_int (pa_cons pe_int (pa_cons pe_non pa_nil)))))))) pa_nil)))))
        (pss_cons (ps_if (pt_not (pt_val (pe_call (ok_law_same T) (hr.mono (by decide)) (by rfl) T.d_law_same.g T.d_law_same.F.kp T.d_law_same.b .nil pass0 (pa_cons (pe_call (ok_tracked T) hr (by rfl) T.d_tracked.g T.d_tracked.F.kp T.d_tracked.b .nil pass0 (pa_cons (pv 1) (pa_cons pe_int (pa_cons (pv 2) pa_nil)))) (pa_cons (pe_tup (pa_cons pe_str (pa_cons (pv 3) pa_nil))) pa_nil))))) (pss_one (ps_ret pe_bl)) pss_nil)
        (pss_cons (ps_set (i := 4) nd rfl (Or.inl rfl) (pe_tup (pa_cons pe_str (pa_cons pe_int (pa_cons pe_int (pa_cons pe_int (pa_cons pe_int (pa_cons pe_int (pa_cons pe_int (pa_cons pe_int (pa_cons (pe_tup pa_nil) (pa_cons (pe_tup (pa_cons pe_int (pa_cons pe_int (pa_cons pe_int pa_nil)))) pa_nil))))))))))))
        (pss_cons (ps_set (i := 5) nd rfl (Or.inl rfl) (pe_tup (pa_cons pe_str (pa_cons (pe_tup (pa_cons pe_int (pa_cons pe_int (pa_cons pe_int (pa_cons pe_int (pa_cons pe_int (pa_cons pe_int (pa_cons pe_non pa_nil)))))))) (pa_cons (pe_tup (pa_cons pe_int (pa_cons pe_int (pa_cons pe_int (pa_cons pe_int (pa_cons pe_int (pa_cons pe_int (pa_cons pe_non pa_nil)))))))) pa_nil)))))
        (pss_one (ps_ret (pe_call (ok_law_same T) (hr.mono (by decide)) (by rfl) T.d_law_same.g T.d_law_same.F.kp T.d_law_same.b .nil pass0 (pa_cons (pe_call (ok_tracked T) hr (by rfl) T.d_tracked.g T.d_tracked.F.kp T.d_tracked.b .nil pass0 (pa_cons (pv 3) (pa_cons pe_int (pa_cons (pv 4) pa_nil)))) (pa_cons (pe_tup (pa_cons pe_str (pa_cons (pv 5) pa_nil))) pa_nil))))))))))))), fn_pure ((rs_seq (rs_asg (show RfE _ _ (dC (PyData.tuple [PyData.str "tcp", PyData.int 1, PyData.int 2, PyData.int 4294967295, PyData.int 0, PyData.int 2, PyData.int 100, PyData.int 0, PyData.tuple [PyData.int 3, PyData.int 3, PyData.int 2, PyData.int 1], PyData.tuple []])) from re_tup (raC (rc_str _) (raC (rc_int _) (raC (rc_int _) (raC (rc_int _) (raC (rc_int _) (raC (rc_int _) (raC (rc_int _) (raC (rc_int _) (raC (show RfE _ _ (dC (PyData.tuple [PyData.int 3, PyData.int 3, PyData.int 2, PyData.int 1])) from re_tup (raC (rc_int _) (raC (rc_int _) (raC (rc_int _) (raC (rc_int _) raN))))) (raC (show RfE _ _ (dC (PyData.tuple [])) from re_tup raN) raN))))))))))) (rg_name 0))
        (rs_seq (rs_asg (show RfE _ _ (dC (PyData.tuple [PyData.str "asked", PyData.tuple [PyData.int 4294967295, PyData.int 0, PyData.int 0, PyData.int 100, PyData.int 4294967295, PyData.int 2, PyData.none], PyData.none])) from re_tup (raC (rc_str _) (raC (show RfE _ _ (dC (PyData.tuple [PyData.int 4294967295, PyData.int 0, PyData.int 0, PyData.int 100, PyData.int 4294967295, PyData.int 2, PyData.none])) from re_tup (raC (rc_int _) (raC (rc_int _) (raC (rc_int _) (raC (rc_int _) (raC (rc_int _) (raC (rc_int _) (raC rc_non raN)))))))) (raC rc_non raN)))) (rg_name 1))
        (rs_seq (rs_if (rt_not (rt_val (re_call (raC (re_call (raC (rn 0) raN)) (raC (rn 1) raN))))) (rs_ret (rc_bl _)) rs_next)
        (rs_seq (rs_asg (show RfE _ _ (dC (PyData.tuple [PyData.str "tcp", PyData.int 2, PyData.int 1, PyData.int 7, PyData.int 0, PyData.int 18, PyData.int 50, PyData.int 0, PyData.tuple [], PyData.tuple []])) from re_tup (raC (rc_str _) (raC (rc_int _) (raC (rc_int _) (raC (rc_int _) (raC (rc_int _) (raC (rc_int _) (raC (rc_int _) (raC (rc_int _) (raC (show RfE _ _ (dC (PyData.tuple [])) from re_tup raN) (raC (show RfE _ _ (dC (PyData.tuple [])) from re_tup raN) raN))))))))))) (rg_name 2))
        (rs_seq (rs_asg (show RfE _ _ (dC (PyData.tuple [PyData.str "answered", PyData.tuple [PyData.int 4294967295, PyData.int 0, PyData.int 50, PyData.int 100, PyData.int 0, PyData.int 0, PyData.none], PyData.tuple [PyData.int 7, PyData.int 8, PyData.int 108, PyData.int 50, PyData.int 7, PyData.int 0, PyData.none]])) from re_tup (raC (rc_str _) (raC (show RfE _ _ (dC (PyData.tuple [PyData.int 4294967295, PyData.int 0, PyData.int 50, PyData.int 100, PyData.int 0, PyData.int 0, PyData.none])) from re_tup (raC (rc_int _) (raC (rc_int _) (raC (rc_int _) (raC (rc_int _) (raC (rc_int _) (raC (rc_int _) (raC rc_non raN)))))))) (raC (show RfE _ _ (dC (PyData.tuple [PyData.int 7, PyData.int 8, PyData.int 108, PyData.int 50, PyData.int 7, PyData.int 0, PyData.none])) from re_tup (raC (rc_int _) (raC (rc_int _) (raC (rc_int _) (raC (rc_int _) (raC (rc_int _) (raC (rc_int _) (raC rc_non raN)))))))) raN)))) (rg_name 3))
        (rs_seq (rs_if (rt_not (rt_val (re_call (raC (re_call (raC (rn 1) (raC (rc_int _) (raC (rn 2) raN)))) (raC (re_tup (raC (rc_str _) (raC (rn 3) raN))) raN))))) (rs_ret (rc_bl _)) rs_next)
        (rs_seq (rs_asg (show RfE _ _ (dC (PyData.tuple [PyData.str "tcp", PyData.int 1, PyData.int 2, PyData.int 0, PyData.int 8, PyData.int 16, PyData.int 10, PyData.int 0, PyData.tuple [], PyData.tuple [PyData.int 1, PyData.int 2, PyData.int 3]])) from re_tup (raC (rc_str _) (raC (rc_int _) (raC (rc_int _) (raC (rc_int _) (raC (rc_int _) (raC (rc_int _) (raC (rc_int _) (raC (rc_int _) (raC (show RfE _ _ (dC (PyData.tuple [])) from re_tup raN) (raC (show RfE _ _ (dC (PyData.tuple [PyData.int 1, PyData.int 2, PyData.int 3])) from re_tup (raC (rc_int _) (raC (rc_int _) (raC (rc_int _) raN)))) raN))))))))))) (rg_name 4))
        (rs_seq (rs_asg (show RfE _ _ (dC (PyData.tuple [PyData.str "open", PyData.tuple [PyData.int 4294967295, PyData.int 3, PyData.int 50, PyData.int 100, PyData.int 0, PyData.int 0, PyData.none], PyData.tuple [PyData.int 7, PyData.int 8, PyData.int 108, PyData.int 50, PyData.int 8, PyData.int 0, PyData.none]])) from re_tup (raC (rc_str _) (raC (show RfE _ _ (dC (PyData.tuple [PyData.int 4294967295, PyData.int 3, PyData.int 50, PyData.int 100, PyData.int 0, PyData.int 0, PyData.none])) from re_tup (raC (rc_int _) (raC (rc_int _) (raC (rc_int _) (raC (rc_int _) (raC (rc_int _) (raC (rc_int _) (raC rc_non raN)))))))) (raC (show RfE _ _ (dC (PyData.tuple [PyData.int 7, PyData.int 8, PyData.int 108, PyData.int 50, PyData.int 8, PyData.int 0, PyData.none])) from re_tup (raC (rc_int _) (raC (rc_int _) (raC (rc_int _) (raC (rc_int _) (raC (rc_int _) (raC (rc_int _) (raC rc_non raN)))))))) raN)))) (rg_name 5))
        (rs_ret (re_call (raC (re_call (raC (rn 3) (raC (rc_int _) (raC (rn 4) raN)))) (raC (re_tup (raC (rc_str _) (raC (rn 5) raN))) raN))))))))))))) h (by rw [spD_len F0_len h]; decide) (F0_in fun  Qd q => ?_)⟩
  obtain ⟨G, q, hQ⟩ := q
  delta y__law_worked at q
  exact (s_seq0 (s_asg (e := (eT10 PyData.str PyData.int PyData.int PyData.int PyData.int PyData.int PyData.int PyData.int (eT4 PyData.int PyData.int PyData.int PyData.int) eT0)) (w_dC (e := (eT10 PyData.str PyData.int PyData.int PyData.int PyData.int PyData.int PyData.int PyData.int (eT4 PyData.int PyData.int PyData.int PyData.int) eT0)) (x := ((Str.ofString "tcp"), (1 : Int), (2 : Int), (4294967295 : Int), (0 : Int), (2 : Int), (100 : Int), (0 : Int), ((3 : Int), (3 : Int), (2 : Int), (1 : Int)), ())) rfl) (fun syn_1 : (Str × Int × Int × Int × Int × Int × Int × Int × (Int × Int × Int × Int) × Unit) => [sv ((eT10 PyData.str PyData.int PyData.int PyData.int PyData.int PyData.int PyData.int PyData.int (eT4 PyData.int PyData.int PyData.int PyData.int) eT0) syn_1), none, none, none, none, none]) (fun _ => rfl) (fun syn_1 q => (s_seq0 (s_asg (e := (eT3 PyData.str (eT7 PyData.int PyData.int PyData.int PyData.int PyData.int PyData.int eN) eN)) (w_dC (e := (eT3 PyData.str (eT7 PyData.int PyData.int PyData.int PyData.int PyData.int PyData.int eN) eN)) (x := ((Str.ofString "asked"), ((4294967295 : Int), (0 : Int), (0 : Int), (100 : Int), (4294967295 : Int), (2 : Int), ()), ())) rfl) (fun talk_1 : (Str × (Int × Int × Int × Int × Int × Int × Unit) × Unit) => [sv ((eT10 PyData.str PyData.int PyData.int PyData.int PyData.int PyData.int PyData.int PyData.int (eT4 PyData.int PyData.int PyData.int PyData.int) eT0) syn_1), sv ((eT3 PyData.str (eT7 PyData.int PyData.int PyData.int PyData.int PyData.int PyData.int eN) eN) talk_1), none, none, none, none]) (fun _ => rfl) (fun talk_1 q => (s_seq0 (s_if (t_not (t_val (w_same (w_call1 (w_co (e := (eT10 PyData.str PyData.int PyData.int PyData.int PyData.int PyData.int PyData.int PyData.int (eT4 PyData.int PyData.int PyData.int PyData.int) eT0)) (e' := eSeg) (fun a : (Str × Int × Int × Int × Int × Int × Int × Int × (Int × Int × Int × Int) × Unit) => ((a.1, a.2.1, a.2.2.1, a.2.2.2.1, a.2.2.2.2.1, a.2.2.2.2.2.1, a.2.2.2.2.2.2.1, a.2.2.2.2.2.2.2.1, [a.2.2.2.2.2.2.2.2.1.1, a.2.2.2.2.2.2.2.2.1.2.1, a.2.2.2.2.2.2.2.2.1.2.2.1, a.2.2.2.2.2.2.2.2.1.2.2.2], []) : Seg)) (w_name (e := (eT10 PyData.str PyData.int PyData.int PyData.int PyData.int PyData.int PyData.int PyData.int (eT4 PyData.int PyData.int PyData.int PyData.int) eT0)) (x := syn_1) rfl) (fun _ => rfl))) (w_name (e := (eT3 PyData.str (eT7 PyData.int PyData.int PyData.int PyData.int PyData.int PyData.int eN) eN)) (x := talk_1) rfl)))) (fun q => (s_ret (e := PyData.bool) (w_dC (e := PyData.bool) (x := false) rfl) hQ q)) (fun q => (s_next (s_seq0 (s_asg (e := (eT10 PyData.str PyData.int PyData.int PyData.int PyData.int PyData.int PyData.int PyData.int eT0 eT0)) (w_dC (e := (eT10 PyData.str PyData.int PyData.int PyData.int PyData.int PyData.int PyData.int PyData.int eT0 eT0)) (x := ((Str.ofString "tcp"), (2 : Int), (1 : Int), (7 : Int), (0 : Int), (18 : Int), (50 : Int), (0 : Int), (), ())) rfl) (fun both_1 : (Str × Int × Int × Int × Int × Int × Int × Int × Unit × Unit) => [sv ((eT10 PyData.str PyData.int PyData.int PyData.int PyData.int PyData.int PyData.int PyData.int (eT4 PyData.int PyData.int PyData.int PyData.int) eT0) syn_1), sv ((eT3 PyData.str (eT7 PyData.int PyData.int PyData.int PyData.int PyData.int PyData.int eN) eN) talk_1), sv ((eT10 PyData.str PyData.int PyData.int PyData.int PyData.int PyData.int PyData.int PyData.int eT0 eT0) both_1), none, none, none]) (fun _ => rfl) (fun both_1 q => (s_seq0 (s_asg (e := (eT3 PyData.str (eT7 PyData.int PyData.int PyData.int PyData.int PyData.int PyData.int eN) (eT7 PyData.int PyData.int PyData.int PyData.int PyData.int PyData.int eN))) (w_dC (e := (eT3 PyData.str (eT7 PyData.int PyData.int PyData.int PyData.int PyData.int PyData.int eN) (eT7 PyData.int PyData.int PyData.int PyData.int PyData.int PyData.int eN))) (x := ((Str.ofString "answered"), ((4294967295 : Int), (0 : Int), (50 : Int), (100 : Int), (0 : Int), (0 : Int), ()), ((7 : Int), (8 : Int), (108 : Int), (50 : Int), (7 : Int), (0 : Int), ()))) rfl) (fun answered_1 : (Str × (Int × Int × Int × Int × Int × Int × Unit) × (Int × Int × Int × Int × Int × Int × Unit)) => [sv ((eT10 PyData.str PyData.int PyData.int PyData.int PyData.int PyData.int PyData.int PyData.int (eT4 PyData.int PyData.int PyData.int PyData.int) eT0) syn_1), sv ((eT3 PyData.str (eT7 PyData.int PyData.int PyData.int PyData.int PyData.int PyData.int eN) eN) talk_1), sv ((eT10 PyData.str PyData.int PyData.int PyData.int PyData.int PyData.int PyData.int PyData.int eT0 eT0) both_1), sv ((eT3 PyData.str (eT7 PyData.int PyData.int PyData.int PyData.int PyData.int PyData.int eN) (eT7 PyData.int PyData.int PyData.int PyData.int PyData.int PyData.int eN)) answered_1), none, none]) (fun _ => rfl) (fun answered_1 q => (s_seq0 (s_if (t_not (t_val (w_same (w_call3 (w_co (e := (eT3 PyData.str (eT7 PyData.int PyData.int PyData.int PyData.int PyData.int PyData.int eN) eN)) (e' := eTalk) (fun a : (Str × (Int × Int × Int × Int × Int × Int × Unit) × Unit) => ((a.1, (a.2.1.1, a.2.1.2.1, a.2.1.2.2.1, a.2.1.2.2.2.1, a.2.1.2.2.2.2.1, (some a.2.1.2.2.2.2.2.1), none), none) : Talk)) (w_name (e := (eT3 PyData.str (eT7 PyData.int PyData.int PyData.int PyData.int PyData.int PyData.int eN) eN)) (x := talk_1) rfl) (fun _ => rfl)) (w_dC (e := PyData.int) (x := (1 : Int)) rfl) (w_co (e := (eT10 PyData.str PyData.int PyData.int PyData.int PyData.int PyData.int PyData.int PyData.int eT0 eT0)) (e' := eSeg) (fun a : (Str × Int × Int × Int × Int × Int × Int × Int × Unit × Unit) => ((a.1, a.2.1, a.2.2.1, a.2.2.2.1, a.2.2.2.2.1, a.2.2.2.2.2.1, a.2.2.2.2.2.2.1, a.2.2.2.2.2.2.2.1, [], []) : Seg)) (w_name (e := (eT10 PyData.str PyData.int PyData.int PyData.int PyData.int PyData.int PyData.int PyData.int eT0 eT0)) (x := both_1) rfl) (fun _ => rfl))) (w_tup2 (w_dC (e := PyData.str) (x := (Str.ofString "fits")) rfl) (w_name (e := (eT3 PyData.str (eT7 PyData.int PyData.int PyData.int PyData.int PyData.int PyData.int eN) (eT7 PyData.int PyData.int PyData.int PyData.int PyData.int PyData.int eN))) (x := answered_1) rfl))))) (fun q => (s_ret (e := PyData.bool) (w_dC (e := PyData.bool) (x := false) rfl) hQ q)) (fun q => (s_next (s_seq0 (s_asg (e := (eT10 PyData.str PyData.int PyData.int PyData.int PyData.int PyData.int PyData.int PyData.int eT0 (eT3 PyData.int PyData.int PyData.int))) (w_dC (e := (eT10 PyData.str PyData.int PyData.int PyData.int PyData.int PyData.int PyData.int PyData.int eT0 (eT3 PyData.int PyData.int PyData.int))) (x := ((Str.ofString "tcp"), (1 : Int), (2 : Int), (0 : Int), (8 : Int), (16 : Int), (10 : Int), (0 : Int), (), ((1 : Int), (2 : Int), (3 : Int)))) rfl) (fun last_1 : (Str × Int × Int × Int × Int × Int × Int × Int × Unit × (Int × Int × Int)) => [sv ((eT10 PyData.str PyData.int PyData.int PyData.int PyData.int PyData.int PyData.int PyData.int (eT4 PyData.int PyData.int PyData.int PyData.int) eT0) syn_1), sv ((eT3 PyData.str (eT7 PyData.int PyData.int PyData.int PyData.int PyData.int PyData.int eN) eN) talk_1), sv ((eT10 PyData.str PyData.int PyData.int PyData.int PyData.int PyData.int PyData.int PyData.int eT0 eT0) both_1), sv ((eT3 PyData.str (eT7 PyData.int PyData.int PyData.int PyData.int PyData.int PyData.int eN) (eT7 PyData.int PyData.int PyData.int PyData.int PyData.int PyData.int eN)) answered_1), sv ((eT10 PyData.str PyData.int PyData.int PyData.int PyData.int PyData.int PyData.int PyData.int eT0 (eT3 PyData.int PyData.int PyData.int)) last_1), none]) (fun _ => rfl) (fun last_1 q => (s_seq0 (s_asg (e := (eT3 PyData.str (eT7 PyData.int PyData.int PyData.int PyData.int PyData.int PyData.int eN) (eT7 PyData.int PyData.int PyData.int PyData.int PyData.int PyData.int eN))) (w_dC (e := (eT3 PyData.str (eT7 PyData.int PyData.int PyData.int PyData.int PyData.int PyData.int eN) (eT7 PyData.int PyData.int PyData.int PyData.int PyData.int PyData.int eN))) (x := ((Str.ofString "open"), ((4294967295 : Int), (3 : Int), (50 : Int), (100 : Int), (0 : Int), (0 : Int), ()), ((7 : Int), (8 : Int), (108 : Int), (50 : Int), (8 : Int), (0 : Int), ()))) rfl) (fun due_1 : (Str × (Int × Int × Int × Int × Int × Int × Unit) × (Int × Int × Int × Int × Int × Int × Unit)) => [sv ((eT10 PyData.str PyData.int PyData.int PyData.int PyData.int PyData.int PyData.int PyData.int (eT4 PyData.int PyData.int PyData.int PyData.int) eT0) syn_1), sv ((eT3 PyData.str (eT7 PyData.int PyData.int PyData.int PyData.int PyData.int PyData.int eN) eN) talk_1), sv ((eT10 PyData.str PyData.int PyData.int PyData.int PyData.int PyData.int PyData.int PyData.int eT0 eT0) both_1), sv ((eT3 PyData.str (eT7 PyData.int PyData.int PyData.int PyData.int PyData.int PyData.int eN) (eT7 PyData.int PyData.int PyData.int PyData.int PyData.int PyData.int eN)) answered_1), sv ((eT10 PyData.str PyData.int PyData.int PyData.int PyData.int PyData.int PyData.int PyData.int eT0 (eT3 PyData.int PyData.int PyData.int)) last_1), sv ((eT3 PyData.str (eT7 PyData.int PyData.int PyData.int PyData.int PyData.int PyData.int eN) (eT7 PyData.int PyData.int PyData.int PyData.int PyData.int PyData.int eN)) due_1)]) (fun _ => rfl) (fun due_1 q => (s_ret (e := PyData.bool) (w_same (w_call3 (w_co (e := (eT3 PyData.str (eT7 PyData.int PyData.int PyData.int PyData.int PyData.int PyData.int eN) (eT7 PyData.int PyData.int PyData.int PyData.int PyData.int PyData.int eN))) (e' := eTalk) (fun a : (Str × (Int × Int × Int × Int × Int × Int × Unit) × (Int × Int × Int × Int × Int × Int × Unit)) => ((a.1, (a.2.1.1, a.2.1.2.1, a.2.1.2.2.1, a.2.1.2.2.2.1, a.2.1.2.2.2.2.1, (some a.2.1.2.2.2.2.2.1), none), (some (a.2.2.1, a.2.2.2.1, a.2.2.2.2.1, a.2.2.2.2.2.1, a.2.2.2.2.2.2.1, (some a.2.2.2.2.2.2.2.1), none))) : Talk)) (w_name (e := (eT3 PyData.str (eT7 PyData.int PyData.int PyData.int PyData.int PyData.int PyData.int eN) (eT7 PyData.int PyData.int PyData.int PyData.int PyData.int PyData.int eN))) (x := answered_1) rfl) (fun _ => rfl)) (w_dC (e := PyData.int) (x := (0 : Int)) rfl) (w_co (e := (eT10 PyData.str PyData.int PyData.int PyData.int PyData.int PyData.int PyData.int PyData.int eT0 (eT3 PyData.int PyData.int PyData.int))) (e' := eSeg) (fun a : (Str × Int × Int × Int × Int × Int × Int × Int × Unit × (Int × Int × Int)) => ((a.1, a.2.1, a.2.2.1, a.2.2.2.1, a.2.2.2.2.1, a.2.2.2.2.2.1, a.2.2.2.2.2.2.1, a.2.2.2.2.2.2.2.1, [], [a.2.2.2.2.2.2.2.2.2.1, a.2.2.2.2.2.2.2.2.2.2.1, a.2.2.2.2.2.2.2.2.2.2.2]) : Seg)) (w_name (e := (eT10 PyData.str PyData.int PyData.int PyData.int PyData.int PyData.int PyData.int PyData.int eT0 (eT3 PyData.int PyData.int PyData.int))) (x := last_1) rfl) (fun _ => rfl))) (w_tup2 (w_dC (e := PyData.str) (x := (Str.ofString "fits")) rfl) (w_name (e := (eT3 PyData.str (eT7 PyData.int PyData.int PyData.int PyData.int PyData.int PyData.int eN) (eT7 PyData.int PyData.int PyData.int PyData.int PyData.int PyData.int eN))) (x := due_1) rfl))) hQ q)) q))) q)))) q))) q))) q)))) q))) q))) q))
end
/-! equations of the typed layer's operations -/
theorem c_int {a : Int} {G : Int → Prop} : castT PyData.int (.int a) G ↔ G a := ⟨fun ⟨_, e, g⟩ => by cases e; exact g, fun g => ⟨_, rfl, g⟩⟩
theorem c_str {a : Str} {G : Str → Prop} : castT PyData.str (.str a) G ↔ G a := ⟨fun ⟨_, e, g⟩ => by cases e; exact g, fun g => ⟨_, rfl, g⟩⟩
theorem c_bool {a : Bool} {G : Bool → Prop} : castT PyData.bool (.bool a) G ↔ G a := ⟨fun ⟨_, e, g⟩ => by cases e; exact g, fun g => ⟨_, rfl, g⟩⟩
theorem map_eD (ds : List D) : ds.map eD = ds := by
  have : (eD : D → D) = id := rfl
  rw [this, List.map_id]
theorem c_tup {ds : List D} {G : List D → Prop} : castT (eU eD) (.tuple ds) G ↔ G ds := ⟨fun ⟨a, e, g⟩ => by
  have : PyData.tuple ds = PyData.tuple (a.map eD) := e
  rw [map_eD] at this
  cases this; exact g, fun g => ⟨ds, by show PyData.tuple ds = PyData.tuple (ds.map eD); rw [map_eD], g⟩⟩
theorem g_some {α : Type} {a : α} {G : α → Prop} : getT (some a) G ↔ G a := ⟨fun ⟨_, e, g⟩ => by cases e; exact g, fun g => ⟨_, rfl, g⟩⟩
theorem x_0 {α : Type} {a : α} {r : List α} {G : α → Prop} : ixT (a :: r) 0 G ↔ G a := by unfold ixT atI ixN; simp
theorem x_lit {α : Type} {xs : List α} {a : α} {i : Int} {G : α → Prop} (h0 : 0 ≤ i) (h : xs[i.toNat]? = some a) : ixT xs i G ↔ G a := by
  have hl := (List.getElem?_eq_some_iff.mp h).1
  have e : atI xs i = some a := by unfold atI ixN; rw [if_pos h0, if_pos (by omega)]; exact h
  unfold ixT
  rw [e]
  exact ⟨fun ⟨_, e, g⟩ => by cases e; exact g, fun g => ⟨_, rfl, g⟩⟩
theorem x_1 {α : Type} {a b : α} {r : List α} {G : α → Prop} : ixT (a :: b :: r) 1 G ↔ G b := x_lit (by decide) rfl
theorem x_2 {α : Type} {a b c : α} {r : List α} {G : α → Prop} : ixT (a :: b :: c :: r) 2 G ↔ G c := x_lit (by decide) rfl
theorem x_3 {α : Type} {a b c d : α} {r : List α} {G : α → Prop} : ixT (a :: b :: c :: d :: r) 3 G ↔ G d := x_lit (by decide) rfl
theorem x_4 {α : Type} {a b c d e : α} {r : List α} {G : α → Prop} : ixT (a :: b :: c :: d :: e :: r) 4 G ↔ G e := x_lit (by decide) rfl
theorem x_5 {α : Type} {a b c d e f : α} {r : List α} {G : α → Prop} : ixT (a :: b :: c :: d :: e :: f :: r) 5 G ↔ G f := x_lit (by decide) rfl
theorem x_6 {α : Type} {a b c d e f g : α} {r : List α} {G : α → Prop} : ixT (a :: b :: c :: d :: e :: f :: g :: r) 6 G ↔ G g := x_lit (by decide) rfl
theorem s_lit {α : Type} {xs : List α} {a : α} {i : Int} {G : List α → Prop} (h0 : 0 ≤ i) (h : i.toNat < xs.length) : setT xs i a G ↔ G (xs.set i.toNat a) := by
  have e : ixN xs.length i = some i.toNat := by unfold ixN; rw [if_pos h0, if_pos (by omega)]
  unfold setT
  rw [e]
  exact ⟨fun ⟨_, e, g⟩ => by cases e; exact g, fun g => ⟨_, rfl, g⟩⟩
theorem s_1 {α : Type} {a b y : α} {r : List α} {G : List α → Prop} : setT (a :: b :: r) 1 y G ↔ G (a :: y :: r) := s_lit (by decide) (by simp)
theorem s_2 {α : Type} {a b c y : α} {r : List α} {G : List α → Prop} : setT (a :: b :: c :: r) 2 y G ↔ G (a :: b :: y :: r) := s_lit (by decide) (by simp)
theorem s_3 {α : Type} {a b c d y : α} {r : List α} {G : List α → Prop} : setT (a :: b :: c :: d :: r) 3 y G ↔ G (a :: b :: c :: y :: r) := s_lit (by decide) (by simp)
theorem s_4 {α : Type} {a b c d e y : α} {r : List α} {G : List α → Prop} : setT (a :: b :: c :: d :: e :: r) 4 y G ↔ G (a :: b :: c :: d :: y :: r) := s_lit (by decide) (by simp)
theorem s_6 {α : Type} {a b c d e f g y : α} {r : List α} {G : List α → Prop} : setT (a :: b :: c :: d :: e :: f :: g :: r) 6 y G ↔ G (a :: b :: c :: d :: e :: f :: y :: r) := s_lit (by decide) (by simp)
theorem a_p {a b : Bool} {G : Bool → Prop} : andT a (fun G => G b) G ↔ G (a && b) := by unfold andT; cases a <;> simp
theorem o_p {a b : Bool} {G : Bool → Prop} : orT a (fun G => G b) G ↔ G (a || b) := by unfold orT; cases a <;> simp
theorem i_p {α : Type} {k : Bool} {a b : α} {G : α → Prop} : iteT k (fun G => G a) (fun G => G b) G ↔ G (if k = true then a else b) := by unfold iteT; cases k <;> simp
theorem and_t {B : M Bool} {G : Bool → Prop} : andT true B G ↔ B G := by unfold andT; simp
theorem and_f {B : M Bool} {G : Bool → Prop} : andT false B G ↔ G false := by unfold andT; simp
theorem or_t {B : M Bool} {G : Bool → Prop} : orT true B G ↔ G true := by unfold orT; simp
theorem or_f {B : M Bool} {G : Bool → Prop} : orT false B G ↔ B G := by unfold orT; simp
theorem ite_t {α : Type} {A B : M α} {G : α → Prop} : iteT true A B G ↔ A G := by unfold iteT; simp
theorem ite_f {α : Type} {A B : M α} {G : α → Prop} : iteT false A B G ↔ B G := by unfold iteT; simp
theorem c2 {i : Int} : CDiv i 2 ↔ True := ⟨fun _ => trivial, fun _ => ⟨by decide, by decide⟩⟩
theorem c4 {i : Int} : CDiv i 4 ↔ True := ⟨fun _ => trivial, fun _ => ⟨by decide, by decide⟩⟩
theorem c16 {i : Int} : CDiv i 16 ↔ True := ⟨fun _ => trivial, fun _ => ⟨by decide, by decide⟩⟩
theorem cm2 {i : Int} : CMul i 2 ↔ True := ⟨fun _ => trivial, fun _ => .inr ⟨by decide, by decide⟩⟩

def aft (n s : Int) : Int := (n + s) % 4294967296
def btw (n f : Int) : Int := (n - f) % 4294967296
def lat (a b : Int) : Bool := decide (0 < btw a b) && decide (btw a b < 2147483648)
theorem pm : (0 < (4294967296 : Int)) ↔ True := ⟨fun _ => trivial, fun _ => by decide⟩
theorem e_after {n s : Int} {Q : Int → Prop} : y_after n s Q ↔ Q (aft n s) := by unfold y_after aft; simp only [pm, true_and]
theorem e_between {n s : Int} {Q : Int → Prop} : y_between n s Q ↔ Q (btw n s) := by unfold y_between btw; simp only [pm, true_and]
theorem e_later {a b : Int} {Q : Bool → Prop} : y_later a b Q ↔ Q (lat a b) := by unfold y_later lat; simp only [e_between]
theorem e_later_one {a b : Int} {Q : Int → Prop} : y_later_one a b Q ↔ Q (if lat a b = true then a else b) := by unfold y_later_one; simp only [e_later]
theorem e_lies {n f l : Int} {Q : Bool → Prop} : y_lies n f l Q ↔ Q (decide (btw n f ≤ btw l f)) := by unfold y_lies; simp only [e_between]
theorem e_mod {n : Int} {Q : Int → Prop} : y__law_mod n Q ↔ Q (n % 4294967296) := by unfold y__law_mod; simp only [pm, true_and]
theorem e_llater {a b : Int} {Q : Bool → Prop} : y__law_later a b Q ↔ Q (lat a b) := by unfold y__law_later lat btw; simp only [e_mod]
theorem e_width {a : Int} {Q : Int → Prop} : y__width a Q ↔ Q (if 1 > a then 1 else a) := by unfold y__width; exact Iff.rfl
/-- the marks of a segment -/
structure Bits (f b0 b1 b2 b4 : Int) : Prop where
  h0 : b0 = 0 ∨ b0 = 1
  h1 : b1 = 0 ∨ b1 = 1
  h2 : b2 = 0 ∨ b2 = 1
  h4 : b4 = 0 ∨ b4 = 1
  m0 : f % 2 = b0
  m1 : f / 2 % 2 = b1
  m2 : f / 4 % 2 = b2
  m4 : f / 16 % 2 = b4
  a1 : Builtin.bitAnd f 1 = b0
  a2 : Builtin.bitAnd f 2 = 2 * b1
  a16 : Builtin.bitAnd f 16 = 16 * b4
  a23 : Builtin.bitAnd f 23 = b0 + 2 * b1 + 4 * b2 + 16 * b4
theorem bits_all : ∀ n : Fin 256, Builtin.bitAnd (n.val : Int) 1 = (n.val : Int) % 2 ∧ Builtin.bitAnd (n.val : Int) 2 = 2 * ((n.val : Int) / 2 % 2) ∧ Builtin.bitAnd (n.val : Int) 16 = 16 * ((n.val : Int) / 16 % 2) ∧
    Builtin.bitAnd (n.val : Int) 23 = (n.val : Int) % 2 + 2 * ((n.val : Int) / 2 % 2) + 4 * ((n.val : Int) / 4 % 2) + 16 * ((n.val : Int) / 16 % 2) := by decide +kernel
theorem bits {f : Int} (h0 : 0 ≤ f) (h1 : f < 256) : ∃ b0 b1 b2 b4, Bits f b0 b1 b2 b4 := by
  obtain ⟨n, rfl⟩ := Int.eq_ofNat_of_zero_le h0
  have z := bits_all ⟨n, by omega⟩
  exact ⟨_, _, _, _, by omega, by omega, by omega, by omega, rfl, rfl, rfl, rfl, z.1, z.2.1, z.2.2.1, z.2.2.2⟩
/-! sides and segments -/
abbrev Side.st (p : Side) : Int := p.1
abbrev Side.en (p : Side) : Int := p.2.1
abbrev Side.top (p : Side) : Int := p.2.2.1
abbrev Side.wide (p : Side) : Int := p.2.2.2.1
abbrev Side.heard (p : Side) : Int := p.2.2.2.2.1
abbrev Side.shift (p : Side) : Option Int := p.2.2.2.2.2.1
abbrev Side.fin (p : Side) : Option Int := p.2.2.2.2.2.2
theorem c_side {p : Side} {G : Side → Prop} : castT eSide (eSide p) G ↔ G p := by
  refine ⟨fun ⟨a, e, g⟩ => ?_, fun g => ⟨_, rfl, g⟩⟩
  obtain ⟨a1, a2, a3, a4, a5, a6, a7⟩ := a
  obtain ⟨p1, p2, p3, p4, p5, p6, p7⟩ := p
  simp only [eSide, eT7, PyData.tuple.injEq, List.cons.injEq, PyData.int.injEq, and_true] at e
  obtain ⟨rfl, rfl, rfl, rfl, rfl, e6, e7⟩ := e
  have k : ∀ a b : Option Int, eO PyData.int a = eO PyData.int b → a = b := by
    intro a b h
    cases a <;> cases b <;> simp_all [eO]
  rw [k _ _ e6, k _ _ e7]
  exact g
theorem c_sideL {p : Side} {G : List D → Prop} : castT (eU eD) (eSide p) G ↔ G [.int p.1, .int p.2.1, .int p.2.2.1, .int p.2.2.2.1, .int p.2.2.2.2.1, eO PyData.int p.2.2.2.2.2.1, eO PyData.int p.2.2.2.2.2.2] := c_tup
/-- the end of a segment -/
def segE (s : Seg) (b0 b1 : Int) : Int := (s.2.2.2.1 + (s.2.2.2.2.2.2.2.2.2.length : Int) + b0 + b1) % 4294967296
theorem e_segE {s : Seg} {b0 b1 b2 b4 : Int} (h : Bits s.2.2.2.2.2.1 b0 b1 b2 b4) {Q : Int → Prop} : y_segment_end s Q ↔ Q (segE s b0 b1) := by
  unfold y_segment_end
  simp only [letT, e_after, h.a1, h.a2]
  have : aft s.2.2.2.1 ((s.2.2.2.2.2.2.2.2.2.length : Int) + ((if (!decide (2 * b1 = 0)) = true then (1 : Int) else 0) + b0)) = segE s b0 b1 := by
    unfold aft segE
    rcases h.h1 with rfl | rfl <;> simp <;> omega
  rw [this]
theorem e_form {s : Seg} {b0 b1 b2 b4 : Int} (h : Bits s.2.2.2.2.2.1 b0 b1 b2 b4) {Q : Int → Prop} : y__form s Q ↔ Q (b0 + 2 * b1 + 4 * b2 + 16 * b4) := by
  unfold y__form
  rw [h.a23]
theorem e_lform {s : Seg} {b0 b1 b2 b4 : Int} (h : Bits s.2.2.2.2.2.1 b0 b1 b2 b4) {Q : List Int → Prop} : y__law_form s Q ↔ Q [b0, b1, b2, b4] := by
  unfold y__law_form
  simp only [letT, c2, c4, c16, h.m0, h.m1, h.m2, h.m4, true_and, show (0 : Int) < 2 from by decide]
theorem e_lend {s : Seg} {b0 b1 b2 b4 : Int} (h : Bits s.2.2.2.2.2.1 b0 b1 b2 b4) {Q : Int → Prop} : y__law_end s Q ↔ Q (segE s b0 b1) := by
  unfold y__law_end
  simp only [e_lform h, x_0, x_1, e_mod]
  exact Iff.rfl
/-- odd segments -/
def oddB (s : Seg) (b0 b1 b2 b4 : Int) : Bool := if b1 = 1 then (decide (b0 = 1) || decide (b2 = 1)) || decide (0 < (s.2.2.2.2.2.2.2.2.2.length : Int)) else !((decide (b4 = 1) && decide (b2 = 0)) || (decide (b2 = 1) && decide (b0 = 0)))
theorem e_odd {s : Seg} {b0 b1 b2 b4 : Int} (h : Bits s.2.2.2.2.2.1 b0 b1 b2 b4) {Q : Bool → Prop} : y__is_odd s Q ↔ Q (oddB s b0 b1 b2 b4) := by
  unfold y__is_odd
  simp only [e_form h]
  unfold oddB
  rcases h.h0 with rfl | rfl <;> rcases h.h1 with rfl | rfl <;> rcases h.h2 with rfl | rfl <;> rcases h.h4 with rfl | rfl <;> simp
theorem kn_lists : ∀ n : Fin 16, let b0 : Int := (n.val % 2 : Nat); let b1 : Int := (n.val / 2 % 2 : Nat); let b2 : Int := (n.val / 4 % 2 : Nat); let b4 : Int := (n.val / 8 % 2 : Nat);
    okD (eL PyData.int [b0, b1, b2, b4]) = true ∧ PyData.eqv (eL PyData.int [b0, b1, b2, b4]) (eL PyData.int [0, 1, 0, 0]) = (decide (b0 = 0) && decide (b1 = 1) && decide (b2 = 0) && decide (b4 = 0)) ∧
    inD (eL PyData.int [b0, b1, b2, b4]) (List.map (eL PyData.int) [[(0 : Int), 1, 0, 0], [0, 1, 0, 1], [0, 0, 0, 1], [1, 0, 0, 1], [0, 0, 1, 0], [0, 0, 1, 1]]) =
      (if b1 = 1 then !(decide (b0 = 1) || decide (b2 = 1)) else (decide (b4 = 1) && decide (b2 = 0)) || (decide (b2 = 1) && decide (b0 = 0))) := by decide +kernel
theorem knl {s : Seg} {b0 b1 b2 b4 : Int} (h : Bits s.2.2.2.2.2.1 b0 b1 b2 b4) : okD (eL PyData.int [b0, b1, b2, b4]) = true ∧ PyData.eqv (eL PyData.int [b0, b1, b2, b4]) (eL PyData.int [0, 1, 0, 0]) = (decide (b0 = 0) && decide (b1 = 1) && decide (b2 = 0) && decide (b4 = 0)) ∧
    inD (eL PyData.int [b0, b1, b2, b4]) (List.map (eL PyData.int) [[(0 : Int), 1, 0, 0], [0, 1, 0, 1], [0, 0, 0, 1], [1, 0, 0, 1], [0, 0, 1, 0], [0, 0, 1, 1]]) =
      (if b1 = 1 then !(decide (b0 = 1) || decide (b2 = 1)) else (decide (b4 = 1) && decide (b2 = 0)) || (decide (b2 = 1) && decide (b0 = 0))) := by
  rcases h.h0 with rfl | rfl <;> rcases h.h1 with rfl | rfl <;> rcases h.h2 with rfl | rfl <;> rcases h.h4 with rfl | rfl
  · exact kn_lists 0
  · exact kn_lists 8
  · exact kn_lists 4
  · exact kn_lists 12
  · exact kn_lists 2
  · exact kn_lists 10
  · exact kn_lists 6
  · exact kn_lists 14
  · exact kn_lists 1
  · exact kn_lists 9
  · exact kn_lists 5
  · exact kn_lists 13
  · exact kn_lists 3
  · exact kn_lists 11
  · exact kn_lists 7
  · exact kn_lists 15
theorem ok_known : okD (eL (eL PyData.int) [[(0 : Int), 1, 0, 0], [0, 1, 0, 1], [0, 0, 0, 1], [1, 0, 0, 1], [0, 0, 1, 0], [0, 0, 1, 1]]) = true := by decide +kernel
theorem ok_syn : okD (eL PyData.int [(0 : Int), 1, 0, 0]) = true := by decide +kernel
theorem e_lodd {s : Seg} {b0 b1 b2 b4 : Int} (h : Bits s.2.2.2.2.2.1 b0 b1 b2 b4) {Q : Bool → Prop} : y__law_is_odd s Q ↔ Q (oddB s b0 b1 b2 b4) := by
  unfold y__law_is_odd
  simp only [e_lform h, letT, (knl h).1, ok_known, true_and, (knl h).2.2, x_1, o_p]
  unfold oddB
  rcases h.h0 with rfl | rfl <;> rcases h.h1 with rfl | rfl <;> rcases h.h2 with rfl | rfl <;> rcases h.h4 with rfl | rfl <;> simp
/-- whether a segment lies well -/
def wellB (p o : Side) (s : Seg) (b0 b1 b4 : Int) : Bool :=
  if ¬ (segE s b0 b1 - (p.2.1 - o.2.2.2.1)) % 4294967296 ≤ (p.2.2.1 - (p.2.1 - o.2.2.2.1)) % 4294967296 then false
  else if b4 = 1 ∧ 1073741824 < (o.2.1 - s.2.2.2.2.1) % 4294967296 then false
  else match p.2.2.2.2.2.2 with
    | none => decide (b0 = 0) || !lat p.2.1 (segE s b0 b1)
    | some f => decide (segE s b0 b1 = f) || (decide (b0 = 0) && !lat (segE s b0 b1) f)
/-- the talk's sides as the party x sees them -/
def Own (t : Talk) (x : Int) (p o : Side) : Prop := (x = 0 ∧ t.2.1 = p ∧ t.2.2 = some o) ∨ (x = 1 ∧ t.2.1 = o ∧ t.2.2 = some p)
theorem own_1 {t : Talk} {x : Int} {p o : Side} (h : Own t x p o) {z : D} {G : Side → Prop} : (ixT [z, eSide t.2.1, (eO eSide) t.2.2] (1 + x) fun v => castT eSide v G) ↔ G p := by
  rcases h with ⟨rfl, h1, h2⟩ | ⟨rfl, h1, h2⟩
  · rw [h1, h2, show (1 : Int) + 0 = 1 from rfl, x_1]
    exact c_side
  · rw [h1, h2, show (1 : Int) + 1 = 2 from rfl, x_2]
    exact c_side (p := p)
theorem own_2 {t : Talk} {x : Int} {p o : Side} (h : Own t x p o) {z : D} {G : Side → Prop} : (ixT [z, eSide t.2.1, (eO eSide) t.2.2] (2 - x) fun v => castT eSide v G) ↔ G o := by
  rcases h with ⟨rfl, h1, h2⟩ | ⟨rfl, h1, h2⟩
  · rw [h1, h2, show (2 : Int) - 0 = 2 from rfl, x_2]
    exact c_side (p := o)
  · rw [h1, h2, show (2 : Int) - 1 = 1 from rfl, x_1]
    exact c_side
theorem lat_self (a : Int) : lat a a = false := by unfold lat btw; simp
theorem e_well {t : Talk} {x : Int} {p o : Side} {s : Seg} {b0 b1 b2 b4 : Int} (h : Own t x p o) (hb : Bits s.2.2.2.2.2.1 b0 b1 b2 b4) {Q : Bool → Prop} : y__lies_well t x s Q ↔ Q (wellB p o s b0 b1 b4) := by
  unfold y__lies_well
  simp only [own_1 h, own_2 h, letT, e_segE hb, e_after, e_lies, e_between, hb.a1, hb.a16, a_p, e_later]
  have e1 : ∀ a : Int, btw a (aft p.2.1 (-o.2.2.2.1)) = (a - (p.2.1 - o.2.2.2.1)) % 4294967296 := by
    intro a
    unfold btw aft
    omega
  rw [e1, e1]
  unfold wellB
  by_cases c1 : (segE s b0 b1 - (p.2.1 - o.2.2.2.1)) % 4294967296 ≤ (p.2.2.1 - (p.2.1 - o.2.2.2.1)) % 4294967296
  · simp only [c1, decide_true, Bool.not_true, Bool.false_eq_true, if_false, not_true_eq_false]
    have e2 : ((!decide (16 * b4 = 0) && decide (1073741824 < btw o.2.1 s.2.2.2.2.1)) = true) = (b4 = 1 ∧ 1073741824 < (o.2.1 - s.2.2.2.2.1) % 4294967296) := by
      unfold btw
      rcases hb.h4 with rfl | rfl <;> simp
    simp only [e2]
    by_cases c2 : b4 = 1 ∧ 1073741824 < (o.2.1 - s.2.2.2.2.1) % 4294967296
    · simp only [if_pos c2]
    · simp only [if_neg c2]
      obtain ⟨p1, p2, p3, p4, p5, p6, p7⟩ := p
      cases p7 with
      | none =>
        simp only [Option.isNone_none, if_true]
        rcases hb.h0 with rfl | rfl <;> simp
      | some f =>
        simp only [Option.isNone_some, Bool.false_eq_true, if_false, g_some]
        rcases hb.h0 with rfl | rfl
        · by_cases c3 : segE s 0 b1 = f
          · subst c3; simp [lat_self]
          · simp [c3]
        · by_cases c3 : segE s 1 b1 = f
          · subst c3; simp [lat_self]
          · simp [c3]
  · simp only [c1, decide_false, Bool.not_false, if_true, not_false_eq_true]
theorem e_lwell {t : Talk} {x : Int} {p o : Side} {s : Seg} {b0 b1 b2 b4 : Int} (h : Own t x p o) (hb : Bits s.2.2.2.2.2.1 b0 b1 b2 b4) {Q : Bool → Prop} : y__law_well t x s Q ↔ Q (wellB p o s b0 b1 b4) := by
  unfold y__law_well
  simp only [own_1 h, own_2 h, letT, e_lend hb, e_lform hb, e_mod, x_0, x_3, a_p, o_p, e_llater]
  unfold wellB
  by_cases c1 : (segE s b0 b1 - (p.2.1 - o.2.2.2.1)) % 4294967296 ≤ (p.2.2.1 - (p.2.1 - o.2.2.2.1)) % 4294967296
  · simp only [c1, not_true_eq_false, if_false, show ¬ ((p.2.2.1 - (p.2.1 - o.2.2.2.1)) % 4294967296 < (segE s b0 b1 - (p.2.1 - o.2.2.2.1)) % 4294967296) from by omega, decide_false, Bool.false_eq_true]
    by_cases c2 : b4 = 1 ∧ 1073741824 < (o.2.1 - s.2.2.2.2.1) % 4294967296
    · have e2 : (decide (b4 = 1) && decide (1073741824 < (o.2.1 - s.2.2.2.2.1) % 4294967296)) = true := by simpa using c2
      simp only [if_pos c2, if_pos e2]
    · have e2 : ¬ ((decide (b4 = 1) && decide (1073741824 < (o.2.1 - s.2.2.2.2.1) % 4294967296)) = true) := by simpa using c2
      simp only [if_neg c2, if_neg e2]
      obtain ⟨p1, p2, p3, p4, p5, p6, p7⟩ := p
      cases p7 with
      | none => simp only [Option.isNone_none, if_true]
      | some f =>
        simp only [Option.isNone_some, Bool.false_eq_true, if_false, g_some]
        by_cases c3 : segE s b0 b1 = f
        · subst c3; simp [or_t]
        · rcases hb.h0 with rfl | rfl <;> simp [c3, or_f, and_t, and_f]
  · simp only [c1, not_false_eq_true, if_true, show (p.2.2.1 - (p.2.1 - o.2.2.2.1)) % 4294967296 < (segE s b0 b1 - (p.2.1 - o.2.2.2.1)) % 4294967296 from by omega, decide_true]
/-! what a segment that fits makes of a talk -/
abbrev N32 (a : Int) : Prop := 0 ≤ a ∧ a < 4294967296
structure SideOk (p : Side) : Prop where
  st : N32 p.1
  en : N32 p.2.1
  top : N32 p.2.2.1
  wide : 0 ≤ p.2.2.2.1 ∧ p.2.2.2.1 < 1073741824
  heard : N32 p.2.2.2.2.1
  sh : ∀ k, p.2.2.2.2.2.1 = some k → 0 ≤ k ∧ k ≤ 14
  fin : ∀ f, p.2.2.2.2.2.2 = some f → N32 f
def bhP (p : Side) (k : Int) (s : Seg) (b0 b1 : Int) : Side :=
  (p.1, if lat (segE s b0 b1) p.2.1 = true then segE s b0 b1 else p.2.1, p.2.2.1, max p.2.2.2.1 (s.2.2.2.2.2.2.1 * 2 ^ k.toNat), p.2.2.2.2.1, p.2.2.2.2.2.1, if b0 = 1 then some (segE s b0 b1) else p.2.2.2.2.2.2)
def bhO (o : Side) (k : Int) (s : Seg) : Side :=
  let tp := (s.2.2.2.2.1 + max (s.2.2.2.2.2.2.1 * 2 ^ k.toNat) 1) % 4294967296
  (o.1, o.2.1, if lat tp o.2.2.1 = true then tp else o.2.2.1, o.2.2.2.1, if lat s.2.2.2.2.1 o.2.2.2.2.1 = true then s.2.2.2.2.1 else o.2.2.2.2.1, o.2.2.2.2.2.1, o.2.2.2.2.2.2)
def stOf (p o : Side) : Str := if p.2.2.2.2.2.2 = none ∧ o.2.2.2.2.2.2 = none then Str.ofString "open" else if p.2.2.2.2.2.2 = some p.2.2.2.2.1 ∧ o.2.2.2.2.2.2 = some o.2.2.2.2.1 then Str.ofString "over" else Str.ofString "closing"
def bhT (x : Int) (p o : Side) (k : Int) (s : Seg) (b0 b1 : Int) : Talk :=
  (stOf (bhP p k s b0 b1) (bhO o k s), if x = 0 then bhP p k s b0 b1 else bhO o k s, some (if x = 0 then bhO o k s else bhP p k s b0 b1))
theorem mx1 (a b : Int) : (if a > b then a else b) = max b a := by omega
theorem e_state {p o : Side} {Q : Str → Prop} : y__state_of p o Q ↔ Q (stOf p o) := by
  unfold y__state_of stOf
  obtain ⟨p1, p2, p3, p4, p5, p6, p7⟩ := p
  obtain ⟨o1, o2, o3, o4, o5, o6, o7⟩ := o
  cases p7 <;> cases o7 <;> simp only [Option.isNone_none, Option.isNone_some, Bool.and_true, Bool.and_false, Bool.false_eq_true, if_false, if_true, and_self, reduceCtorEq, and_false, false_and, decide_false, Bool.false_and, Option.some.injEq]
  rename_i a b
  by_cases c1 : a = p5 <;> by_cases c2 : b = o5 <;> simp [c1, c2]
theorem lat_comm_end (a b : Int) : (if lat a b = true then a else b) = (if lat a b = true then a else b) := rfl
theorem w_fst {t : Talk} {x : Int} {p o : Side} (h : Own t x p o) : x = 0 ∨ x = 1 := h.elim (fun z => .inl z.1) fun z => .inr z.1
theorem e_taken {t : Talk} {x : Int} {p o : Side} {s : Seg} {b0 b1 b2 b4 k : Int} (h : Own t x p o) (hb : Bits s.2.2.2.2.2.1 b0 b1 b2 b4) (hk : p.2.2.2.2.2.1 = some k) (k0 : 0 ≤ k ∧ k ≤ 14) (hw : 0 ≤ s.2.2.2.2.2.2.1 ∧ s.2.2.2.2.2.2.1 < 65536) {Q : Talk → Prop} :
    y__taken t x s Q ↔ Q (bhT x p o k s b0 b1) := by
  have cp : CPow s.2.2.2.2.2.2.1 k ↔ True := ⟨fun _ => trivial, fun _ => ⟨k0.1, by omega, by omega⟩⟩
  have j : ∀ fin : Option Int, y__taken_j1 t x p (s.2.2.2.2.2.2.1 * 2 ^ k.toNat) s.2.2.2.2.1 (segE s b0 b1) Q fin ↔ Q (let p' := (p.1, if lat (segE s b0 b1) p.2.1 = true then segE s b0 b1 else p.2.1, p.2.2.1, max p.2.2.2.1 (s.2.2.2.2.2.2.1 * 2 ^ k.toNat), p.2.2.2.2.1, p.2.2.2.2.2.1, fin);
      (stOf p' (bhO o k s), if x = 0 then p' else bhO o k s, some (if x = 0 then bhO o k s else p'))) := by
    intro fin
    unfold y__taken_j1
    simp only [own_2 h, e_later_one, letT, e_width, e_after, e_state]
    have e1 : (if p.2.2.2.1 > s.2.2.2.2.2.2.1 * 2 ^ k.toNat then p.2.2.2.1 else s.2.2.2.2.2.2.1 * 2 ^ k.toNat) = max p.2.2.2.1 (s.2.2.2.2.2.2.1 * 2 ^ k.toNat) := by omega
    have e2 : aft s.2.2.2.2.1 (if 1 > s.2.2.2.2.2.2.1 * 2 ^ k.toNat then 1 else s.2.2.2.2.2.2.1 * 2 ^ k.toNat) = (s.2.2.2.2.1 + max (s.2.2.2.2.2.2.1 * 2 ^ k.toNat) 1) % 4294967296 := by
      unfold aft
      rw [show (if 1 > s.2.2.2.2.2.2.1 * 2 ^ k.toNat then (1 : Int) else s.2.2.2.2.2.2.1 * 2 ^ k.toNat) = max (s.2.2.2.2.2.2.1 * 2 ^ k.toNat) 1 from by omega]
    rw [e1, e2]
    unfold bhO
    rcases w_fst h with rfl | rfl
    · simp
    · simp
  unfold y__taken
  simp only [own_1 h, hk, g_some, cp, true_and, letT, e_segE hb, hb.a1, j]
  unfold bhT bhP
  rcases hb.h0 with rfl | rfl
  · simp [hk]
  · simp [hk]
theorem e_dbl {Q : Talk → Prop} {kn : Int → Prop} : ∀ {xs : List Int} {w : Int}, y__law_behind_l1 Q kn xs w ↔ kn (w * 2 ^ xs.length)
  | [], w => by unfold y__law_behind_l1; simp
  | _ :: r, w => by
    unfold y__law_behind_l1
    simp only [cm2, true_and, letT]
    rw [e_dbl (xs := r), List.length_cons, Int.pow_succ]
    rw [show w * 2 * 2 ^ r.length = w * (2 ^ r.length * 2) by rw [Int.mul_assoc, Int.mul_comm 2]]
theorem rng_l (lo : Int) (n : Nat) : (rngT lo n).length = n := by unfold rngT; simp
theorem ok_i {a : Int} (h : N32 a) : okD (.int a) = true := (sI (k := 0) (w := 40) (by omega) (by omega)).ok
theorem eq_ii {a b : Int} (ha : N32 a) (hb : N32 b) {G : Bool → Prop} : eqT (eD (.int a)) (eD (.int b)) G ↔ G (decide (a = b)) := by
  unfold eqT
  show okD (.int a) = true ∧ okD (.int b) = true ∧ G (PyData.eqv (.int a) (.int b)) ↔ _
  rw [ok_i ha, ok_i hb]
  have : PyData.eqv (.int a) (.int b) = decide (a = b) := by
    by_cases c : a = b
    · subst c; rw [decide_eq_true rfl]; exact (fl_I.e a a).mpr rfl
    · rw [decide_eq_false c]
      exact Bool.eq_false_iff.mpr fun z => c ((fl_I.e a b).mp z)
  simp [this]
theorem segE_ok (s : Seg) (b0 b1 : Int) : N32 (segE s b0 b1) := ⟨Int.emod_nonneg _ (by decide), Int.emod_lt_of_pos _ (by decide)⟩
theorem c_sideU {p : Side} {G : Side → Prop} : castT eSide ((eU eD) [.int p.1, .int p.2.1, .int p.2.2.1, .int p.2.2.2.1, .int p.2.2.2.2.1, eO PyData.int p.2.2.2.2.2.1, eO PyData.int p.2.2.2.2.2.2]) G ↔ G p := c_side (p := p)
theorem isNo_o (o : Option Int) : isNo (eO PyData.int o) = o.isNone := n_O (fun _ => rfl) o
theorem e_bj2 {x : Int} (hx : x = 0 ∨ x = 1) {p o : Side} {st : Str} {Q : Talk → Prop} : y__law_behind_j2 x [.int p.1, .int p.2.1, .int p.2.2.1, .int p.2.2.2.1, .int p.2.2.2.2.1, eO PyData.int p.2.2.2.2.2.1, eO PyData.int p.2.2.2.2.2.2] [.int o.1, .int o.2.1, .int o.2.2.1, .int o.2.2.2.1, .int o.2.2.2.2.1, eO PyData.int o.2.2.2.2.2.1, eO PyData.int o.2.2.2.2.2.2] Q st ↔
    Q (st, if x = 0 then p else o, some (if x = 0 then o else p)) := by
  unfold y__law_behind_j2
  simp only [c_sideU, letT]
  rcases hx with rfl | rfl
  · rw [x_0, show (1 : Int) - 0 = 1 from rfl, x_1]; simp
  · rw [x_1, show (1 : Int) - 1 = 0 from rfl, x_0]; simp
theorem e_bj3 {x : Int} (hx : x = 0 ∨ x = 1) {p o : Side} (hp : N32 p.2.2.2.2.1) (ho : N32 o.2.2.2.2.1) (fp : ∀ f, p.2.2.2.2.2.2 = some f → N32 f) (fo : ∀ f, o.2.2.2.2.2.2 = some f → N32 f) {Q : Talk → Prop} : y__law_behind_j3 x [.int o.1, .int o.2.1, .int o.2.2.1, .int o.2.2.2.1, .int o.2.2.2.2.1, eO PyData.int o.2.2.2.2.2.1, eO PyData.int o.2.2.2.2.2.2] Q [.int p.1, .int p.2.1, .int p.2.2.1, .int p.2.2.2.1, .int p.2.2.2.2.1, eO PyData.int p.2.2.2.2.2.1, eO PyData.int p.2.2.2.2.2.2] ↔
    Q (stOf p o, if x = 0 then p else o, some (if x = 0 then o else p)) := by
  unfold y__law_behind_j3 stOf
  simp only [x_6, x_4, isNo_o, a_p, letT]
  cases hp7 : p.2.2.2.2.2.2 with
  | none =>
    cases ho7 : o.2.2.2.2.2.2 with
    | none =>
      simp only [Option.isNone_none, Bool.and_self, Bool.not_true, and_f, Bool.false_eq_true, if_false, if_true, true_and]
      have z := e_bj2 hx (p := p) (o := o) (st := Str.ofString "open") (Q := Q)
      rw [hp7, ho7] at z
      exact z
    | some f =>
      simp only [Option.isNone_none, Option.isNone_some, Bool.true_and, Bool.not_true, and_f, Bool.false_eq_true, if_false, if_true, true_and, reduceCtorEq, and_false, false_and]
      have z := e_bj2 hx (p := p) (o := o) (st := Str.ofString "closing") (Q := Q)
      rw [hp7, ho7] at z
      exact z
  | some e =>
    cases ho7 : o.2.2.2.2.2.2 with
    | none =>
      simp only [Option.isNone_none, Option.isNone_some, Bool.false_and, Bool.not_true, Bool.not_false, and_t, and_f, Bool.false_eq_true, if_false, if_true, true_and, reduceCtorEq, and_false, false_and]
      have z := e_bj2 hx (p := p) (o := o) (st := Str.ofString "closing") (Q := Q)
      rw [hp7, ho7] at z
      exact z
    | some f =>
      have ne := fp e hp7
      have nf := fo f ho7
      have e1 : ∀ G : Bool → Prop, eqT (eD (.int p.2.2.2.2.1)) (eD (eO PyData.int (some e))) G ↔ G (decide (p.2.2.2.2.1 = e)) := fun G => eq_ii hp ne
      have e2 : ∀ G : Bool → Prop, eqT (eD (.int o.2.2.2.2.1)) (eD (eO PyData.int (some f))) G ↔ G (decide (o.2.2.2.2.1 = f)) := fun G => eq_ii ho nf
      simp only [Option.isNone_some, Bool.false_and, Bool.not_false, and_t, e1, e2, a_p, Bool.false_eq_true, if_false, true_and, reduceCtorEq, and_false, false_and, Option.some.injEq]
      have z1 := e_bj2 hx (p := p) (o := o) (st := Str.ofString "closing") (Q := Q)
      have z2 := e_bj2 hx (p := p) (o := o) (st := Str.ofString "over") (Q := Q)
      rw [hp7, ho7] at z1 z2
      by_cases c1 : e = p.2.2.2.2.1 <;> by_cases c2 : f = o.2.2.2.2.1
      · simp only [c1, c2, decide_true, Bool.and_self, if_true, and_self]
        rw [c1, c2] at z2
        exact z2
      · rw [if_neg (by simp [c2, Ne.symm c2]), if_neg (by simp [c2])]
        exact z1
      · rw [if_neg (by simp [c1, Ne.symm c1]), if_neg (by simp [c1])]
        exact z1
      · rw [if_neg (by simp [c1, Ne.symm c1]), if_neg (by simp [c1])]
        exact z1
theorem e_behind {t : Talk} {x : Int} {p o : Side} {s : Seg} {b0 b1 b2 b4 k : Int} (h : Own t x p o) (hb : Bits s.2.2.2.2.2.1 b0 b1 b2 b4) (hk : p.2.2.2.2.2.1 = some k) (k0 : 0 ≤ k ∧ k ≤ 14) (hp : SideOk p) (ho : SideOk o) (ha : N32 s.2.2.2.2.1) {Q : Talk → Prop} :
    y__law_behind t x s Q ↔ Q (bhT x p o k s b0 b1) := by
  have own_1L : ∀ G : List D → Prop, (ixT [PyData.str t.1, eSide t.2.1, (eO eSide) t.2.2] (1 + x) fun v => castT (eU eD) v G) ↔ G [.int p.1, .int p.2.1, .int p.2.2.1, .int p.2.2.2.1, .int p.2.2.2.2.1, eO PyData.int p.2.2.2.2.2.1, eO PyData.int p.2.2.2.2.2.2] := by
    intro G
    rcases h with ⟨rfl, h1, h2⟩ | ⟨rfl, h1, h2⟩
    · rw [h1, h2, show (1 : Int) + 0 = 1 from rfl, x_1]; exact c_sideL
    · rw [h1, h2, show (1 : Int) + 1 = 2 from rfl, x_2]; exact c_sideL (p := p)
  have own_2L : ∀ G : List D → Prop, (ixT [PyData.str t.1, eSide t.2.1, (eO eSide) t.2.2] (2 - x) fun v => castT (eU eD) v G) ↔ G [.int o.1, .int o.2.1, .int o.2.2.1, .int o.2.2.2.1, .int o.2.2.2.2.1, eO PyData.int o.2.2.2.2.2.1, eO PyData.int o.2.2.2.2.2.2] := by
    intro G
    rcases h with ⟨rfl, h1, h2⟩ | ⟨rfl, h1, h2⟩
    · rw [h1, h2, show (2 : Int) - 0 = 2 from rfl, x_2]; exact c_sideL (p := o)
    · rw [h1, h2, show (2 : Int) - 1 = 1 from rfl, x_1]; exact c_sideL
  have ck : ∀ G : Int → Prop, castT PyData.int (eO PyData.int p.2.2.2.2.2.1) G ↔ G k := by
    intro G; rw [hk]; exact c_int
  have kb : ((-(2 ^ 62) ≤ k ∧ k < 2 ^ 62)) ↔ True := ⟨fun _ => trivial, fun _ => ⟨by omega, by omega⟩⟩
  unfold y__law_behind
  simp only [own_1L, own_2L, e_lend hb, letT, x_5, ck, kb, true_and, e_dbl, rng_l, x_0, x_1, x_2, x_3, x_4, c_int, e_llater, i_p, s_1, s_2, s_3, s_4, s_6, e_mod, e_lform hb]
  generalize hW : s.2.2.2.2.2.2.1 * 2 ^ k.toNat = W
  have e1 : (if W > p.2.2.2.1 then W else p.2.2.2.1) = max p.2.2.2.1 W := by omega
  have e2 : (s.2.2.2.2.1 + if 1 > W then 1 else W) % 4294967296 = (s.2.2.2.2.1 + max W 1) % 4294967296 := by
    rw [show (if 1 > W then (1 : Int) else W) = max W 1 from by omega]
  rw [e1, e2]
  have hO : bhO o k s = (o.1, o.2.1, if lat ((s.2.2.2.2.1 + max W 1) % 4294967296) o.2.2.1 = true then (s.2.2.2.2.1 + max W 1) % 4294967296 else o.2.2.1, o.2.2.2.1, if lat s.2.2.2.2.1 o.2.2.2.2.1 = true then s.2.2.2.2.1 else o.2.2.2.2.1, o.2.2.2.2.2.1, o.2.2.2.2.2.2) := by unfold bhO; rw [hW]
  have hPp : bhP p k s b0 b1 = (p.1, if lat (segE s b0 b1) p.2.1 = true then segE s b0 b1 else p.2.1, p.2.2.1, max p.2.2.2.1 W, p.2.2.2.2.1, p.2.2.2.2.2.1, if b0 = 1 then some (segE s b0 b1) else p.2.2.2.2.2.2) := by unfold bhP; rw [hW]
  have ii : ∀ (c : Prop) [Decidable c] (a b : Int), (if c then PyData.int a else PyData.int b) = PyData.int (if c then a else b) := fun c _ a b => by split <;> rfl
  simp only [ii]
  have hh : N32 (bhO o k s).2.2.2.2.1 := by
    rw [hO]; show N32 (if _ then _ else _); split; exact ha; exact ho.heard
  have hx := w_fst h
  unfold bhT
  rcases hb.h0 with rfl | rfl
  · rw [if_neg (by decide)]
    have z := e_bj3 hx (p := bhP p k s 0 b1) (o := bhO o k s) (Q := Q) (by rw [hPp]; exact hp.heard) hh (by rw [hPp]; intro f hf; exact hp.fin f (by simpa using hf)) (by rw [hO]; exact ho.fin)
    rw [← z, hPp, hO]
    simp
  · rw [if_pos (by decide)]
    have f1 : ∀ f, (bhP p k s 1 b1).2.2.2.2.2.2 = some f → N32 f := by
      rw [hPp]
      intro f hf
      have : some (segE s 1 b1) = some f := by simpa using hf
      cases this
      exact segE_ok _ _ _
    have z := e_bj3 hx (p := bhP p k s 1 b1) (o := bhO o k s) (Q := Q) (by rw [hPp]; exact hp.heard) hh f1 (by rw [hO]; exact ho.fin)
    rw [← z, hPp, hO]
    simp [eO]

/-- whether a segment is a first syn -/
def synB (t : Talk) (x : Int) (s : Seg) (b0 b1 b2 b4 : Int) : Bool := decide (x = 0) && (decide (b0 = 0) && decide (b1 = 1) && decide (b2 = 0) && decide (b4 = 0)) && decide (s.2.2.2.1 = t.2.1.1)
theorem e_syn {t : Talk} {x : Int} {s : Seg} {b0 b1 b2 b4 : Int} (hb : Bits s.2.2.2.2.2.1 b0 b1 b2 b4) {Q : Bool → Prop} : y__is_first_syn t x s Q ↔ Q (synB t x s b0 b1 b2 b4) := by
  unfold y__is_first_syn
  simp only [e_form hb, a_p]
  unfold synB
  rcases hb.h0 with rfl | rfl <;> rcases hb.h1 with rfl | rfl <;> rcases hb.h2 with rfl | rfl <;> rcases hb.h4 with rfl | rfl <;> simp
theorem e_rst {s : Seg} {b0 b1 b2 b4 : Int} (hb : Bits s.2.2.2.2.2.1 b0 b1 b2 b4) {Q : Bool → Prop} : y__is_rst s Q ↔ Q (decide (b2 = 1) && decide (b0 = 0) && decide (b1 = 0)) := by
  unfold y__is_rst
  simp only [e_form hb]
  rcases hb.h0 with rfl | rfl <;> rcases hb.h1 with rfl | rfl <;> rcases hb.h2 with rfl | rfl <;> rcases hb.h4 with rfl | rfl <;> simp
theorem e_ended {t : Talk} {Q : Str × Talk → Prop} : y__ended t Q ↔ Q (Str.ofString "fits", (Str.ofString "over", t.2.1, t.2.2)) := by unfold y__ended; exact Iff.rfl
theorem e_synack {t : Talk} {x : Int} {o : Side} {s : Seg} {b0 b1 b2 b4 ak : Int} (hb : Bits s.2.2.2.2.2.1 b0 b1 b2 b4) (h2 : t.2.2 = some o) {Q : Bool → Prop} : y__is_syn_ack t x s ak Q ↔ Q (decide (x = 1) && (decide (b0 = 0) && decide (b1 = 1) && decide (b2 = 0) && decide (b4 = 1)) && decide (s.2.2.2.1 = o.1) && decide (s.2.2.2.2.1 = ak)) := by
  unfold y__is_syn_ack
  simp only [e_form hb, h2, g_some, a_p]
  rcases hb.h0 with rfl | rfl <;> rcases hb.h1 with rfl | rfl <;> rcases hb.h2 with rfl | rfl <;> rcases hb.h4 with rfl | rfl <;> simp [and_f, and_t, Bool.and_assoc]
/-- in the open and closing states -/
def openR (t : Talk) (x : Int) (p o : Side) (k : Int) (s : Seg) (b0 b1 b2 b4 : Int) : Str × Talk :=
  if b1 = 1 then (if (synB t x s b0 b1 b2 b4 || (decide (x = 1) && (decide (b0 = 0) && decide (b1 = 1) && decide (b2 = 0) && decide (b4 = 1)) && decide (s.2.2.2.1 = p.1) && decide (s.2.2.2.2.1 = (t.2.1.1 + 1) % 4294967296))) = true then (Str.ofString "again", t) else (Str.ofString "state", t))
  else if wellB p o s b0 b1 b4 = false then (Str.ofString "window", t)
  else if b2 = 1 then (if (decide (s.2.2.2.1 = p.2.2.2.2.1) || decide (s.2.2.2.1 = p.2.1)) = true then (Str.ofString "fits", (Str.ofString "over", t.2.1, t.2.2)) else (Str.ofString "again", t))
  else (Str.ofString "fits", bhT x p o k s b0 b1)
theorem e_open {t : Talk} {x : Int} {p o : Side} {s : Seg} {b0 b1 b2 b4 k : Int} (h : Own t x p o) (hb : Bits s.2.2.2.2.2.1 b0 b1 b2 b4) (nodd : oddB s b0 b1 b2 b4 = false) (hk : p.2.2.2.2.2.1 = some k) (k0 : 0 ≤ k ∧ k ≤ 14) (hw : 0 ≤ s.2.2.2.2.2.2.1 ∧ s.2.2.2.2.2.2.1 < 65536) {Q : Str × Talk → Prop} :
    y__in_open t x s Q ↔ Q (openR t x p o k s b0 b1 b2 b4) := by
  unfold y__in_open
  have hs : ∀ G : Bool → Prop, y__is_syn_ack t x s (aft t.2.1.1 1) G ↔ G (decide (x = 1) && (decide (b0 = 0) && decide (b1 = 1) && decide (b2 = 0) && decide (b4 = 1)) && decide (s.2.2.2.1 = p.1) && decide (s.2.2.2.2.1 = (t.2.1.1 + 1) % 4294967296)) := by
    intro G
    rcases h with ⟨rfl, h1, h2⟩ | ⟨rfl, h1, h2⟩
    · rw [e_synack hb h2]; simp
    · rw [e_synack hb h2]; rfl
  simp only [own_1 h, e_syn hb, e_after, hs, o_p, e_well h hb, e_rst hb, e_taken h hb hk k0 hw, e_ended, hb.a2]
  unfold openR
  unfold oddB at nodd
  rcases hb.h1 with rfl | rfl
  · simp only [show ¬ ((0 : Int) = 1) by decide, if_false, decide_false, Bool.and_false, Bool.false_and, Bool.or_false, synB, Bool.false_eq_true, Int.mul_zero, decide_true, Bool.not_true] at nodd ⊢
    cases wellB p o s b0 0 b4
    · simp
    · simp only [Bool.not_true, Bool.false_eq_true, if_false, Bool.true_eq_false]
      rcases hb.h2 with rfl | rfl
      · simp
      · rcases hb.h0 with rfl | rfl
        · simp; split <;> simp_all
        · simp at nodd
  · simp only [show ¬ ((2 : Int) * 1 = 0) by decide, decide_false, Bool.not_false, if_true]
    split <;> rfl
theorem e_lj1 {t : Talk} {x : Int} {p o : Side} {s : Seg} {b0 b1 b2 b4 k : Int} (h : Own t x p o) (hb : Bits s.2.2.2.2.2.1 b0 b1 b2 b4) (hk : p.2.2.2.2.2.1 = some k) (k0 : 0 ≤ k ∧ k ≤ 14) (hp : SideOk p) (ho : SideOk o) (ha : N32 s.2.2.2.2.1) (z1 : b1 = 0) {Q : Str × Talk → Prop} :
    y__law_track_j1 t x s [b0, b1, b2, b4] s.2.2.2.1 Q ↔ Q (openR t x p o k s b0 b1 b2 b4) := by
  unfold y__law_track_j1
  simp only [e_lwell h hb, x_2, own_1 h, o_p, e_behind h hb hk k0 hp ho ha]
  unfold openR
  subst z1
  simp only [show ¬ ((0 : Int) = 1) by decide, if_false]
  cases wellB p o s b0 0 b4
  · simp
  · simp only [Bool.not_true, Bool.false_eq_true, if_false, Bool.true_eq_false]
    rcases hb.h2 with rfl | rfl
    · simp
    · simp only [decide_true, if_true]
      rw [Bool.or_comm]
def isO (t : Talk) : Prop := t.1 = Str.ofString "open" ∨ t.1 = Str.ofString "closing"
theorem sne1 : ¬ (Str.ofString "open" = Str.ofString "asked") := by decide +kernel
theorem sne2 : ¬ (Str.ofString "closing" = Str.ofString "asked") := by decide +kernel
theorem sne3 : ¬ (Str.ofString "open" = Str.ofString "answered") := by decide +kernel
theorem sne4 : ¬ (Str.ofString "closing" = Str.ofString "answered") := by decide +kernel
theorem sne5 : ¬ (Str.ofString "open" = Str.ofString "over") := by decide +kernel
theorem sne6 : ¬ (Str.ofString "closing" = Str.ofString "over") := by decide +kernel
theorem sne7 : ¬ (Str.ofString "answered" = Str.ofString "asked") := by decide +kernel
theorem sne8 : ¬ (Str.ofString "answered" = Str.ofString "over") := by decide +kernel
theorem sne9 : ¬ (Str.ofString "over" = Str.ofString "asked") := by decide +kernel
theorem sne10 : ¬ (Str.ofString "over" = Str.ofString "answered") := by decide +kernel
theorem isO_a {t : Talk} (h : isO t) : ¬ t.1 = Str.ofString "asked" := by rcases h with h | h <;> rw [h]; exact sne1; exact sne2
theorem isO_n {t : Talk} (h : isO t) : ¬ t.1 = Str.ofString "answered" := by rcases h with h | h <;> rw [h]; exact sne3; exact sne4
theorem isO_o {t : Talk} (h : isO t) : ¬ t.1 = Str.ofString "over" := by rcases h with h | h <;> rw [h]; exact sne5; exact sne6
theorem own_ne {t : Talk} {x : Int} {p o : Side} (h : Own t x p o) : t.2.2.isNone = false := by rcases h with ⟨_, _, h⟩ | ⟨_, _, h⟩ <;> rw [h] <;> rfl
/-- what law says of a segment that comes again -/
def knB (t : Talk) (x : Int) (p : Side) (s : Seg) (b1 b4 : Int) : Bool := (decide (s.2.2.2.1 = p.1) && (decide (b1 = 1) && decide (b4 = x))) && (decide (x = 0) || decide (s.2.2.2.2.1 = (t.2.1.1 + 1) % 4294967296))
theorem e_track {t : Talk} {x : Int} {p o : Side} {s : Seg} {b0 b1 b2 b4 k : Int} (h : Own t x p o) (hb : Bits s.2.2.2.2.2.1 b0 b1 b2 b4) (nodd : oddB s b0 b1 b2 b4 = false) (hk : p.2.2.2.2.2.1 = some k) (k0 : 0 ≤ k ∧ k ≤ 14) (hp : SideOk p) (ho : SideOk o) (ha : N32 s.2.2.2.2.1) (hst : isO t) {Q : Str × Talk → Prop} :
    y__law_track t x s Q ↔ Q (openR t x p o k s b0 b1 b2 b4) := by
  unfold y__law_track
  simp only [e_lodd hb, nodd, Bool.false_eq_true, if_false, isO_a hst, isO_n hst, isO_o hst, decide_false, e_lform hb, letT, own_ne h, Bool.not_false, and_t, own_1 h, x_1, x_3, a_p, e_mod, o_p]
  unfold oddB at nodd
  rcases hb.h1 with rfl | rfl
  · simp only [show ¬ ((0 : Int) = 1) by decide, decide_false, Bool.false_eq_true, if_false]
    exact e_lj1 h hb hk k0 hp ho ha rfl
  · simp only [decide_true, if_true, Bool.true_and]
    unfold openR synB
    simp only [if_true]
    rcases hb.h0 with rfl | rfl
    · rcases hb.h2 with rfl | rfl
      · rcases h with ⟨rfl, h1, h2⟩ | ⟨rfl, h1, h2⟩
        · rcases hb.h4 with rfl | rfl
          · subst h1; simp; split <;> rfl
          · simp
        · rcases hb.h4 with rfl | rfl
          · simp
          · simp [Bool.and_assoc]; split <;> simp_all
      · simp at nodd
    · simp at nodd
/-! a talk that was answered -/
theorem if_pair {α β : Type} {c : Prop} [Decidable c] {a b : α} {t : β} : ((if c then a else b), t) = if c then (a, t) else (b, t) := by split <;> rfl
def answR (t : Talk) (x : Int) (p o : Side) (k : Int) (s : Seg) (b0 b1 b2 b4 : Int) : Str × Talk :=
  if b1 = 1 then (if knB t x p s b1 b4 = true then (Str.ofString "again", t) else (Str.ofString "state", t))
  else if b2 = 1 then (if s.2.2.2.1 = p.2.1 then (Str.ofString "fits", (Str.ofString "over", t.2.1, t.2.2)) else (Str.ofString "state", t))
  else if (decide (x = 1) || !decide (s.2.2.2.2.1 = o.2.1)) = true then (Str.ofString "state", t)
  else openR t x p o k s b0 b1 b2 b4
theorem e_answ {t : Talk} {x : Int} {p o : Side} {s : Seg} {b0 b1 b2 b4 k : Int} (h : Own t x p o) (hb : Bits s.2.2.2.2.2.1 b0 b1 b2 b4) (nodd : oddB s b0 b1 b2 b4 = false) (hk : p.2.2.2.2.2.1 = some k) (k0 : 0 ≤ k ∧ k ≤ 14) (hw : 0 ≤ s.2.2.2.2.2.2.1 ∧ s.2.2.2.2.2.2.1 < 65536) (he : t.2.1.2.1 = (t.2.1.1 + 1) % 4294967296) {Q : Str × Talk → Prop} :
    y__in_answered t x s Q ↔ Q (answR t x p o k s b0 b1 b2 b4) := by
  unfold y__in_answered
  have hs : ∀ G : Bool → Prop, y__is_syn_ack t x s t.2.1.2.1 G ↔ G (decide (x = 1) && (decide (b0 = 0) && decide (b1 = 1) && decide (b2 = 0) && decide (b4 = 1)) && decide (s.2.2.2.1 = p.1) && decide (s.2.2.2.2.1 = (t.2.1.1 + 1) % 4294967296)) := by
    intro G
    rcases h with ⟨rfl, h1, h2⟩ | ⟨rfl, h1, h2⟩
    · rw [e_synack hb h2, he]; simp
    · rw [e_synack hb h2, he]
  simp only [e_syn hb, hs, o_p, e_rst hb, own_1 h, a_p, e_ended, e_form hb, e_open h hb nodd hk k0 hw]
  have hx := w_fst h
  have hc : ∀ G : Bool → Prop, andT (decide (x = 0)) (fun G => andT (decide (b0 + 2 * b1 + 4 * b2 + 16 * b4 ∈ [(16 : Int), 17])) (fun G => getT t.2.2 fun c => G (decide (s.2.2.2.2.1 = c.2.1))) fun v => G v) G ↔ G (decide (x = 0) && (decide (b1 = 0) && decide (b2 = 0) && decide (b4 = 1)) && decide (s.2.2.2.2.1 = o.2.1)) := by
    intro G
    rcases h with ⟨rfl, h1, h2⟩ | ⟨rfl, h1, h2⟩
    · rw [h2]
      rcases hb.h0 with rfl | rfl <;> rcases hb.h1 with rfl | rfl <;> rcases hb.h2 with rfl | rfl <;> rcases hb.h4 with rfl | rfl <;> simp [and_t, and_f, g_some]
    · simp [and_f]
  simp only [hc]
  unfold answR knB synB
  unfold oddB at nodd
  rcases hb.h1 with rfl | rfl
  · simp only [show ¬ ((0 : Int) = 1) by decide, decide_false, Bool.and_false, Bool.false_and, Bool.or_false, Bool.false_eq_true, if_false, decide_true, Bool.true_and, Bool.and_true] at nodd ⊢
    rcases hb.h2 with rfl | rfl
    · rcases hb.h4 with rfl | rfl
      · simp at nodd
      · rcases hx with rfl | rfl
        · by_cases c : s.2.2.2.2.1 = o.2.1 <;> simp [c]
        · simp
    · rcases hb.h0 with rfl | rfl
      · by_cases c : s.2.2.2.1 = p.2.1 <;> simp [c]
      · simp at nodd
  · simp only [decide_true, if_true, Bool.true_and]
    rcases hb.h0 with rfl | rfl
    · rcases hb.h2 with rfl | rfl
      · rcases h with ⟨rfl, h1, h2⟩ | ⟨rfl, h1, h2⟩
        · rcases hb.h4 with rfl | rfl
          · subst h1; by_cases c : s.2.2.2.1 = t.2.1.1 <;> simp [c]
          · simp
        · rcases hb.h4 with rfl | rfl
          · simp
          · by_cases c : s.2.2.2.1 = p.1 <;> by_cases d : s.2.2.2.2.1 = (t.2.1.1 + 1) % 4294967296 <;> simp [c, d]
      · simp at nodd
    · simp at nodd
theorem e_lansw {t : Talk} {x : Int} {p o : Side} {s : Seg} {b0 b1 b2 b4 k : Int} (h : Own t x p o) (hb : Bits s.2.2.2.2.2.1 b0 b1 b2 b4) (nodd : oddB s b0 b1 b2 b4 = false) (hk : p.2.2.2.2.2.1 = some k) (k0 : 0 ≤ k ∧ k ≤ 14) (hp : SideOk p) (ho : SideOk o) (ha : N32 s.2.2.2.2.1) (hst : t.1 = Str.ofString "answered") {Q : Str × Talk → Prop} :
    y__law_track t x s Q ↔ Q (answR t x p o k s b0 b1 b2 b4) := by
  unfold y__law_track
  simp only [e_lodd hb, nodd, Bool.false_eq_true, if_false, hst, sne7, sne8, decide_false, decide_true, if_true, e_lform hb, letT, own_ne h, Bool.not_false, and_t, own_1 h, x_1, x_2, x_3, a_p, e_mod, o_p]
  unfold answR knB
  rcases hb.h1 with rfl | rfl
  · simp only [show ¬ ((0 : Int) = 1) by decide, decide_false, Bool.false_eq_true, if_false]
    rcases hb.h2 with rfl | rfl
    · simp only [show ¬ ((0 : Int) = 1) by decide, decide_false, Bool.false_eq_true, if_false]
      have hx := w_fst h
      rcases hx with rfl | rfl
      · rcases h with ⟨_, h1, h2⟩ | ⟨z, _⟩
        · rw [h2]
          simp only [show ¬ ((0 : Int) = 1) by decide, decide_false, or_f, g_some, Bool.false_or]
          by_cases c : s.2.2.2.2.1 = o.2.1
          · simp only [c, decide_true, Bool.not_true, Bool.false_eq_true, if_false]
            exact e_lj1 (.inl ⟨rfl, h1, h2⟩) hb hk k0 hp ho ha rfl
          · simp [c]
        · cases z
      · simp [or_t]
    · simp only [decide_true, if_true]
      by_cases c : s.2.2.2.1 = p.2.1 <;> simp [c]
  · simp only [decide_true, if_true, Bool.true_and]
    rw [if_pair]

/-! a talk that is over -/
def overW (t : Talk) (x : Int) (s : Seg) (b0 b1 b2 b4 : Int) (w : Bool) : Str :=
  if (decide (x = 0) && (decide (b0 = 0) && decide (b1 = 1) && decide (b2 = 0) && decide (b4 = 0)) && lat s.2.2.2.1 t.2.1.2.1) = true then Str.ofString "new"
  else if (decide (b1 = 0) && (!t.2.2.isNone && w)) = true then Str.ofString "again" else Str.ofString "over"
theorem ne_nn {t : Talk} {x : Int} {p o : Side} (h : Own t x p o) : t.2.2.isNone = false := own_ne h
theorem e_over {t : Talk} {x : Int} {s : Seg} {b0 b1 b2 b4 : Int} {w : Bool} (hb : Bits s.2.2.2.2.2.1 b0 b1 b2 b4) (hw : t.2.2.isNone = false → ∀ G : Bool → Prop, y__lies_well t x s G ↔ G w) {Q : Str → Prop} : y__word_in_over t x s Q ↔ Q (overW t x s b0 b1 b2 b4 w) := by
  unfold y__word_in_over
  have hn : ∀ G : Bool → Prop, orT (t.2.2.isNone) (fun G => y__lies_well t x s fun v_5 => G (!v_5)) G ↔ G (!(!t.2.2.isNone && w)) := by
    intro G
    cases z : t.2.2.isNone with
    | true => simp [or_t]
    | false => rw [or_f, hw z]; simp
  simp only [e_form hb, e_later, a_p, hn, o_p, hb.a2]
  unfold overW
  have f2 : decide (b0 + 2 * b1 + 4 * b2 + 16 * b4 = 2) = (decide (b0 = 0) && decide (b1 = 1) && decide (b2 = 0) && decide (b4 = 0)) := by
    rcases hb.h0 with rfl | rfl <;> rcases hb.h1 with rfl | rfl <;> rcases hb.h2 with rfl | rfl <;> rcases hb.h4 with rfl | rfl <;> rfl
  have f1 : decide (2 * b1 = 0) = decide (b1 = 0) := by rcases hb.h1 with rfl | rfl <;> rfl
  rw [f1, f2, Bool.and_assoc (decide (x = 0))]
  generalize (decide (x = 0) && _) = A
  generalize decide (b1 = 0) = B
  generalize t.2.2.isNone = n
  cases A <;> cases B <;> cases n <;> cases w <;> exact Iff.rfl
theorem ok_s4 {b0 b1 b2 b4 : Int} {s : Seg} (hb : Bits s.2.2.2.2.2.1 b0 b1 b2 b4) {G : Bool → Prop} : eqT ((eL PyData.int) [b0, b1, b2, b4]) ((eL PyData.int) [(0 : Int), 1, 0, 0]) G ↔ G (decide (b0 = 0) && decide (b1 = 1) && decide (b2 = 0) && decide (b4 = 0)) := by
  unfold eqT
  rw [(knl hb).1, ok_syn, (knl hb).2.1]
  simp
theorem e_lover {t : Talk} {x : Int} {s : Seg} {b0 b1 b2 b4 : Int} {w : Bool} (hx : x = 0 ∨ x = 1) (hb : Bits s.2.2.2.2.2.1 b0 b1 b2 b4) (nodd : oddB s b0 b1 b2 b4 = false) (hw : t.2.2.isNone = false → ∀ G : Bool → Prop, y__law_well t x s G ↔ G w) (hst : t.1 = Str.ofString "over")
    (hc : t.2.2.isNone = false → ∃ p o, Own t x p o) {Q : Str × Talk → Prop} : y__law_track t x s Q ↔ Q (overW t x s b0 b1 b2 b4 w, t) := by
  unfold y__law_track
  have h1 : ∀ (z : D) (G : Bool → Prop), andT (!t.2.2.isNone) (fun G => ixT [z, (eSide t.2.1), ((eO eSide) t.2.2)] ((1 : Int) + x) fun v_4 => castT eSide v_4 fun c_1 => andT (decide (s.2.2.2.1 = c_1.1)) (fun G => ixT [b0, b1, b2, b4] (1 : Int) fun v_5 => andT (decide (v_5 = (1 : Int))) (fun G => ixT [b0, b1, b2, b4] (3 : Int) fun v_6 => G (decide (v_6 = x))) fun v_7 => G v_7) fun v_8 => G v_8) G ↔
      ∃ kn : Bool, G kn ∧ kn = (match t.2.2 with | none => false | some o => (decide (s.2.2.2.1 = (if x = 0 then t.2.1.1 else o.1)) && (decide (b1 = 1) && decide (b4 = x)))) := by
    intro z G
    cases e : t.2.2 with
    | none => simp [and_f]
    | some o =>
      obtain ⟨p, o', h⟩ := hc (by rw [e]; rfl)
      have hp : (if x = 0 then t.2.1.1 else o.1) = p.1 := by
        rcases h with ⟨rfl, h1, h2⟩ | ⟨rfl, h1, h2⟩
        · rw [if_pos rfl, h1]
        · rw [if_neg (by decide)]; rw [h2] at e; cases e; rfl
      have hl := own_1 h (z := z) (G := fun c_1 => andT (decide (s.2.2.2.1 = c_1.1)) (fun G => ixT [b0, b1, b2, b4] (1 : Int) fun v_5 => andT (decide (v_5 = (1 : Int))) (fun G => ixT [b0, b1, b2, b4] (3 : Int) fun v_6 => G (decide (v_6 = x))) fun v_7 => G v_7) fun v_8 => G v_8)
      rw [e] at hl
      rw [show (!(some o).isNone) = true from rfl, and_t]
      simp only [x_1, x_3, a_p] at hl ⊢
      rw [hl, hp]
      exact ⟨fun g => ⟨_, g, rfl⟩, fun ⟨_, g, e⟩ => e ▸ g⟩
  simp only [e_lodd hb, nodd, Bool.false_eq_true, if_false, hst, sne9, decide_false, decide_true, if_true, e_lform hb, letT, h1]
  simp only [e_mod, o_p, a_p, e_llater, ok_s4 hb, x_1]
  have hn : ∀ G : Bool → Prop, andT (decide (b1 = 0)) (fun G => andT (!t.2.2.isNone) (fun G => y__law_well t x s fun v_18 => G v_18) fun v_19 => G v_19) G ↔ G (decide (b1 = 0) && (!t.2.2.isNone && w)) := by
    intro G
    by_cases z1 : b1 = 0
    · rw [decide_eq_true z1, and_t, Bool.true_and]
      cases z : t.2.2.isNone with
      | true => simp [and_f]
      | false => rw [show (!false) = true from rfl, and_t, hw z]; simp
    · rw [decide_eq_false z1, and_f]; simp
  simp only [hn]
  unfold overW
  rw [Bool.and_assoc (decide (x = 0))]
  generalize (decide (x = 0) && _) = A
  generalize (decide (b1 = 0) && _) = B
  constructor
  · rintro ⟨kn, g, _⟩
    cases A <;> cases B <;> exact g
  · intro g
    refine ⟨_, ?_, rfl⟩
    cases A <;> cases B <;> exact g
/-! a talk that was asked for -/
def shp (a b : Option Int) : Option Int × Option Int := if (a.isNone || b.isNone) = true then (some 0, some 0) else (a, b)
def ansT (p : Side) (s : Seg) (sh : Option Int) : Talk :=
  (Str.ofString "answered", (p.1, p.2.1, (s.2.2.2.2.1 + max s.2.2.2.2.2.2.1 1) % 4294967296, p.2.2.2.1, s.2.2.2.2.1, (shp p.2.2.2.2.2.1 sh).1, none),
    some (s.2.2.2.1, (s.2.2.2.1 + 1) % 4294967296, (s.2.2.2.1 + 1 + p.2.2.2.1) % 4294967296, max s.2.2.2.2.2.2.1 1, s.2.2.2.1, (shp p.2.2.2.2.2.1 sh).2, none))
theorem mx_1 (w : Int) : (if 1 > w then (1 : Int) else w) = max w 1 := by omega
theorem e_answered {p : Side} {s : Seg} {sh : Option Int} (hf : p.2.2.2.2.2.2 = none) (hs : ∀ G : Option Int → Prop, G sh → y_shift_of s.2.2.2.2.2.2.2.2.1 G) {Q : Talk → Prop} (q : Q (ansT p s sh)) : y__answered p s Q := by
  have j : ∀ a b : Option Int, (a, b) = shp p.2.2.2.2.2.1 sh → y__answered_j1 p s.2.2.2.1 s.2.2.2.2.1 (max s.2.2.2.2.2.2.1 1) Q a b := by
    intro a b e
    unfold y__answered_j1
    simp only [e_after, letT, hf]
    have e2 : aft (aft s.2.2.2.1 1) p.2.2.2.1 = (s.2.2.2.1 + 1 + p.2.2.2.1) % 4294967296 := by unfold aft; omega
    rw [e2]
    unfold ansT at q
    rw [← e] at q
    exact q
  unfold y__answered
  simp only [letT, e_width, mx_1]
  refine hs _ ?_
  unfold shp at j
  split
  · rename_i c; exact j _ _ (by rw [if_pos c])
  · rename_i c; exact j _ _ (by rw [if_neg c])
def askR (t : Talk) (x : Int) (s : Seg) (b0 b1 b2 b4 : Int) (sh : Option Int) : Str × Talk :=
  if x = 0 then
    if b2 = 0 then (if ((decide (b0 = 0) && decide (b1 = 1) && decide (b2 = 0) && decide (b4 = 0)) && decide (s.2.2.2.1 = t.2.1.1)) = true then (Str.ofString "again", t) else (Str.ofString "state", t))
    else if s.2.2.2.1 = t.2.1.2.1 then (Str.ofString "fits", (Str.ofString "over", t.2.1, none)) else (Str.ofString "state", t)
  else if (decide (b4 = 0) || (!decide (s.2.2.2.2.1 = t.2.1.2.1) || (decide (b1 = 0) && decide (b2 = 0)))) = true then (Str.ofString "state", t)
  else if b2 = 1 then (Str.ofString "fits", (Str.ofString "over", t.2.1, none))
  else (Str.ofString "fits", ansT t.2.1 s sh)
theorem e_asked {t : Talk} {x : Int} {s : Seg} {b0 b1 b2 b4 : Int} {sh : Option Int} (hx : x = 0 ∨ x = 1) (hb : Bits s.2.2.2.2.2.1 b0 b1 b2 b4) (nodd : oddB s b0 b1 b2 b4 = false) (hn : t.2.2 = none) (hf : t.2.1.2.2.2.2.2.2 = none)
    (hs : ∀ G : Option Int → Prop, G sh → y_shift_of s.2.2.2.2.2.2.2.2.1 G) {Q : Str × Talk → Prop} (q : Q (askR t x s b0 b1 b2 b4 sh)) : y__in_asked t x s Q := by
  unfold y__in_asked
  simp only [letT, e_form hb, e_syn hb, e_rst hb, a_p, e_ended, hn]
  unfold askR at q
  unfold synB
  unfold oddB at nodd
  have an : ∀ G : Talk → Prop, G (ansT t.2.1 s sh) → y__answered t.2.1 s G := fun G g => e_answered hf hs g
  rcases hx with rfl | rfl
  · rcases hb.h0 with rfl | rfl <;> rcases hb.h1 with rfl | rfl <;> rcases hb.h2 with rfl | rfl <;> rcases hb.h4 with rfl | rfl <;> simp at nodd q ⊢ <;> (first | done | exact q | (revert q; split <;> simp_all))
  · rcases hb.h0 with rfl | rfl <;> rcases hb.h1 with rfl | rfl <;> rcases hb.h2 with rfl | rfl <;> rcases hb.h4 with rfl | rfl <;> simp at nodd q ⊢ <;> (first | done | exact q | (by_cases c : s.2.2.2.2.1 = t.2.1.2.1 <;> simp [c] at q ⊢ <;> first | exact q | exact an _ q))
theorem e_lasked {t : Talk} {x : Int} {s : Seg} {b0 b1 b2 b4 : Int} {sh : Option Int} (hx : x = 0 ∨ x = 1) (hb : Bits s.2.2.2.2.2.1 b0 b1 b2 b4) (nodd : oddB s b0 b1 b2 b4 = false) (hf : t.2.1.2.2.2.2.2.2 = none) (hst : t.1 = Str.ofString "asked")
    (hs : ∀ G : Option Int → Prop, G sh → y__law_shift s.2.2.2.2.2.2.2.2.1 G) {Q : Str × Talk → Prop} (q : Q (askR t x s b0 b1 b2 b4 sh)) : y__law_track t x s Q := by
  unfold y__law_track
  simp only [e_lodd hb, nodd, Bool.false_eq_true, if_false, hst, decide_true, if_true]
  unfold y__law_asked
  simp only [letT, e_lform hb, x_1, x_2, x_3, a_p, o_p, ok_s4 hb]
  unfold askR at q
  have an : ∀ G : Str × Talk → Prop, G (Str.ofString "fits", ansT t.2.1 s sh) → y__law_shift s.2.2.2.2.2.2.2.2.1 (fun two_1 => if ((t.2.1.2.2.2.2.2.1.isNone) || (two_1.isNone)) = true then y__law_asked_j1 t.2.1 ([b0, b1, b2, b4], s.2.2.2.1, s.2.2.2.2.1, (if (1 : Int) > s.2.2.2.2.2.2.1 then (1 : Int) else s.2.2.2.2.2.2.1)) G (some 0) (some 0) else y__law_asked_j1 t.2.1 ([b0, b1, b2, b4], s.2.2.2.1, s.2.2.2.2.1, (if (1 : Int) > s.2.2.2.2.2.2.1 then (1 : Int) else s.2.2.2.2.2.2.1)) G t.2.1.2.2.2.2.2.1 two_1) := by
    intro G g
    have j : ∀ a b : Option Int, (a, b) = shp t.2.1.2.2.2.2.2.1 sh → y__law_asked_j1 t.2.1 ([b0, b1, b2, b4], s.2.2.2.1, s.2.2.2.2.1, (if (1 : Int) > s.2.2.2.2.2.2.1 then (1 : Int) else s.2.2.2.2.2.2.1)) G a b := by
      intro a b e
      unfold y__law_asked_j1
      simp only [e_mod, letT, mx_1]
      unfold ansT at g
      rw [← e] at g
      exact g
    refine hs _ ?_
    unfold shp at j
    split
    · rename_i c; exact j _ _ (by rw [if_pos c])
    · rename_i c; exact j _ _ (by rw [if_neg c])
  rcases hx with rfl | rfl
  · simp only [if_true, decide_true, Bool.true_and] at q ⊢
    rcases hb.h2 with rfl | rfl
    · simp only [decide_true, if_true] at q ⊢
      revert q
      split <;> exact id
    · simp only [show ¬ ((1 : Int) = 0) by decide, decide_false, Bool.false_eq_true, if_false] at q ⊢
      by_cases c : s.2.2.2.1 = t.2.1.2.1
      · simp only [c, decide_true, if_true] at q ⊢; exact q
      · simp only [c, decide_false, Bool.false_eq_true, if_false] at q ⊢; exact q
  · simp only [show ¬ ((1 : Int) = 0) by decide, decide_false, Bool.false_and, Bool.false_eq_true, if_false] at q ⊢
    by_cases c : (decide (b4 = 0) || (!decide (s.2.2.2.2.1 = t.2.1.2.1) || (decide (b1 = 0) && decide (b2 = 0)))) = true
    · rw [if_pos c] at q ⊢; exact q
    · rw [if_neg c] at q ⊢
      by_cases d : b2 = 1
      · simp only [d, decide_true, if_true] at q ⊢; exact q
      · simp only [d, decide_false, Bool.false_eq_true, if_false] at q ⊢
        exact an _ q
/-! shifts -/
theorem x_get {xs : List Int} {i : Int} (h0 : 0 ≤ i) (h1 : i < xs.length) {G : Int → Prop} : ixT xs i G ↔ G (xs.getD i.toNat 0) := by
  have hl : i.toNat < xs.length := by omega
  refine x_lit h0 ?_
  rw [List.getD_eq_getElem?_getD, List.getElem?_eq_getElem hl]
  rfl
def lsh (o : List Int) : List Int → Option Int
  | [] => none
  | k :: r => if (decide (o.getD k.toNat 0 = 3) && decide (o.getD (k + 1).toNat 0 = 3)) = true then some (if (14 : Int) < o.getD (k + 2).toNat 0 then 14 else o.getD (k + 2).toNat 0) else lsh o r
theorem e_lsh {o : List Int} {Q : Option Int → Prop} : ∀ {ks : List Int}, (∀ k ∈ ks, 0 ≤ k ∧ k + 2 < o.length) → (y__law_shift_l1 o Q (Q none) ks ↔ Q (lsh o ks))
  | [], _ => by unfold y__law_shift_l1 lsh; exact Iff.rfl
  | k :: r, h => by
    have hk := h k List.mem_cons_self
    have ih := e_lsh (o := o) (Q := Q) (ks := r) fun k' h' => h k' (List.mem_cons_of_mem _ h')
    unfold y__law_shift_l1 lsh
    simp only [x_get hk.1 (show k < o.length by omega), x_get (show 0 ≤ k + 1 by omega) (show k + 1 < o.length by omega), x_get (show 0 ≤ k + 2 by omega) (show k + 2 < o.length by omega), a_p, ih]
    split <;> exact Iff.rfl
theorem mem_rng {lo : Int} {n : Nat} {k : Int} (h : k ∈ rngT lo n) : lo ≤ k ∧ k < lo + n := by
  unfold rngT at h
  obtain ⟨i, hi, rfl⟩ := List.mem_map.mp h
  have := List.mem_range.mp hi
  omega
def shL (o : List Int) : Option Int := lsh o (rngT 0 ((o.length : Int) - 2).toNat)
theorem e_lshift {o : List Int} (ho : o.length ≤ 1000) {Q : Option Int → Prop} : y__law_shift o Q ↔ Q (shL o) := by
  unfold y__law_shift shL
  rw [e_lsh fun k hk => by have := mem_rng hk; omega]
  exact ⟨fun h => h.2, fun h => ⟨⟨by omega, by omega⟩, h⟩⟩
def lnA (o : List Int) (a : Int) : Option Int :=
  if o.getD a.toNat 0 = 1 then some 1 else if a + 1 = (o.length : Int) then none
  else if (decide (o.getD (a + 1).toNat 0 < 2) || decide ((o.length : Int) < a + o.getD (a + 1).toNat 0)) = true then none else some (o.getD (a + 1).toNat 0)
theorem e_len {o : List Int} {a : Int} (h0 : 0 ≤ a) (h1 : a < o.length) {Q : Option Int → Prop} : y__length_at o a Q ↔ Q (lnA o a) := by
  unfold y__length_at lnA
  simp only [x_get h0 h1, decide_eq_true_eq]
  by_cases c : o.getD a.toNat 0 = 1
  · rw [if_pos c, if_pos c]
  · rw [if_neg c, if_neg c]
    by_cases d : a + 1 = (o.length : Int)
    · rw [if_pos d, if_pos d]
    · rw [if_neg d, if_neg d]
      simp only [x_get (show 0 ≤ a + 1 by omega) (show a + 1 < o.length by omega)]
      split <;> exact Iff.rfl
theorem ln_ok {o : List Int} {a l : Int} (h1 : a < o.length) (h : lnA o a = some l) : 1 ≤ l ∧ a + l ≤ o.length := by
  unfold lnA at h
  split at h
  · cases h; omega
  · split at h
    · cases h
    · split at h
      · cases h
      · rename_i c
        cases h
        simp only [Bool.or_eq_true, decide_eq_true_eq, not_or] at c
        omega
def gsh (o : List Int) : Nat → Int → Option Int
  | 0, _ => none
  | n + 1, a => if a < (o.length : Int) ∧ o.getD a.toNat 0 ≠ 0 then (match lnA o a with
      | none => none
      | some l => if o.getD a.toNat 0 = 3 ∧ l = 3 then some (if (14 : Int) < o.getD (a + 2).toNat 0 then 14 else o.getD (a + 2).toNat 0) else gsh o n (a + l)) else none
theorem e_shift {o : List Int} {Q : Option Int → Prop} (q : Q (gsh o (o.length + 1) 0)) : y_shift_of o Q := by
  unfold y_shift_of
  simp only [letT]
  unfold y_shift_of_w1
  generalize hR : gsh o (o.length + 1) 0 = R at q
  refine ⟨fun m a => 0 ≤ a ∧ (o.length : Int) + 1 ≤ a + m ∧ gsh o m a = R, ⟨o.length + 1, by omega, by omega, hR⟩, fun m a hm => ?_⟩
  obtain ⟨h0, h1, h2⟩ := hm
  unfold y_shift_of_w1_b
  by_cases c : a < (o.length : Int)
  · rw [decide_eq_true c, and_t]
    simp only [x_get h0 c]
    cases m with
    | zero => omega
    | succ m =>
      unfold gsh at h2
      by_cases d : o.getD a.toNat 0 = 0
      · rw [if_neg fun z => z.2 d] at h2
        rw [d]
        simp only [decide_true, Bool.not_true, Bool.false_eq_true, if_false]
        rw [← h2] at q
        exact q
      · rw [if_pos ⟨c, d⟩] at h2
        simp only [d, decide_false, Bool.not_false, if_true, e_len h0 c]
        cases e : lnA o a with
        | none =>
          rw [e] at h2
          simp only [Option.isNone_none, if_true]
          rw [← h2] at q
          exact q
        | some l =>
          rw [e] at h2
          have hl := ln_ok c e
          simp only [Option.isNone_some, Bool.false_eq_true, if_false, Option.some.injEq, g_some, letT]
          by_cases f : o.getD a.toNat 0 = 3 ∧ l = 3
          · simp only [if_pos f] at h2
            rw [if_pos (by rw [decide_eq_true f.1, decide_eq_true f.2]; rfl)]
            rw [x_get (by omega) (by omega)]
            rw [← h2] at q
            exact q
          · simp only [if_neg f] at h2
            rw [if_neg (by simpa using f)]
            exact ⟨m, by omega, by omega, by omega, h2⟩
  · rw [decide_eq_false c, and_f]
    simp only [Bool.false_eq_true, if_false]
    cases m with
    | zero => unfold gsh at h2; rw [← h2] at q; exact q
    | succ m =>
      unfold gsh at h2
      rw [if_neg fun z => c z.1] at h2
      rw [← h2] at q
      exact q
def optOf (f : Nat) (v : Int) : List Int := List.replicate f 1 ++ [3, 3, v] ++ List.replicate ((-((f : Int) + 3)) % 4).toNat 1
def optL : List (List Int) := [] :: (List.range 6).flatMap fun f => [(0 : Int), 1, 2, 7, 13, 14, 15, 255].map (optOf f)
theorem opt_all : ∀ o ∈ optL, o.length ≤ 12 ∧ gsh o (o.length + 1) 0 = shL o ∧ (∀ v, shL o = some v → 0 ≤ v ∧ v ≤ 14) ∧ ∀ x ∈ o, 0 ≤ x ∧ x ≤ 255 := by
  have h : (optL.all fun o => decide (o.length ≤ 12) && (gsh o (o.length + 1) 0 == shL o) && ((shL o).all fun v => decide (0 ≤ v) && decide (v ≤ 14)) && o.all fun x => decide (0 ≤ x) && decide (x ≤ 255)) = true := by decide +kernel
  intro o ho
  have z := List.all_eq_true.mp h o ho
  simp only [Bool.and_eq_true, decide_eq_true_eq, beq_iff_eq, List.all_eq_true] at z
  refine ⟨z.1.1.1, z.1.1.2, fun v hv => ?_, z.2⟩
  have := z.1.2
  rw [hv] at this
  simpa using this

/-! what holds of talks and segments -/
structure SegOk (s : Seg) : Prop where
  kind : s.1 = Str.ofString "tcp"
  p1 : 0 ≤ s.2.1 ∧ s.2.1 < 65536
  p2 : 0 ≤ s.2.2.1 ∧ s.2.2.1 < 65536
  seq : N32 s.2.2.2.1
  ack : N32 s.2.2.2.2.1
  fl : 0 ≤ s.2.2.2.2.2.1 ∧ s.2.2.2.2.2.1 < 256
  win : 0 ≤ s.2.2.2.2.2.2.1 ∧ s.2.2.2.2.2.2.1 < 65536
  ur : 0 ≤ s.2.2.2.2.2.2.2.1 ∧ s.2.2.2.2.2.2.2.1 < 2
  op : s.2.2.2.2.2.2.2.2.1 ∈ optL
  da : ∃ n : Nat, n ≤ 1000 ∧ s.2.2.2.2.2.2.2.2.2 = List.replicate n 7
def stAll (z : Str) : Prop := z = Str.ofString "asked" ∨ z = Str.ofString "answered" ∨ z = Str.ofString "open" ∨ z = Str.ofString "closing" ∨ z = Str.ofString "over"
structure TOk (t : Talk) : Prop where
  a : SideOk t.2.1
  b : ∀ o, t.2.2 = some o → SideOk o
  st : stAll t.1
  ask : t.1 = Str.ofString "asked" → t.2.2 = none ∧ t.2.1.2.2.2.2.2.2 = none ∧ t.2.1.2.1 = (t.2.1.1 + 1) % 4294967296
  ans : t.1 = Str.ofString "answered" → t.2.1.2.1 = (t.2.1.1 + 1) % 4294967296
  two : t.1 ≠ Str.ofString "asked" → t.1 ≠ Str.ofString "over" → ∃ o k1 k2, t.2.2 = some o ∧ t.2.1.2.2.2.2.2.1 = some k1 ∧ o.2.2.2.2.2.1 = some k2
theorem m32 (a : Int) : N32 (a % 4294967296) := ⟨Int.emod_nonneg _ (by decide), Int.emod_lt_of_pos _ (by decide)⟩
theorem n_if {c : Prop} [Decidable c] {a b : Int} (ha : N32 a) (hb : N32 b) : N32 (if c then a else b) := by split; exact ha; exact hb
theorem p2k {w k : Int} (hw : 0 ≤ w ∧ w < 65536) (hk : 0 ≤ k ∧ k ≤ 14) : 0 ≤ w * 2 ^ k.toNat ∧ w * 2 ^ k.toNat < 1073741824 := by
  have h1 : (2 : Nat) ^ k.toNat ≤ 2 ^ 14 := Nat.pow_le_pow_right (by decide) (by omega)
  have e : ((2 ^ k.toNat : Nat) : Int) = (2 : Int) ^ k.toNat := by simp
  have h2 : (2 : Int) ^ k.toNat ≤ 16384 := by rw [← e]; omega
  have h3 : (0 : Int) ≤ 2 ^ k.toNat := by rw [← e]; exact Int.natCast_nonneg _
  refine ⟨Int.mul_nonneg hw.1 h3, ?_⟩
  have h4 : w * 2 ^ k.toNat ≤ w * 16384 := Int.mul_le_mul_of_nonneg_left h2 hw.1
  omega
theorem bhP_ok {p : Side} {k : Int} {s : Seg} {b0 b1 : Int} (hp : SideOk p) (hk : 0 ≤ k ∧ k ≤ 14) (hs : SegOk s) : SideOk (bhP p k s b0 b1) := by
  have w := p2k hs.win hk
  refine ⟨hp.st, n_if (segE_ok _ _ _) hp.en, hp.top, ?_, hp.heard, hp.sh, ?_⟩
  · show 0 ≤ max _ _ ∧ max _ _ < _
    have := hp.wide
    omega
  · intro f hf
    have hf' : (if b0 = 1 then some (segE s b0 b1) else p.2.2.2.2.2.2) = some f := hf
    split at hf'
    · cases hf'; exact segE_ok _ _ _
    · exact hp.fin f hf'
theorem bhO_ok {o : Side} {k : Int} {s : Seg} (ho : SideOk o) (hs : SegOk s) : SideOk (bhO o k s) :=
  ⟨ho.st, ho.en, n_if (m32 _) ho.top, ho.wide, n_if hs.ack ho.heard, ho.sh, ho.fin⟩
theorem stOf_all (p o : Side) : stOf p o = Str.ofString "open" ∨ stOf p o = Str.ofString "closing" ∨ stOf p o = Str.ofString "over" := by
  unfold stOf
  split
  · exact .inl rfl
  · split
    · exact .inr (.inr rfl)
    · exact .inr (.inl rfl)
theorem bhT_ok {t : Talk} {x : Int} {p o : Side} {k k2 : Int} {s : Seg} {b0 b1 : Int} (h : Own t x p o) (hp : SideOk p) (ho : SideOk o) (hk : p.2.2.2.2.2.1 = some k) (hk2 : o.2.2.2.2.2.1 = some k2) (hs : SegOk s) : TOk (bhT x p o k s b0 b1) := by
  have kb := hp.sh k hk
  have P1 := bhP_ok (b0 := b0) (b1 := b1) hp kb hs
  have O1 := bhO_ok (k := k) ho hs
  have z := stOf_all (bhP p k s b0 b1) (bhO o k s)
  have na : (bhT x p o k s b0 b1).1 ≠ Str.ofString "asked" := by
    show stOf _ _ ≠ _
    rcases z with z | z | z <;> rw [z]
    · exact sne1
    · exact sne2
    · exact sne9
  have nn : (bhT x p o k s b0 b1).1 ≠ Str.ofString "answered" := by
    show stOf _ _ ≠ _
    rcases z with z | z | z <;> rw [z]
    · exact sne3
    · exact sne4
    · exact sne10
  refine ⟨?_, ?_, ?_, fun e => absurd e na, fun e => absurd e nn, fun _ _ => ?_⟩
  · show SideOk (if x = 0 then _ else _)
    split; exact P1; exact O1
  · intro o' e
    have e' : (if x = 0 then bhO o k s else bhP p k s b0 b1) = o' := Option.some.inj e
    rw [← e']
    split; exact O1; exact P1
  · rcases z with z | z | z
    · exact .inr (.inr (.inl z))
    · exact .inr (.inr (.inr (.inl z)))
    · exact .inr (.inr (.inr (.inr z)))
  · rcases w_fst h with rfl | rfl
    · exact ⟨_, k, k2, rfl, hk, hk2⟩
    · exact ⟨_, k2, k, rfl, hk2, hk⟩
theorem over_ok {t : Talk} {z : Option Side} (h : TOk t) (hz : z = t.2.2 ∨ z = none) : TOk (Str.ofString "over", t.2.1, z) :=
  ⟨h.a, fun o e => (by rcases hz with rfl | rfl; exact h.b o e; cases e), .inr (.inr (.inr (.inr rfl))), fun e => absurd e sne9, fun e => absurd e sne10, fun _ e => absurd rfl e⟩
theorem ansT_ok {t : Talk} {s : Seg} {sh : Option Int} (h : TOk t) (hst : t.1 = Str.ofString "asked") (hs : SegOk s) (hsh : ∀ v, sh = some v → 0 ≤ v ∧ v ≤ 14) : TOk (ansT t.2.1 s sh) := by
  have ha := h.ask hst
  have hw := hs.win
  have k12 : ∃ k1 k2, (shp t.2.1.2.2.2.2.2.1 sh).1 = some k1 ∧ (shp t.2.1.2.2.2.2.2.1 sh).2 = some k2 ∧ (0 ≤ k1 ∧ k1 ≤ 14) ∧ (0 ≤ k2 ∧ k2 ≤ 14) := by
    unfold shp
    split
    · exact ⟨0, 0, rfl, rfl, by omega, by omega⟩
    · rename_i c
      cases e1 : t.2.1.2.2.2.2.2.1 with
      | none => rw [e1] at c; simp at c
      | some a =>
        cases e2 : sh with
        | none => rw [e2] at c; simp at c
        | some b => exact ⟨a, b, rfl, rfl, h.a.sh a e1, hsh b e2⟩
  obtain ⟨k1, k2, e1, e2, b1, b2⟩ := k12
  refine ⟨⟨h.a.st, h.a.en, m32 _, h.a.wide, hs.ack, ?_, fun f e => by cases e⟩, ?_, .inr (.inl rfl), fun e => absurd e sne7, fun _ => ha.2.2, fun _ _ => ⟨_, k1, k2, rfl, e1, e2⟩⟩
  · intro k e
    have : (shp t.2.1.2.2.2.2.2.1 sh).1 = some k := e
    rw [e1] at this; cases this; exact b1
  · intro o e
    have e' := Option.some.inj e
    rw [← e']
    refine ⟨hs.seq, m32 _, m32 _, ?_, hs.seq, ?_, fun f e => by cases e⟩
    · show 0 ≤ max _ _ ∧ max _ _ < _
      omega
    · intro k e
      have : (shp t.2.1.2.2.2.2.2.1 sh).2 = some k := e
      rw [e2] at this; cases this; exact b2
/-- one segment: both tell the same -/
theorem step {t : Talk} {x : Int} {s : Seg} (h : TOk t) (hx : x = 0 ∨ x = 1) (hs : SegOk s) : ∃ r : Str × Talk, (∀ Q : Str × Talk → Prop, Q r → y_tracked t x s Q) ∧ (∀ Q : Str × Talk → Prop, Q r → y__law_track t x s Q) ∧ TOk r.2 ∧
    (r.1 = Str.ofString "odd" ∨ r.1 = Str.ofString "again" ∨ r.1 = Str.ofString "state" ∨ r.1 = Str.ofString "fits" ∨ r.1 = Str.ofString "window" ∨ r.1 = Str.ofString "new" ∨ r.1 = Str.ofString "over") := by
  obtain ⟨b0, b1, b2, b4, hb⟩ := bits hs.fl.1 hs.fl.2
  cases od : oddB s b0 b1 b2 b4 with
  | true =>
    refine ⟨(Str.ofString "odd", t), fun Q q => ?_, fun Q q => ?_, h, .inl rfl⟩
    · unfold y_tracked; simp only [letT, e_odd hb, od, if_true]; exact q
    · unfold y__law_track; simp only [e_lodd hb, od, if_true]; exact q
  | false =>
    have two : t.1 ≠ Str.ofString "asked" → t.1 ≠ Str.ofString "over" → ∃ p o k1 k2, Own t x p o ∧ SideOk p ∧ SideOk o ∧ p.2.2.2.2.2.1 = some k1 ∧ o.2.2.2.2.2.1 = some k2 := by
      intro n1 n2
      obtain ⟨o, k1, k2, e1, e2, e3⟩ := h.two n1 n2
      rcases hx with rfl | rfl
      · exact ⟨t.2.1, o, k1, k2, .inl ⟨rfl, rfl, e1⟩, h.a, h.b o e1, e2, e3⟩
      · exact ⟨o, t.2.1, k2, k1, .inr ⟨rfl, rfl, e1⟩, h.b o e1, h.a, e3, e2⟩
    have opn : ∀ p o k k2, Own t x p o → SideOk p → SideOk o → p.2.2.2.2.2.1 = some k → o.2.2.2.2.2.1 = some k2 → TOk (openR t x p o k s b0 b1 b2 b4).2 ∧ ((openR t x p o k s b0 b1 b2 b4).1 = Str.ofString "again" ∨ (openR t x p o k s b0 b1 b2 b4).1 = Str.ofString "state" ∨ (openR t x p o k s b0 b1 b2 b4).1 = Str.ofString "fits" ∨ (openR t x p o k s b0 b1 b2 b4).1 = Str.ofString "window") := by
      intro p o k k2 ho hp hoo e1 e2
      unfold openR
      split
      · split
        · exact ⟨h, .inl rfl⟩
        · exact ⟨h, .inr (.inl rfl)⟩
      · split
        · exact ⟨h, .inr (.inr (.inr rfl))⟩
        · split
          · split
            · exact ⟨over_ok h (.inl rfl), .inr (.inr (.inl rfl))⟩
            · exact ⟨h, .inl rfl⟩
          · exact ⟨bhT_ok ho hp hoo e1 e2 hs, .inr (.inr (.inl rfl))⟩
    rcases h.st with st | st | st | st | st
    · -- asked
      have ha := h.ask st
      have oo := opt_all _ hs.op
      have s1 : ∀ G : Option Int → Prop, G (shL s.2.2.2.2.2.2.2.2.1) → y_shift_of s.2.2.2.2.2.2.2.2.1 G := fun G g => e_shift (by rw [oo.2.1]; exact g)
      have s2 : ∀ G : Option Int → Prop, G (shL s.2.2.2.2.2.2.2.2.1) → y__law_shift s.2.2.2.2.2.2.2.2.1 G := fun G g => (e_lshift (by have := oo.1; omega)).mpr g
      refine ⟨askR t x s b0 b1 b2 b4 (shL s.2.2.2.2.2.2.2.2.1), fun Q q => ?_, fun Q q => e_lasked hx hb od ha.2.1 st s2 q, ?_⟩
      · unfold y_tracked
        simp only [letT, e_odd hb, od, Bool.false_eq_true, if_false, st, decide_true, if_true]
        exact e_asked hx hb od ha.1 ha.2.1 s1 q
      · unfold askR
        split
        · split
          · split
            · exact ⟨h, .inr (.inl rfl)⟩
            · exact ⟨h, .inr (.inr (.inl rfl))⟩
          · split
            · exact ⟨over_ok h (.inr rfl), .inr (.inr (.inr (.inl rfl)))⟩
            · exact ⟨h, .inr (.inr (.inl rfl))⟩
        · split
          · exact ⟨h, .inr (.inr (.inl rfl))⟩
          · split
            · exact ⟨over_ok h (.inr rfl), .inr (.inr (.inr (.inl rfl)))⟩
            · exact ⟨ansT_ok h st hs oo.2.2.1, .inr (.inr (.inr (.inl rfl)))⟩
    · -- answered
      obtain ⟨p, o, k, k2, ho, hp, hoo, e1, e2⟩ := two (by rw [st]; exact sne7) (by rw [st]; exact sne8)
      refine ⟨answR t x p o k s b0 b1 b2 b4, fun Q q => ?_, fun Q q => (e_lansw ho hb od e1 (hp.sh k e1) hp hoo hs.ack st).mpr q, ?_⟩
      · unfold y_tracked
        simp only [letT, e_odd hb, od, Bool.false_eq_true, if_false, st, sne7, decide_false, decide_true, if_true]
        exact (e_answ ho hb od e1 (hp.sh k e1) hs.win (h.ans st)).mpr q
      · unfold answR
        split
        · split
          · exact ⟨h, .inr (.inl rfl)⟩
          · exact ⟨h, .inr (.inr (.inl rfl))⟩
        · split
          · split
            · exact ⟨over_ok h (.inl rfl), .inr (.inr (.inr (.inl rfl)))⟩
            · exact ⟨h, .inr (.inr (.inl rfl))⟩
          · split
            · exact ⟨h, .inr (.inr (.inl rfl))⟩
            · have z := opn p o k k2 ho hp hoo e1 e2
              exact ⟨z.1, by rcases z.2 with z | z | z | z <;> simp [z]⟩
    · obtain ⟨p, o, k, k2, ho, hp, hoo, e1, e2⟩ := two (by rw [st]; exact sne1) (by rw [st]; exact sne5)
      refine ⟨openR t x p o k s b0 b1 b2 b4, fun Q q => ?_, fun Q q => (e_track ho hb od e1 (hp.sh k e1) hp hoo hs.ack (.inl st)).mpr q, ?_⟩
      · unfold y_tracked
        simp only [letT, e_odd hb, od, Bool.false_eq_true, if_false, st, sne1, sne3, sne5, decide_false]
        exact (e_open ho hb od e1 (hp.sh k e1) hs.win).mpr q
      · have z := opn p o k k2 ho hp hoo e1 e2
        exact ⟨z.1, by rcases z.2 with z | z | z | z <;> simp [z]⟩
    · obtain ⟨p, o, k, k2, ho, hp, hoo, e1, e2⟩ := two (by rw [st]; exact sne2) (by rw [st]; exact sne6)
      refine ⟨openR t x p o k s b0 b1 b2 b4, fun Q q => ?_, fun Q q => (e_track ho hb od e1 (hp.sh k e1) hp hoo hs.ack (.inr st)).mpr q, ?_⟩
      · unfold y_tracked
        simp only [letT, e_odd hb, od, Bool.false_eq_true, if_false, st, sne2, sne4, sne6, decide_false]
        exact (e_open ho hb od e1 (hp.sh k e1) hs.win).mpr q
      · have z := opn p o k k2 ho hp hoo e1 e2
        exact ⟨z.1, by rcases z.2 with z | z | z | z <;> simp [z]⟩
    · -- over
      have hc : t.2.2.isNone = false → ∃ p o, Own t x p o := by
        intro z
        cases e : t.2.2 with
        | none => rw [e] at z; cases z
        | some o =>
          rcases hx with rfl | rfl
          · exact ⟨t.2.1, o, .inl ⟨rfl, rfl, e⟩⟩
          · exact ⟨o, t.2.1, .inr ⟨rfl, rfl, e⟩⟩
      have hw : ∃ w : Bool, (t.2.2.isNone = false → ∀ G : Bool → Prop, y__lies_well t x s G ↔ G w) ∧ (t.2.2.isNone = false → ∀ G : Bool → Prop, y__law_well t x s G ↔ G w) := by
        cases e : t.2.2.isNone with
        | true => exact ⟨false, fun z => (by cases z), fun z => (by cases z)⟩
        | false =>
          obtain ⟨p, o, ho⟩ := hc e
          exact ⟨wellB p o s b0 b1 b4, fun _ G => e_well ho hb, fun _ G => e_lwell ho hb⟩
      obtain ⟨w, w1, w2⟩ := hw
      refine ⟨(overW t x s b0 b1 b2 b4 w, t), fun Q q => ?_, fun Q q => (e_lover hx hb od w2 st hc).mpr q, h, ?_⟩
      · unfold y_tracked
        simp only [letT, e_odd hb, od, Bool.false_eq_true, if_false, st, sne9, sne10, decide_false, decide_true, if_true]
        exact (e_over hb w1).mpr q
      · show overW _ _ _ _ _ _ _ _ = _ ∨ _
        unfold overW
        split
        · simp
        · split <;> simp

/-! sizes -/
theorem sz_o {o : Option Int} (h : ∀ k, o = some k → N32 k) : Sz (eO PyData.int o) 0 40 := by
  cases o with
  | none => exact sNo
  | some k => have := h k rfl; exact sI (by omega) (by omega)
theorem n14 {p : Side} (h : SideOk p) : ∀ k, p.2.2.2.2.2.1 = some k → N32 k := fun k e => by have := h.sh k e; exact ⟨this.1, by omega⟩
theorem sz_side {p : Side} (h : SideOk p) : Sz (eSide p) 1 300 := by
  have h1 := h.st; have h2 := h.en; have h3 := h.top; have h4 := h.wide; have h5 := h.heard
  exact sT (n := 7) (k := 0) (w := 40) (szc (sI (by omega) (by omega)) (szc (sI (by omega) (by omega)) (szc (sI (by omega) (by omega)) (szc (sI (by omega) (by omega)) (szc (sI (by omega) (by omega)) (szc (sz_o (n14 h)) (szc (sz_o h.fin) szn))))))) (by simp)
theorem sz_oside {o : Option Side} (h : ∀ p, o = some p → SideOk p) : Sz ((eO eSide) o) 1 300 := by
  cases o with
  | none => exact sNo
  | some p => exact sz_side (h p rfl)
theorem sz_st {z : Str} (h : stAll z) : (PyData.strOk z && decide (z.cps.size ≤ 40)) = true := by
  rcases h with rfl | rfl | rfl | rfl | rfl <;> decide +kernel
theorem sz_talk {t : Talk} (h : TOk t) : Sz (eTalk t) 2 1000 :=
  sT (n := 3) (k := 1) (w := 300) (szc (sS (sz_st h.st)) (szc (sz_side h.a) (szc (sz_oside h.b) szn))) (by simp)
theorem sz_ints {xs : List Int} (h : ∀ x ∈ xs, 0 ≤ x ∧ x ≤ 255) (hl : xs.length ≤ 1000) : Sz ((eU PyData.int) xs) 1 41000 := by
  refine sT (n := 1000) (k := 0) (w := 40) (fun d hd => ?_) (by rw [List.length_map]; exact hl)
  obtain ⟨x, hx, rfl⟩ := List.mem_map.mp hd
  have := h x hx
  exact sI (by omega) (by omega)
theorem sz_seg {s : Seg} (h : SegOk s) : Sz (eSeg s) 2 500000 := by
  have h1 := h.p1; have h2 := h.p2; have h3 := h.seq; have h4 := h.ack; have h5 := h.fl; have h6 := h.win; have h7 := h.ur
  have ho := opt_all _ h.op
  obtain ⟨n, hn, hd⟩ := h.da
  have z : (PyData.strOk s.1 && decide (s.1.cps.size ≤ 40)) = true := by rw [h.kind]; decide +kernel
  refine sT (n := 10) (k := 1) (w := 41000) (szc (sS z) (szc (sI (by omega) (by omega)) (szc (sI (by omega) (by omega)) (szc (sI (by omega) (by omega)) (szc (sI (by omega) (by omega)) (szc (sI (by omega) (by omega)) (szc (sI (by omega) (by omega)) (szc (sI (by omega) (by omega)) (szc (sz_ints ho.2.2.2 (by have := ho.1; omega)) (szc (sz_ints ?_ ?_) szn)))))))))) (by simp)
  · rw [hd]; intro x hx; rw [(List.mem_replicate.mp hx).2]; omega
  · rw [hd, List.length_replicate]; exact hn
theorem rep_ts {t : Talk} {s : Seg} (ht : TOk t) (hs : SegOk s) : repOK ((eL (eU eD)) [[(PyData.str t.1), (eSide t.2.1), ((eO eSide) t.2.2)], [(PyData.str s.1), (PyData.int s.2.1), (PyData.int s.2.2.1), (PyData.int s.2.2.2.1), (PyData.int s.2.2.2.2.1), (PyData.int s.2.2.2.2.2.1), (PyData.int s.2.2.2.2.2.2.1), (PyData.int s.2.2.2.2.2.2.2.1), ((eU PyData.int) s.2.2.2.2.2.2.2.2.1), ((eU PyData.int) s.2.2.2.2.2.2.2.2.2)]]) :=
  (sL (n := 2) (k := 2) (w := 500000) (k' := 3) (w' := 1000002) (szc ((sz_talk ht).mono (by decide) (by decide)) (szc (sz_seg hs) szn)) (by simp)).rep
theorem sm_of {d : D} {k w : Nat} (h : Sz d k w) (hk : k ≤ 5) (hw : w ≤ 100000) : smD 5 d = true := sz_sm (h.mono hk (Nat.le_refl _)) hw
theorem word_ok {r : Str × Talk} (h : r.1 = Str.ofString "odd" ∨ r.1 = Str.ofString "again" ∨ r.1 = Str.ofString "state" ∨ r.1 = Str.ofString "fits" ∨ r.1 = Str.ofString "window" ∨ r.1 = Str.ofString "new" ∨ r.1 = Str.ofString "over") : (PyData.strOk r.1 && decide (r.1.cps.size ≤ 40)) = true := by
  rcases h with h | h | h | h | h | h | h <;> rw [h] <;> decide +kernel
theorem same_ans {r : Str × Talk} (ht : TOk r.2) (h : (PyData.strOk r.1 && decide (r.1.cps.size ≤ 40)) = true) : smD 5 ((eT2 PyData.str eTalk) r) = true :=
  sm_of (k := 3) (w := 3000) (sT (n := 2) (k := 2) (w := 1000) (szc (sS h) (szc (sz_talk ht) szn)) (by simp)) (by decide) (by decide)
theorem same_i {a : Int} : smD 5 (.int a) = true := rfl
/-! what the law draws -/
theorem t0 {m : Int} {Q : Int → Prop} (hm : m < 2 ^ 64) (hm1 : 0 < m) (h : ∀ r, 0 ≤ r → r < m → Q r) : take0T m Q := ⟨hm, fun r h0 h1 => h r h0 (by omega)⟩
theorem pk {α : Type} {xs : List α} {Q : α → Prop} (h0 : xs ≠ []) (hl : xs.length ≤ 100000) (h : ∀ a ∈ xs, Q a) : pickT xs Q := ⟨h0, hl, h⟩
theorem nm {lo hi : Int} {Q : Int → Prop} (h0 : lo ≤ hi) (h1 : -(2 ^ 63) ≤ lo) (h2 : hi < 2 ^ 63) (h : ∀ r, lo ≤ r → r ≤ hi → Q r) : numT lo hi Q := ⟨h0, ⟨h1, h2⟩, h⟩
theorem opts {Q : List Int → Prop} (h : ∀ o ∈ optL, Q o) : y__law_options Q := by
  unfold y__law_options
  refine t0 (by decide) (by decide) fun r _ _ => ?_
  split
  · exact h _ (by unfold optL; exact List.mem_cons_self)
  · refine t0 (by decide) (by decide) fun f f0 f1 => ?_
    refine ⟨by simp, by omega, by simp, pk (by simp) (by simp) fun v hv => ?_⟩
    have hfl : ((List.replicate f.toNat [(1 : Int)]).flatten) = List.replicate f.toNat 1 := by
      generalize f.toNat = n
      induction n with
      | zero => rfl
      | succ n ih => rw [List.replicate_succ, List.flatten_cons, ih]; rfl
    have hfp : ((List.replicate ((-((f.toNat : Int) + 3)) % 4).toNat [(1 : Int)]).flatten) = List.replicate ((-((f.toNat : Int) + 3)) % 4).toNat 1 := by
      generalize ((-((f.toNat : Int) + 3)) % 4).toNat = n
      induction n with
      | zero => rfl
      | succ n ih => rw [List.replicate_succ, List.flatten_cons, ih]; rfl
    rw [hfl]
    have hl : ((List.replicate f.toNat (1 : Int) ++ [3, 3, v]).length : Int) = (f.toNat : Int) + 3 := by simp
    refine ⟨?_, ?_⟩
    · rw [List.length_replicate]; exact Nat.le_trans (m := 100) (by simp; omega) (by decide)
    simp only [letT, hl]
    refine ⟨by decide, by simp, ⟨Int.emod_nonneg _ (by decide), by omega⟩, by simp, ?_, ?_⟩
    · rw [hfp, List.length_replicate]; exact Nat.le_trans (m := 100) (by simp; omega) (by decide)
    · rw [hfp]
      refine h _ ?_
      unfold optL
      refine List.mem_cons_of_mem _ (List.mem_flatMap.mpr ⟨f.toNat, List.mem_range.mpr (by omega), List.mem_map.mpr ⟨v, hv, rfl⟩⟩)
theorem seg {sq ak fl sz : Int} {Q : Seg → Prop} (f0 : 0 ≤ fl ∧ fl < 32) (z0 : 0 ≤ sz ∧ sz ≤ 1000) (h : ∀ s, SegOk s → Q s) : y__law_segment sq ak fl sz Q := by
  unfold y__law_segment
  refine nm (by decide) (by decide) (by decide) fun p1 a1 a2 => nm (by decide) (by decide) (by decide) fun p2 a3 a4 => ?_
  refine pk (by simp) (by simp) fun ex hex => t0 (by decide) (by decide) fun r r0 r1 => pk (by simp) (by simp) fun wi hwi => ?_
  simp only [e_mod, letT]
  refine t0 (by decide) (by decide) fun u u0 u1 => opts fun o ho => ⟨by simp, by omega, by simp, ?_⟩
  have hfl : ((List.replicate sz.toNat [(7 : Int)]).flatten) = List.replicate sz.toNat 7 := by
    generalize sz.toNat = n
    induction n with
    | zero => rfl
    | succ n ih => rw [List.replicate_succ, List.flatten_cons, ih]; rfl
  rw [hfl]
  refine h _ ⟨rfl, by show 0 ≤ p1 ∧ p1 < 65536; omega, by show 0 ≤ p2 ∧ p2 < 65536; omega, m32 _, m32 _, ?_, ?_, by show 0 ≤ u ∧ u < 2; omega, ho, sz.toNat, by omega, rfl⟩
  · show 0 ≤ fl + ex ∧ fl + ex < 256
    simp only [List.mem_cons, List.not_mem_nil, or_false] at hex
    omega
  · show 0 ≤ wi ∧ wi < 65536
    simp only [List.mem_cons, List.not_mem_nil, or_false] at hwi
    omega
theorem c_oside {o : Option Side} {G : Option Side → Prop} (g : G o) : castT (eO eSide) ((eO eSide) o) G := ⟨o, rfl, g⟩
theorem and_any {a : Bool} {B : M Bool} {K : Bool → Prop} (hB : ∀ K : Bool → Prop, (∀ k, K k) → B K) (h : ∀ k, K k) : andT a B K := by
  unfold andT
  split
  · exact hB _ h
  · exact h _
theorem near3 {ow ot : Side} {Q : Seg → Prop} (h : ∀ s, SegOk s → Q s) : y__law_near_segment_j3 (some ow) Q (some ot) := by
  have j1 : ∀ ak fl sz sq : Int, 0 ≤ fl ∧ fl < 32 → 0 ≤ sz ∧ sz ≤ 1000 → y__law_near_segment_j1 ak fl sz Q sq := fun ak fl sz sq h1 h2 => by
    unfold y__law_near_segment_j1; exact seg h1 h2 h
  have j2 : ∀ sq ak fl sz : Int, 0 ≤ fl ∧ fl < 32 → 0 ≤ sz ∧ sz ≤ 1000 → y__law_near_segment_j2 sq ak fl Q sz := fun sq ak fl sz h1 h2 => by
    unfold y__law_near_segment_j2
    refine t0 (by decide) (by decide) fun r _ _ => ?_
    split
    · exact ⟨by decide, j1 _ _ _ _ h1 h2⟩
    · exact j1 _ _ _ _ h1 h2
  unfold y__law_near_segment_j3
  refine pk (by simp) (by simp) fun st _ => ?_
  simp only [g_some, letT]
  have it : ∀ (p : Side) (K : Option Int → Prop), (∀ i : Int, K (some i)) → iteT (p.2.2.2.2.2.2.isNone) (fun G => G (some p.2.1)) (fun G => G p.2.2.2.2.2.2) K := by
    intro p K hK
    unfold iteT
    split
    · exact hK _
    · rename_i c
      cases e : p.2.2.2.2.2.2 with
      | none => rw [e] at c; simp at c
      | some f => exact hK f
  refine it _ _ fun i => pk (by simp) (by simp) fun a ha => ?_
  obtain ⟨a', rfl⟩ : ∃ a', a = some a' := by
    simp only [List.mem_cons, List.not_mem_nil, or_false] at ha
    rcases ha with rfl | rfl | rfl | rfl | rfl | rfl | rfl <;> exact ⟨_, rfl⟩
  rw [g_some]
  refine it _ _ fun i2 => pk (by simp) (by simp) fun b hb => ?_
  obtain ⟨b', rfl⟩ : ∃ b', b = some b' := by
    simp only [List.mem_cons, List.not_mem_nil, or_false] at hb
    rcases hb with rfl | rfl | rfl | rfl | rfl | rfl <;> exact ⟨_, rfl⟩
  rw [g_some]
  refine pk (by simp) (by simp) fun v _ => t0 (by decide) (by decide) fun f f0 f1 => pk (by simp) (by simp) fun fl hfl => t0 (by decide) (by decide) fun z z0 z1 => pk (by simp) (by simp) fun sz hsz => ?_
  simp only [List.mem_cons, List.not_mem_nil, or_false] at hfl hsz
  refine and_any (fun K hK => t0 (by decide) (by decide) fun _ _ _ => hK _) fun k => ?_
  split
  · exact j2 _ _ _ _ (by omega) (by omega)
  · exact j2 _ _ _ _ (by omega) (by omega)
theorem near {t : Talk} {x : Int} (hx : x = 0 ∨ x = 1) {Q : Seg → Prop} (h : ∀ s, SegOk s → Q s) : y__law_near_segment t x Q := by
  have j4 : ∀ (ot : Option Side) (ow : Side), y__law_near_segment_j4 ot Q (some ow) := by
    intro ot ow
    unfold y__law_near_segment_j4
    cases ot with
    | none => simp only [Option.isNone_none, if_true, letT]; exact near3 h
    | some o => simp only [Option.isNone_some, Bool.false_eq_true, if_false]; exact near3 h
  have j : ∀ ow ot : Option Side, (if (ow.isNone) = true then (letT (((5 : Int), (6 : Int), (7 : Int), (1 : Int), (5 : Int), (0 : Int), ()) : (Int × Int × Int × Int × Int × Int × Unit)) fun own_3 => y__law_near_segment_j4 ot Q (some (own_3.1, own_3.2.1, own_3.2.2.1, own_3.2.2.2.1, own_3.2.2.2.2.1, (some own_3.2.2.2.2.2.1), none))) else (y__law_near_segment_j4 ot Q ow)) := by
    intro ow ot
    cases ow with
    | none => simp only [Option.isNone_none, if_true, letT]; exact j4 _ _
    | some o => simp only [Option.isNone_some, Bool.false_eq_true, if_false]; exact j4 _ _
  unfold y__law_near_segment
  rcases hx with rfl | rfl
  · rw [show (1 : Int) + 0 = 1 from rfl, show (2 : Int) - 0 = 2 from rfl, x_1]
    refine c_oside (o := some t.2.1) ?_
    rw [x_2]
    exact c_oside (j _ _)
  · rw [show (1 : Int) + 1 = 2 from rfl, show (2 : Int) - 1 = 1 from rfl, x_2]
    refine c_oside ?_
    rw [x_1]
    exact c_oside (o := some t.2.1) (j _ _)
theorem good {t : Talk} {x : Int} (ht : TOk t) (hx : x = 0 ∨ x = 1) (no : ¬ t.1 = Str.ofString "over") {Q : Seg → Prop} (h : ∀ s, SegOk s → Q s) : y__law_good_segment t x Q := by
  have j1 : ∀ (ow ot : Side) (sz fl : Int), 0 ≤ fl ∧ fl < 32 → 0 ≤ sz ∧ sz ≤ 1000 → y__law_good_segment_j1 (some ow) (some ot) Q sz fl := by
    intro ow ot sz fl h1 h2
    unfold y__law_good_segment_j1
    simp only [g_some]
    exact pk (by simp) (by simp) fun a _ => seg h1 h2 h
  unfold y__law_good_segment
  have two : ¬ t.1 = Str.ofString "asked" → ∃ o, t.2.2 = some o := fun na => by
    obtain ⟨o, _, _, e, _⟩ := ht.two na no
    exact ⟨o, e⟩
  obtain ⟨ow, ot, e, a, b⟩ : ∃ ow ot : Option Side, (∀ K : Option Side → Option Side → Prop, K ow ot → (ixT [PyData.str t.1, eSide t.2.1, (eO eSide) t.2.2] (1 + x) fun v => castT (eO eSide) v fun a => ixT [PyData.str t.1, eSide t.2.1, (eO eSide) t.2.2] (2 - x) fun w => castT (eO eSide) w fun b => K a b)) ∧
      (t.1 = Str.ofString "asked" → x = 0 → ow = some t.2.1) ∧ (¬ t.1 = Str.ofString "asked" → (∃ p, ow = some p) ∧ ∃ o, ot = some o) := by
    rcases hx with rfl | rfl
    · refine ⟨some t.2.1, t.2.2, fun K k => ?_, fun _ _ => rfl, fun na => ⟨⟨_, rfl⟩, two na⟩⟩
      rw [show (1 : Int) + 0 = 1 from rfl, show (2 : Int) - 0 = 2 from rfl, x_1]
      refine c_oside (o := some t.2.1) ?_
      rw [x_2]
      exact c_oside k
    · refine ⟨t.2.2, some t.2.1, fun K k => ?_, fun _ z => (by cases z), fun na => ⟨two na, _, rfl⟩⟩
      rw [show (1 : Int) + 1 = 2 from rfl, show (2 : Int) - 1 = 1 from rfl, x_2]
      refine c_oside ?_
      rw [x_1]
      exact c_oside (o := some t.2.1) k
  refine e _ ?_
  by_cases na : t.1 = Str.ofString "asked"
  · rw [if_pos (decide_eq_true na)]
    have fin : ∀ v fl : Int, 0 ≤ fl ∧ fl < 32 → take0T (9 : Int) fun v_16 => pickT [v, v_16] fun v_13 => y__law_segment v_13 t.2.1.2.1 fl (0 : Int) fun v_17 => Q v_17 := fun v fl hfl =>
      t0 (by decide) (by decide) fun r _ _ => pk (by simp) (by simp) fun w _ => seg hfl (by omega) h
    unfold iteT
    split
    · rename_i c
      rw [a na (by simpa using c)]
      dsimp only
      rw [g_some]
      exact fin _ _ (by omega)
    · exact fin _ _ (by omega)
  · rw [if_neg (by simpa using na)]
    obtain ⟨⟨p, rfl⟩, o, rfl⟩ := b na
    refine pk (by simp) (by simp) fun sz hsz => ?_
    simp only [List.mem_cons, List.not_mem_nil, or_false] at hsz
    split
    · simp only [g_some]
      exact seg (by omega) (by omega) h
    · refine t0 (by decide) (by decide) fun r _ _ => ?_
      simp only [letT, g_some, e_mod]
      split
      · exact j1 _ _ _ _ (by omega) (by omega)
      · refine j1 _ _ _ _ (by split <;> omega) ?_
        repeat' split
        all_goals omega
theorem begun_eq {s : Seg} (hs : SegOk s) : ∃ t : Talk, (∀ Q : Talk → Prop, Q t → y_begun s Q) ∧ (∀ Q : Talk → Prop, Q t → y__law_begun s Q) ∧ TOk t := by
  have oo := opt_all _ hs.op
  have hw := hs.win
  refine ⟨(Str.ofString "asked", (s.2.2.2.1, (s.2.2.2.1 + 1) % 4294967296, (s.2.2.2.1 + 1) % 4294967296, max s.2.2.2.2.2.2.1 1, s.2.2.2.1, shL s.2.2.2.2.2.2.2.2.1, none), none), fun Q q => ?_, fun Q q => ?_, ?_⟩
  · unfold y_begun
    simp only [e_width, letT, e_after, mx_1]
    exact e_shift (by rw [oo.2.1]; exact q)
  · unfold y__law_begun
    simp only [letT, e_mod, mx_1]
    exact (e_lshift (by have := oo.1; omega)).mpr q
  · refine ⟨⟨hs.seq, m32 _, m32 _, ?_, hs.seq, oo.2.2.1, fun f e => by cases e⟩, fun o e => (by cases e), .inl rfl, fun _ => ⟨rfl, rfl, rfl⟩, fun e => absurd e.symm sne7, fun n => absurd rfl n⟩
    show 0 ≤ max _ _ ∧ max _ _ < _
    omega
theorem turn {t : Talk} {x : Int} {s : Seg} {go : Talk → Prop} (ht : TOk t) (hx : x = 0 ∨ x = 1) (hs : SegOk s) (h : ∀ t', TOk t' → go t') : y_law_j2 t x (fun b => b = true) go s := by
  obtain ⟨b0, b1, b2, b4, hb⟩ := bits hs.fl.1 hs.fl.2
  obtain ⟨r, h1, h2, h3, h4⟩ := step ht hx hs
  unfold y_law_j2
  simp only [e_segE hb, e_lend hb]
  refine ⟨rfl, same_i, ?_⟩
  simp only [Bool.not_true, Bool.false_eq_true, if_false]
  refine ⟨rep_ts ht hs, h2 _ (h1 _ ⟨rfl, same_ans h3 (word_ok h4), ?_⟩)⟩
  dsimp only
  rw [show (!true) = false from rfl, or_f]
  refine ⟨rep_ts ht hs, ?_⟩
  simp only [decide_true, Bool.not_true, Bool.false_eq_true, if_false, letT]
  exact h _ h3
theorem turn3 {t : Talk} {x : Int} {go : Talk → Prop} (ht : TOk t) (hx : x = 0 ∨ x = 1) (h : ∀ t', TOk t' → go t') : y_law_j3 t (fun b => b = true) go x := by
  unfold y_law_j3
  refine t0 (by decide) (by decide) fun r _ _ => ?_
  simp only [letT]
  have pickSeg : ∀ (k : Bool) (K : Seg → Prop), (k = true → ¬ t.1 = Str.ofString "over") → (∀ s, SegOk s → K s) → iteT k (fun G => y__law_good_segment t x fun v_17 => G v_17) (fun G => y__law_near_segment t x fun v_18 => G v_18) K := by
    intro k K hk hK
    unfold iteT
    split
    · rename_i c; exact good ht hx (hk c) hK
    · exact near hx hK
  refine pickSeg _ _ (fun c => by simp at c; exact c.2) fun s hs => ?_
  obtain ⟨b0, b1, b2, b4, hb⟩ := bits hs.fl.1 hs.fl.2
  refine and_any (fun K hK => ?_) fun k => ?_
  · simp only [e_lform hb, x_2]
    exact and_any (fun K2 hK2 => t0 (by decide) (by decide) fun _ _ _ => hK2 _) hK
  · split
    · exact pickSeg _ _ (fun c => by simpa using c) fun s2 hs2 => turn ht hx hs2 h
    · exact turn ht hx hs h
theorem loop {kn : Talk → Prop} (hk : ∀ t, kn t) : ∀ (ks : List Int) (t : Talk), TOk t → y_law_l1 (fun b => b = true) kn ks t
  | [], t, _ => by unfold y_law_l1; exact hk t
  | k :: r, t, ht => by
    unfold y_law_l1
    refine t0 (by decide) (by decide) fun x x0 x1 => ?_
    refine and_any (fun K hK => t0 (by decide) (by decide) fun _ _ _ => hK _) fun c => ?_
    split
    · exact turn3 ht (.inr rfl) fun t' h' => loop hk r t' h'
    · exact turn3 ht (by omega) fun t' h' => loop hk r t' h'
/-! the worked example -/
instance d1 : DecidableEq (Option Int × Option Int) := inferInstance
instance d2 : DecidableEq (Int × Option Int × Option Int) := inferInstance
instance d3 : DecidableEq (Int × Int × Option Int × Option Int) := inferInstance
instance d4 : DecidableEq (Int × Int × Int × Option Int × Option Int) := inferInstance
instance d5 : DecidableEq (Int × Int × Int × Int × Option Int × Option Int) := inferInstance
instance d6 : DecidableEq (Int × Int × Int × Int × Int × Option Int × Option Int) := inferInstance
instance d7 : DecidableEq Side := inferInstance
instance d8 : DecidableEq Talk := inferInstance

def synW : Seg := (Str.ofString "tcp", 1, 2, 4294967295, 0, 2, 100, 0, [3, 3, 2, 1], [])
def talkW : Talk := (Str.ofString "asked", (4294967295, 0, 0, 100, 4294967295, some 2, none), none)
def bothW : Seg := (Str.ofString "tcp", 2, 1, 7, 0, 18, 50, 0, [], [])
def answW : Talk := (Str.ofString "answered", (4294967295, 0, 50, 100, 0, some 0, none), some (7, 8, 108, 50, 7, some 0, none))
def lastW : Seg := (Str.ofString "tcp", 1, 2, 0, 8, 16, 10, 0, [], [1, 2, 3])
def dueW : Talk := (Str.ofString "open", (4294967295, 3, 50, 100, 0, some 0, none), some (7, 8, 108, 50, 8, some 0, none))
theorem bits18 : Bits 18 0 1 0 1 := ⟨by decide, by decide, by decide, by decide, by decide, by decide, by decide, by decide, by decide +kernel, by decide +kernel, by decide +kernel, by decide +kernel⟩
theorem bits16 : Bits 16 0 0 0 1 := ⟨by decide, by decide, by decide, by decide, by decide, by decide, by decide, by decide, by decide +kernel, by decide +kernel, by decide +kernel, by decide +kernel⟩
theorem wk1 {Q : Talk → Prop} (q : Q talkW) : y_begun synW Q := by
  unfold y_begun
  simp only [e_width, letT, e_after]
  refine e_shift ?_
  have e : (Str.ofString "asked", ((synW.2.2.2.1 : Int), aft synW.2.2.2.1 1, aft synW.2.2.2.1 1, (if 1 > synW.2.2.2.2.2.2.1 then 1 else synW.2.2.2.2.2.2.1), (synW.2.2.2.1 : Int), gsh synW.2.2.2.2.2.2.2.2.1 (synW.2.2.2.2.2.2.2.2.1.length + 1) 0, (none : Option Int)), (none : Option Side)) = talkW := by decide +kernel
  rw [e]
  exact q
theorem wk2 {Q : Str × Talk → Prop} (q : Q (Str.ofString "fits", answW)) : y_tracked talkW 1 bothW Q := by
  unfold y_tracked
  have hb : Bits bothW.2.2.2.2.2.1 0 1 0 1 := bits18
  have od : oddB bothW 0 1 0 1 = false := by decide +kernel
  simp only [letT, e_odd hb, od, Bool.false_eq_true, if_false, show talkW.1 = Str.ofString "asked" from rfl, decide_true, if_true]
  have e0 : gsh bothW.2.2.2.2.2.2.2.2.1 (bothW.2.2.2.2.2.2.2.2.1.length + 1) 0 = none := by decide +kernel
  have sw : ∀ G : Option Int → Prop, G none → y_shift_of bothW.2.2.2.2.2.2.2.2.1 G := fun G g => e_shift (by rw [e0]; exact g)
  refine e_asked (sh := none) (.inr rfl) hb od rfl rfl sw ?_
  have e : askR talkW 1 bothW 0 1 0 1 none = (Str.ofString "fits", answW) := by decide +kernel
  rw [e]
  exact q
theorem wk3 {Q : Str × Talk → Prop} (q : Q (Str.ofString "fits", dueW)) : y_tracked answW 0 lastW Q := by
  unfold y_tracked
  have hb : Bits lastW.2.2.2.2.2.1 0 0 0 1 := bits16
  have od : oddB lastW 0 0 0 1 = false := by decide +kernel
  simp only [letT, e_odd hb, od, Bool.false_eq_true, if_false, show answW.1 = Str.ofString "answered" from rfl, sne7, decide_false, decide_true, if_true]
  refine (e_answ (p := (4294967295, 0, 50, 100, 0, some 0, none)) (o := (7, 8, 108, 50, 7, some 0, none)) (k := 0) (.inl ⟨rfl, rfl, rfl⟩) hb od rfl (by decide) (by decide) (by decide +kernel)).mpr ?_
  have e : answR answW 0 (4294967295, 0, 50, 100, 0, some 0, none) (7, 8, 108, 50, 7, some 0, none) 0 lastW 0 0 0 1 = (Str.ofString "fits", dueW) := by decide +kernel
  rw [e]
  exact q
theorem worked {Q : Bool → Prop} (q : Q true) : y__law_worked Q := by
  unfold y__law_worked
  simp only [letT]
  refine wk1 ⟨by rfl, by decide +kernel, ?_⟩
  simp only [Bool.not_true, Bool.false_eq_true, if_false]
  refine wk2 ⟨by rfl, by decide +kernel, ?_⟩
  simp only [Bool.not_true, Bool.false_eq_true, if_false]
  exact wk3 ⟨by rfl, by decide +kernel, q⟩
theorem law_ok : y_law (fun b => b = true) := by
  unfold y_law
  refine worked ?_
  simp only [Bool.not_true, Bool.false_eq_true, if_false]
  unfold y__law_start
  refine nm (by decide) (by decide) (by decide) fun n _ _ => pk (by simp) (by simp) fun a _ => t0 (by decide) (by decide) fun r _ _ => seg (by decide) (by decide) fun s hs => ?_
  obtain ⟨b0, b1, b2, b4, hb⟩ := bits hs.fl.1 hs.fl.2
  obtain ⟨t, h1, h2, ht⟩ := begun_eq hs
  simp only [e_segE hb, e_lend hb]
  refine ⟨rfl, same_i, ?_⟩
  dsimp only
  rw [show (!true) = false from rfl, or_f]
  refine h1 _ (h2 _ ⟨rfl, sm_of (sz_talk ht) (by decide) (by decide), ?_⟩)
  simp only [Bool.not_true, Bool.false_eq_true, if_false]
  refine h2 _ (t0 (by decide) (by decide) fun m m0 m1 => ⟨⟨by omega, by omega⟩, loop (fun _ => trivial) _ t ht⟩)

section
variable {P : Program} {w : World} {K : PySem.W.Frag} {mg : Str → Option Value} {base : Heap}
theorem ok_law (T : Tx K mg) : FnG P w K mg base 9 T.ad_law T.fd_law ["script"] (spLaw K) := by
  refine okG T.d_law.F x_law (fun vs H Q E h => spLaw_len h) (fun cdv A outer s H vs Q E hr gd h => ?_)
  have nd := x_law.nd
  refine ⟨_, (pss_cons (ps_set (i := 1) nd rfl (Or.inl rfl) (pe_call (ok_law_state T) (hr.mono (by decide)) (by rfl) T.d_law_state.g T.d_law_state.F.kp T.d_law_state.b .nil pass0 (pa_cons (pv 0) pa_nil)))
        (pss_cons (ps_if (pt_not (pt_val (pe_call0 (ok_law_worked T) hr (by rfl) T.d_law_worked.g T.d_law_worked.F.kp T.d_law_worked.b .nil pass0))) (pss_one (ps_ret pe_bl)) pss_nil)
        (pss_cons (ps_set (i := 2) nd rfl (Or.inl rfl) (pe_call (ok_law_segment T) (hr.mono (by decide)) (by rfl) T.d_law_segment.g T.d_law_segment.F.kp T.d_law_segment.b .nil pass0 (pa_cons (pv 1) (pa_cons (pe_call (ok_law_start T) (hr.mono (by decide)) (by rfl) T.d_law_start.g T.d_law_start.F.kp T.d_law_start.b .nil pass0 (pa_cons (pv 1) pa_nil)) (pa_cons (pe_call (ok_law_take T) (hr.mono (by decide)) (by rfl) T.d_law_take.g T.d_law_take.F.kp T.d_law_take.b .nil pass0 (pa_cons (pv 1) (pa_cons pe_int pa_nil))) (pa_cons pe_int (pa_cons pe_int pa_nil)))))))
        (pss_cons (ps_if (PW.pt (pw_or (pt_not (pt_val (pe_call (ok_law_same T) (hr.mono (by decide)) (by rfl) T.d_law_same.g T.d_law_same.F.kp T.d_law_same.b .nil pass0 (pa_cons (pe_call (ok_segment_end T) (hr.mono (by decide)) (by rfl) T.d_segment_end.g T.d_segment_end.F.kp T.d_segment_end.b .nil pass0 (pa_cons (pv 2) pa_nil)) (pa_cons (pe_call (ok_law_end T) (hr.mono (by decide)) (by rfl) T.d_law_end.g T.d_law_end.F.kp T.d_law_end.b .nil pass0 (pa_cons (pv 2) pa_nil)) pa_nil))))) (pw_or1 (pt_not (pt_val (pe_call (ok_law_same T) (hr.mono (by decide)) (by rfl) T.d_law_same.g T.d_law_same.F.kp T.d_law_same.b .nil pass0 (pa_cons (pe_call (ok_begun T) (hr.mono (by decide)) (by rfl) T.d_begun.g T.d_begun.F.kp T.d_begun.b .nil pass0 (pa_cons (pv 2) pa_nil)) (pa_cons (pe_call (ok_law_begun T) (hr.mono (by decide)) (by rfl) T.d_law_begun.g T.d_law_begun.F.kp T.d_law_begun.b .nil pass0 (pa_cons (pv 2) pa_nil)) pa_nil)))))))) (pss_one (ps_ret pe_bl)) pss_nil)
        (pss_cons (ps_set (i := 3) nd rfl (Or.inl rfl) (pe_call (ok_law_begun T) (hr.mono (by decide)) (by rfl) T.d_law_begun.g T.d_law_begun.F.kp T.d_law_begun.b .nil pass0 (pa_cons (pv 2) pa_nil)))
        (pss_cons (ps_for PassesOwn.never rfl (pi_range1 (by rfl) T.b_range (pa_cons (pe_op op_add pe_int (pe_call (ok_law_take T) (hr.mono (by decide)) (by rfl) T.d_law_take.g T.d_law_take.F.kp T.d_law_take.b .nil pass0 (pa_cons (pv 1) (pa_cons pe_int pa_nil)))) pa_nil)) (pg_name (i := 4) nd rfl (Or.inl rfl)) (pss_cons (ps_set (i := 5) nd rfl (Or.inl rfl) (pe_call (ok_law_take T) (hr.mono (by decide)) (by rfl) T.d_law_take.g T.d_law_take.F.kp T.d_law_take.b .nil pass0 (pa_cons (pv 1) (pa_cons pe_int pa_nil))))
        (pss_cons (ps_if (PW.pt (pw_and (pt_cmpR op_eq (pe_ix ix_seq (pv 3) pe_int (fun _ _ => rfl)) pe_str (nomark _)) (pw_and1 (pt_cmpR op_eq (pe_call (ok_law_take T) (hr.mono (by decide)) (by rfl) T.d_law_take.g T.d_law_take.F.kp T.d_law_take.b .nil pass0 (pa_cons (pv 1) (pa_cons pe_int pa_nil))) pe_int (nomark _))))) (pss_one (ps_set (i := 5) nd rfl (Or.inl rfl) pe_int)) pss_nil)
        (pss_cons (ps_set (i := 6) nd rfl (Or.inl rfl) (pe_and (pe_cmpR op_gt (pe_call (ok_law_take T) (hr.mono (by decide)) (by rfl) T.d_law_take.g T.d_law_take.F.kp T.d_law_take.b .nil pass0 (pa_cons (pv 1) (pa_cons pe_int pa_nil))) pe_int (nomark _)) (pe_one (pe_cmpR op_ne (pe_ix ix_seq (pv 3) pe_int (fun _ _ => rfl)) pe_str (nomark _)))))
        (pss_cons (ps_set (i := 7) nd rfl (Or.inl rfl) (pe_ifExp (pt_val (pv 6)) (pe_call (ok_law_good_segment T) (hr.mono (by decide)) (by rfl) T.d_law_good_segment.g T.d_law_good_segment.F.kp T.d_law_good_segment.b .nil pass0 (pa_cons (pv 1) (pa_cons (pv 3) (pa_cons (pv 5) pa_nil)))) (pe_call (ok_law_near_segment T) (hr.mono (by decide)) (by rfl) T.d_law_near_segment.g T.d_law_near_segment.F.kp T.d_law_near_segment.b .nil pass0 (pa_cons (pv 1) (pa_cons (pv 3) (pa_cons (pv 5) pa_nil))))))
        (pss_cons (ps_if (PW.pt (pw_and (pt_not (pt_val (pv 6))) (pw_and (pt_cmpR op_eq (pe_ix ix_seq (pe_call (ok_law_form T) (hr.mono (by decide)) (by rfl) T.d_law_form.g T.d_law_form.F.kp T.d_law_form.b .nil pass0 (pa_cons (pv 7) pa_nil)) pe_int (fun _ _ => rfl)) pe_int (nomark _)) (pw_and1 (pt_cmpR op_gt (pe_call (ok_law_take T) (hr.mono (by decide)) (by rfl) T.d_law_take.g T.d_law_take.F.kp T.d_law_take.b .nil pass0 (pa_cons (pv 1) (pa_cons pe_int pa_nil))) pe_int (nomark _)))))) (pss_one (ps_set (i := 7) nd rfl (Or.inl rfl) (pe_ifExp (pt_cmpR op_ne (pe_ix ix_seq (pv 3) pe_int (fun _ _ => rfl)) pe_str (nomark _)) (pe_call (ok_law_good_segment T) (hr.mono (by decide)) (by rfl) T.d_law_good_segment.g T.d_law_good_segment.F.kp T.d_law_good_segment.b .nil pass0 (pa_cons (pv 1) (pa_cons (pv 3) (pa_cons (pv 5) pa_nil)))) (pe_call (ok_law_near_segment T) (hr.mono (by decide)) (by rfl) T.d_law_near_segment.g T.d_law_near_segment.F.kp T.d_law_near_segment.b .nil pass0 (pa_cons (pv 1) (pa_cons (pv 3) (pa_cons (pv 5) pa_nil))))))) pss_nil)
        (pss_cons (ps_if (pt_not (pt_val (pe_call (ok_law_same T) (hr.mono (by decide)) (by rfl) T.d_law_same.g T.d_law_same.F.kp T.d_law_same.b .nil pass0 (pa_cons (pe_call (ok_segment_end T) (hr.mono (by decide)) (by rfl) T.d_segment_end.g T.d_segment_end.F.kp T.d_segment_end.b .nil pass0 (pa_cons (pv 7) pa_nil)) (pa_cons (pe_call (ok_law_end T) (hr.mono (by decide)) (by rfl) T.d_law_end.g T.d_law_end.F.kp T.d_law_end.b .nil pass0 (pa_cons (pv 7) pa_nil)) pa_nil))))) (pss_one (ps_ret pe_bl)) pss_nil)
        (pss_cons (ps_set (i := 8) nd rfl (Or.inl rfl) (pe_callB (cr_repr gd hr.units) (by rfl) T.b_repr (by decide +kernel) (pa_cons (pe_lst (pa_cons (pv 3) (pa_cons (pv 7) pa_nil))) pa_nil)))
        (pss_cons (ps_set (i := 9) nd rfl (Or.inl rfl) (pe_call (ok_law_track T) (hr.mono (by decide)) (by rfl) T.d_law_track.g T.d_law_track.F.kp T.d_law_track.b .nil pass0 (pa_cons (pv 3) (pa_cons (pv 5) (pa_cons (pv 7) pa_nil)))))
        (pss_cons (ps_if (PW.pt (pw_or (pt_not (pt_val (pe_call (ok_law_same T) (hr.mono (by decide)) (by rfl) T.d_law_same.g T.d_law_same.F.kp T.d_law_same.b .nil pass0 (pa_cons (pe_call (ok_tracked T) (hr.mono (by decide)) (by rfl) T.d_tracked.g T.d_tracked.F.kp T.d_tracked.b .nil pass0 (pa_cons (pv 3) (pa_cons (pv 5) (pa_cons (pv 7) pa_nil)))) (pa_cons (pv 9) pa_nil))))) (pw_or1 (pt_cmpR op_ne (pe_callB (cr_repr gd hr.units) (by rfl) T.b_repr (by decide +kernel) (pa_cons (pe_lst (pa_cons (pv 3) (pa_cons (pv 7) pa_nil))) pa_nil)) (pv 8) (nomark _))))) (pss_one (ps_ret pe_bl)) pss_nil)
        (pss_one (ps_set (i := 3) nd rfl (Or.inl rfl) (pe_ix ix_seq (pv 9) pe_int (fun _ _ => rfl))))))))))))))
        (pss_one (ps_ret pe_bl)))))))), law_run (i := 1) ((rs_seq (rs_if (rt_not (rt_val (re_call raN))) (rs_ret (rc_bl _)) rs_next)
        (rs_seq (rs_asg (re_callS (raC (re_callS raN) (raC (re_callS (raC (rc_int _) raN)) (raC (rc_int _) (raC (rc_int _) raN))))) (rg_name 2))
        (rs_seq (rs_if (rt_or (rt_not (rt_val (re_call (raC (re_call (raC (rn 2) raN)) (raC (re_call (raC (rn 2) raN)) raN))))) (rt_not (rt_val (re_call (raC (re_call (raC (rn 2) raN)) (raC (re_call (raC (rn 2) raN)) raN)))))) (rs_ret (rc_bl _)) rs_next)
        (rs_seq (rs_asg (re_call (raC (rn 2) raN)) (rg_name 3))
        (rs_seq (rs_for (ri_r1 (rbC (RfE.b (ro rv_add (RfE.b (rc_int _)) (RfE.b (re_callS (raC (rc_int _) raN))))) rbN)) (rg_name 4) (rs_seq (rs_asg (re_callS (raC (rc_int _) raN)) (rg_name 5))
        (rs_seq (rs_if (rt_and (rt_test (ro rv_eq (RfE.b (ro rv_ix (RfE.b (rn 3)) (RfE.b (rc_int _)))) (RfE.b (rc_str _)))) (rt_test (ro rv_eq (RfE.b (re_callS (raC (rc_int _) raN))) (RfE.b (rc_int _))))) (rs_asg (rc_int _) (rg_name 5)) rs_next)
        (rs_seq (rs_asg (re_and (ro rv_gt (RfE.b (re_callS (raC (rc_int _) raN))) (RfE.b (rc_int _))) (ro rv_ne (RfE.b (ro rv_ix (RfE.b (rn 3)) (RfE.b (rc_int _)))) (RfE.b (rc_str _)))) (rg_name 6))
        (rs_seq (rs_asg (re_if (rt_val (rn 6)) (re_callS (raC (rn 3) (raC (rn 5) raN))) (re_callS (raC (rn 3) (raC (rn 5) raN)))) (rg_name 7))
        (rs_seq (rs_if (rt_and (rt_not (rt_val (rn 6))) (rt_and (rt_test (ro rv_eq (RfE.b (ro rv_ix (RfE.b (re_call (raC (rn 7) raN))) (RfE.b (rc_int _)))) (RfE.b (rc_int _)))) (rt_test (ro rv_gt (RfE.b (re_callS (raC (rc_int _) raN))) (RfE.b (rc_int _)))))) (rs_asg (re_if (rt_test (ro rv_ne (RfE.b (ro rv_ix (RfE.b (rn 3)) (RfE.b (rc_int _)))) (RfE.b (rc_str _)))) (re_callS (raC (rn 3) (raC (rn 5) raN))) (re_callS (raC (rn 3) (raC (rn 5) raN)))) (rg_name 7)) rs_next)
        (rs_seq (rs_if (rt_not (rt_val (re_call (raC (re_call (raC (rn 7) raN)) (raC (re_call (raC (rn 7) raN)) raN))))) (rs_ret (rc_bl _)) rs_next)
        (rs_seq (rs_asg (re_cb ro_repr (rbC (RfE.b (RfF.e (rf_lst (raC (rn 3) (raC (rn 7) raN))))) rbN)) (rg_name 8))
        (rs_seq (rs_asg (re_call (raC (rn 3) (raC (rn 5) (raC (rn 7) raN)))) (rg_name 9))
        (rs_seq (rs_if (rt_or (rt_not (rt_val (re_call (raC (re_call (raC (rn 3) (raC (rn 5) (raC (rn 7) raN)))) (raC (rn 9) raN))))) (rt_test (ro rv_ne (RfE.b (re_cb ro_repr (rbC (RfE.b (RfF.e (rf_lst (raC (rn 3) (raC (rn 7) raN))))) rbN))) (RfE.b (rn 8))))) (rs_ret (rc_bl _)) rs_next)
        (rs_asg (ro rv_ix (RfE.b (rn 9)) (RfE.b (rc_int _))) (rg_name 3))))))))))))
        (rs_ret (rc_bl _)))))))) h (by decide) (by decide) ?_⟩
  have q := law_ok
  unfold y_law at q
  have hQ : ∀ r : Bool, r = true → PyData.bool r = PyData.bool true := fun r h => by rw [h]
  exact (s_seq0 (s_if (t_not (t_val (w_call0))) (fun q => (s_ret (e := PyData.bool) (w_dC (e := PyData.bool) (x := false) rfl) hQ q)) (fun q => (s_next (s_seq0 (s_asg (e := eSeg) (w_callS4 rfl (w_callS0 rfl) (w_take0 rfl (w_dC (e := PyData.int) (x := (3 : Int)) rfl)) (w_dC (e := PyData.int) (x := (2 : Int)) rfl) (w_dC (e := PyData.int) (x := (0 : Int)) rfl)) (fun syn_1 : Seg => [none, some En.st, sv (eSeg syn_1), none, none, none, none, none, none, none]) (fun _ => rfl) (fun syn_1 q => (s_seq0 (s_if (t_or (t_not (t_val (w_same (w_call1 (w_name (e := eSeg) (x := syn_1) rfl)) (w_call1 (w_name (e := eSeg) (x := syn_1) rfl))))) (t_not (t_val (w_same (w_call1 (w_name (e := eSeg) (x := syn_1) rfl)) (w_call1 (w_name (e := eSeg) (x := syn_1) rfl)))))) (fun q => (s_ret (e := PyData.bool) (w_dC (e := PyData.bool) (x := false) rfl) hQ q)) (fun q => (s_next (s_seq0 (s_asg (e := eTalk) (w_call1 (w_name (e := eSeg) (x := syn_1) rfl)) (fun talk_1 : Talk => [none, some En.st, sv (eSeg syn_1), sv (eTalk talk_1), none, none, none, none, none, none]) (fun _ => rfl) (fun talk_1 q => (s_seq0 (s_for2 (e := PyData.int) (fun (xs : List Int) (s_3 : Talk) => y_law_l1 (fun b : Bool => b = true) (fun (talk_5 : Talk) => (fun b : Bool => b = true) true) xs s_3) (fun (s_3 : Talk) => (fun (talk_5 : Talk) => (fun b : Bool => b = true) true) s_3) (fun (s_3 : Talk) (u_21 : Option D × Option D × Option D × Option D × Option D × Option D) => [none, some En.st, sv (eSeg syn_1), sv (eTalk s_3), (Option.map En.d u_21.1), (Option.map En.d u_21.2.1), (Option.map En.d u_21.2.2.1), (Option.map En.d u_21.2.2.2.1), (Option.map En.d u_21.2.2.2.2.1), (Option.map En.d u_21.2.2.2.2.2)]) talk_1 (none, none, none, none, none, none) rfl (i_r1 (w_I0 (g' := fun i j => i + j) (w_dC (e := PyData.int) (x := (10 : Int)) rfl) (w_take0 rfl (w_dC (e := PyData.int) (x := (50 : Int)) rfl)) (fun _ _ => rfl))) (fun s_3 u_21 q => (s_ret (e := PyData.bool) (w_dC (e := PyData.bool) (x := true) rfl) hQ q)) (fun _ q => q) (fun turn_1 r_1 s_3 u_21 N_1 B_1 hN_1 hB_1 q => (gn (env' := [none, some En.st, sv (eSeg syn_1), sv (eTalk s_3), sv (PyData.int turn_1), (Option.map En.d u_21.2.1), (Option.map En.d u_21.2.2.1), (Option.map En.d u_21.2.2.2.1), (Option.map En.d u_21.2.2.2.2.1), (Option.map En.d u_21.2.2.2.2.2)]) rfl (s_seq0 (s_asg (e := PyData.int) (w_take0 rfl (w_dC (e := PyData.int) (x := (2 : Int)) rfl)) (fun x_1 : Int => [none, some En.st, sv (eSeg syn_1), sv (eTalk s_3), sv (PyData.int turn_1), sv (PyData.int x_1), (Option.map En.d u_21.2.2.1), (Option.map En.d u_21.2.2.2.1), (Option.map En.d u_21.2.2.2.2.1), (Option.map En.d u_21.2.2.2.2.2)]) (fun _ => rfl) (fun x_1 q => (s_seq_cut0 (a := _) (fun s_2 : Int => y_law_j3 s_3 (fun b : Bool => b = true) (y_law_l1 (fun b : Bool => b = true) (fun (talk_5 : Talk) => (fun b : Bool => b = true) true) r_1) s_2) (fun (s_2 : Int) (u_14 : Unit) => [none, some En.st, sv (eSeg syn_1), sv (eTalk s_3), sv (PyData.int turn_1), sv (PyData.int s_2), (Option.map En.d u_21.2.2.1), (Option.map En.d u_21.2.2.2.1), (Option.map En.d u_21.2.2.2.2.1), (Option.map En.d u_21.2.2.2.2.2)]) (fun s_2 u_14 q => (s_seq0 (s_asg (e := PyData.bool) (w_andP (w_I0 (g' := fun i j => decide (j < i)) (w_take0 rfl (w_dC (e := PyData.int) (x := (3 : Int)) rfl)) (w_dC (e := PyData.int) (x := (0 : Int)) rfl) (fun _ _ => rfl)) (w_neS (r := fun (a : Str) (b : Str) => decide (a = b)) (w_prj (e := eTalk) (e' := PyData.str) 0 (fun p : Talk => p.1) (w_name (e := eTalk) (x := s_3) rfl) (fun _ => ⟨_, rfl, dix_nn (by decide) rfl⟩)) (w_dC (e := PyData.str) (x := (Str.ofString "over")) rfl) r_S)) (fun good_1 : Bool => [none, some En.st, sv (eSeg syn_1), sv (eTalk s_3), sv (PyData.int turn_1), sv (PyData.int s_2), sv (PyData.bool good_1), (Option.map En.d u_21.2.2.2.1), (Option.map En.d u_21.2.2.2.2.1), (Option.map En.d u_21.2.2.2.2.2)]) (fun _ => rfl) (fun good_1 q => (s_seq0 (s_asg (e := eSeg) (w_if (t_val (w_name (e := PyData.bool) (x := good_1) rfl)) (w_callS2 rfl (w_name (e := eTalk) (x := s_3) rfl) (w_name (e := PyData.int) (x := s_2) rfl)) (w_callS2 rfl (w_name (e := eTalk) (x := s_3) rfl) (w_name (e := PyData.int) (x := s_2) rfl))) (fun segment_1 : Seg => [none, some En.st, sv (eSeg syn_1), sv (eTalk s_3), sv (PyData.int turn_1), sv (PyData.int s_2), sv (PyData.bool good_1), sv (eSeg segment_1), (Option.map En.d u_21.2.2.2.2.1), (Option.map En.d u_21.2.2.2.2.2)]) (fun _ => rfl) (fun segment_1 q => (s_seq_cut0 (a := _) (fun s_1 : Seg => y_law_j2 s_3 s_2 (fun b : Bool => b = true) (y_law_l1 (fun b : Bool => b = true) (fun (talk_5 : Talk) => (fun b : Bool => b = true) true) r_1) s_1) (fun (s_1 : Seg) (u_13 : Unit) => [none, some En.st, sv (eSeg syn_1), sv (eTalk s_3), sv (PyData.int turn_1), sv (PyData.int s_2), sv (PyData.bool good_1), sv (eSeg s_1), (Option.map En.d u_21.2.2.2.2.1), (Option.map En.d u_21.2.2.2.2.2)]) (fun s_1 u_13 q => (s_seq0 (s_if (t_not (t_val (w_same (w_call1 (w_name (e := eSeg) (x := s_1) rfl)) (w_call1 (w_name (e := eSeg) (x := s_1) rfl))))) (fun q => (s_ret (e := PyData.bool) (w_dC (e := PyData.bool) (x := false) rfl) hQ q)) (fun q => (s_next (s_seq0 (s_asg (e := PyData.str) (w_repr (w_list (l_cons (e := (eU eD)) (w_co (e := eTalk) (e' := (eU eD)) (fun a : Talk => ([(PyData.str a.1), (eSide a.2.1), ((eO eSide) a.2.2)] : (List D))) (w_name (e := eTalk) (x := s_3) rfl) (fun _ => rfl)) (l_cons (e := (eU eD)) (w_co (e := eSeg) (e' := (eU eD)) (fun a : Seg => ([(PyData.str a.1), (PyData.int a.2.1), (PyData.int a.2.2.1), (PyData.int a.2.2.2.1), (PyData.int a.2.2.2.2.1), (PyData.int a.2.2.2.2.2.1), (PyData.int a.2.2.2.2.2.2.1), (PyData.int a.2.2.2.2.2.2.2.1), ((eU PyData.int) a.2.2.2.2.2.2.2.2.1), ((eU PyData.int) a.2.2.2.2.2.2.2.2.2)] : (List D))) (w_name (e := eSeg) (x := s_1) rfl) (fun _ => rfl)) (l_nil (e := (eU eD))))))) (fun kept_1 : Str => [none, some En.st, sv (eSeg syn_1), sv (eTalk s_3), sv (PyData.int turn_1), sv (PyData.int s_2), sv (PyData.bool good_1), sv (eSeg s_1), sv (PyData.str kept_1), (Option.map En.d u_21.2.2.2.2.2)]) (fun _ => rfl) (fun kept_1 q => (s_seq0 (s_asg (e := (eT2 PyData.str eTalk)) (w_call3 (w_name (e := eTalk) (x := s_3) rfl) (w_name (e := PyData.int) (x := s_2) rfl) (w_name (e := eSeg) (x := s_1) rfl)) (fun due_1 : (Str × Talk) => [none, some En.st, sv (eSeg syn_1), sv (eTalk s_3), sv (PyData.int turn_1), sv (PyData.int s_2), sv (PyData.bool good_1), sv (eSeg s_1), sv (PyData.str kept_1), sv ((eT2 PyData.str eTalk) due_1)]) (fun _ => rfl) (fun due_1 q => (s_seq0 (s_if (t_or (t_not (t_val (w_same (w_call3 (w_name (e := eTalk) (x := s_3) rfl) (w_name (e := PyData.int) (x := s_2) rfl) (w_name (e := eSeg) (x := s_1) rfl)) (w_name (e := (eT2 PyData.str eTalk)) (x := due_1) rfl)))) (t_val (w_neS (r := fun (a : Str) (b : Str) => decide (a = b)) (w_repr (w_list (l_cons (e := (eU eD)) (w_co (e := eTalk) (e' := (eU eD)) (fun a : Talk => ([(PyData.str a.1), (eSide a.2.1), ((eO eSide) a.2.2)] : (List D))) (w_name (e := eTalk) (x := s_3) rfl) (fun _ => rfl)) (l_cons (e := (eU eD)) (w_co (e := eSeg) (e' := (eU eD)) (fun a : Seg => ([(PyData.str a.1), (PyData.int a.2.1), (PyData.int a.2.2.1), (PyData.int a.2.2.2.1), (PyData.int a.2.2.2.2.1), (PyData.int a.2.2.2.2.2.1), (PyData.int a.2.2.2.2.2.2.1), (PyData.int a.2.2.2.2.2.2.2.1), ((eU PyData.int) a.2.2.2.2.2.2.2.2.1), ((eU PyData.int) a.2.2.2.2.2.2.2.2.2)] : (List D))) (w_name (e := eSeg) (x := s_1) rfl) (fun _ => rfl)) (l_nil (e := (eU eD))))))) (w_name (e := PyData.str) (x := kept_1) rfl) r_S))) (fun q => (s_ret (e := PyData.bool) (w_dC (e := PyData.bool) (x := false) rfl) hQ q)) (fun q => (s_next (s_asg (e := eTalk) (w_prj (e := (eT2 PyData.str eTalk)) (e' := eTalk) 1 (fun p : (Str × Talk) => p.2) (w_name (e := (eT2 PyData.str eTalk)) (x := due_1) rfl) (fun _ => ⟨_, rfl, dix_nn (by decide) rfl⟩)) (fun talk_4 : Talk => [none, some En.st, sv (eSeg syn_1), sv (eTalk talk_4), sv (PyData.int turn_1), sv (PyData.int s_2), sv (PyData.bool good_1), sv (eSeg s_1), sv (PyData.str kept_1), sv ((eT2 PyData.str eTalk) due_1)]) (fun _ => rfl) (fun talk_4 q => (hN_1 talk_4 ((some (PyData.int turn_1)), (some (PyData.int s_2)), (some (PyData.bool good_1)), (some (eSeg s_1)), (some (PyData.str kept_1)), (some ((eT2 PyData.str eTalk) due_1))) q)) q))) q))) q))) q)))) q))) (fun N_2 hN_2 => (s_if (t_and (t_not (t_val (w_name (e := PyData.bool) (x := good_1) rfl))) (t_and (t_val (w_eqS (r := fun (a : Int) (b : Int) => decide (a = b)) (w_ix (e := PyData.int) (w_call1 (w_name (e := eSeg) (x := segment_1) rfl)) (w_dC (e := PyData.int) (x := (2 : Int)) rfl) (fun _ => rfl)) (w_dC (e := PyData.int) (x := (1 : Int)) rfl) r_I)) (t_val (w_I0 (g' := fun i j => decide (j < i)) (w_take0 rfl (w_dC (e := PyData.int) (x := (3 : Int)) rfl)) (w_dC (e := PyData.int) (x := (0 : Int)) rfl) (fun _ _ => rfl))))) (fun q => (s_asg (e := eSeg) (w_if (t_val (w_neS (r := fun (a : Str) (b : Str) => decide (a = b)) (w_prj (e := eTalk) (e' := PyData.str) 0 (fun p : Talk => p.1) (w_name (e := eTalk) (x := s_3) rfl) (fun _ => ⟨_, rfl, dix_nn (by decide) rfl⟩)) (w_dC (e := PyData.str) (x := (Str.ofString "over")) rfl) r_S)) (w_callS2 rfl (w_name (e := eTalk) (x := s_3) rfl) (w_name (e := PyData.int) (x := s_2) rfl)) (w_callS2 rfl (w_name (e := eTalk) (x := s_3) rfl) (w_name (e := PyData.int) (x := s_2) rfl))) (fun segment_3 : Seg => [none, some En.st, sv (eSeg syn_1), sv (eTalk s_3), sv (PyData.int turn_1), sv (PyData.int s_2), sv (PyData.bool good_1), sv (eSeg segment_3), (Option.map En.d u_21.2.2.2.2.1), (Option.map En.d u_21.2.2.2.2.2)]) (fun _ => rfl) (fun segment_3 q => (hN_2 segment_3 () q)) q)) (fun q => (s_next (hN_2 segment_1 () q))) q)))) q))) q))) (fun N_3 hN_3 => (s_if (t_and (t_val (w_eqS (r := fun (a : Str) (b : Str) => decide (a = b)) (w_prj (e := eTalk) (e' := PyData.str) 0 (fun p : Talk => p.1) (w_name (e := eTalk) (x := s_3) rfl) (fun _ => ⟨_, rfl, dix_nn (by decide) rfl⟩)) (w_dC (e := PyData.str) (x := (Str.ofString "asked")) rfl) r_S)) (t_val (w_eqS (r := fun (a : Int) (b : Int) => decide (a = b)) (w_take0 rfl (w_dC (e := PyData.int) (x := (2 : Int)) rfl)) (w_dC (e := PyData.int) (x := (0 : Int)) rfl) r_I))) (fun q => (s_asg (e := PyData.int) (w_dC (e := PyData.int) (x := (1 : Int)) rfl) (fun x_3 : Int => [none, some En.st, sv (eSeg syn_1), sv (eTalk s_3), sv (PyData.int turn_1), sv (PyData.int x_3), (Option.map En.d u_21.2.2.1), (Option.map En.d u_21.2.2.2.1), (Option.map En.d u_21.2.2.2.2.1), (Option.map En.d u_21.2.2.2.2.2)]) (fun _ => rfl) (fun x_3 q => (hN_3 x_3 () q)) q)) (fun q => (s_next (hN_3 x_1 () q))) q)))) q)))) q))) q)))) q))) q)))) q))
end
theorem all_mk {l : PySem.W.OpenLaw} {w : World} {K : PySem.W.Frag} {h : Heap} {mg : Str → Option Value} {fa f0 f1 f2 f3 f4 f5 f6 f7 f8 f9 f10 f11 f12 f13 f14 f15 f16 f17 f18 f19 f20 f21 f22 f23 f24 f25 f26 f27 f28 f29 f30 f31 f32 f33 f34 f35 f36 f37 f38 f39 f40 f41 f42 f43 f44 f45 f46 f47 : Addr} (X : K.In h) (G : h.Ns mainGlobals mg) (hfa : mg "law" = some (.ref fa))
    {od0 an0 od1 an1 od2 an2 od3 an3 od4 an4 od5 an5 od6 an6 od7 an7 od8 an8 od9 an9 od10 an10 od11 an11 od12 an12 od13 an13 od14 an14 od15 an15 od16 an16 od17 an17 od18 an18 od19 an19 od20 an20 od21 an21 od22 an22 od23 an23 od24 an24 od25 an25 od26 an26 od27 an27 od28 an28 od29 an29 od30 an30 od31 an31 od32 an32 od33 an33 od34 an34 od35 an35 od36 an36 od37 an37 od38 an38 od39 an39 od40 an40 od41 an41 od42 an42 od43 an43 od44 an44 od45 an45 od46 an46 od47 an47 : Option Addr} {sl0 sl1 sl2 sl3 sl4 sl5 sl6 sl7 sl8 sl9 sl10 sl11 sl12 sl13 sl14 sl15 sl16 sl17 sl18 sl19 sl20 sl21 sl22 sl23 sl24 sl25 sl26 sl27 sl28 sl29 sl30 sl31 sl32 sl33 sl34 sl35 sl36 sl37 sl38 sl39 sl40 sl41 sl42 sl43 sl44 sl45 sl46 sl47 : Array (Option Value)} {oc0 kV0 dc0 pm0 cd0 ct0 oc1 kV1 dc1 pm1 cd1 ct1 oc2 kV2 dc2 pm2 cd2 ct2 oc3 kV3 dc3 pm3 cd3 ct3 oc4 kV4 dc4 pm4 cd4 ct4 oc5 kV5 dc5 pm5 cd5 ct5 oc6 kV6 dc6 pm6 cd6 ct6 oc7 kV7 dc7 pm7 cd7 ct7 oc8 kV8 dc8 pm8 cd8 ct8 oc9 kV9 dc9 pm9 cd9 ct9 oc10 kV10 dc10 pm10 cd10 ct10 oc11 kV11 dc11 pm11 cd11 ct11 oc12 kV12 dc12 pm12 cd12 ct12 oc13 kV13 dc13 pm13 cd13 ct13 oc14 kV14 dc14 pm14 cd14 ct14 oc15 kV15 dc15 pm15 cd15 ct15 oc16 kV16 dc16 pm16 cd16 ct16 oc17 kV17 dc17 pm17 cd17 ct17 oc18 kV18 dc18 pm18 cd18 ct18 oc19 kV19 dc19 pm19 cd19 ct19 oc20 kV20 dc20 pm20 cd20 ct20 oc21 kV21 dc21 pm21 cd21 ct21 oc22 kV22 dc22 pm22 cd22 ct22 oc23 kV23 dc23 pm23 cd23 ct23 oc24 kV24 dc24 pm24 cd24 ct24 oc25 kV25 dc25 pm25 cd25 ct25 oc26 kV26 dc26 pm26 cd26 ct26 oc27 kV27 dc27 pm27 cd27 ct27 oc28 kV28 dc28 pm28 cd28 ct28 oc29 kV29 dc29 pm29 cd29 ct29 oc30 kV30 dc30 pm30 cd30 ct30 oc31 kV31 dc31 pm31 cd31 ct31 oc32 kV32 dc32 pm32 cd32 ct32 oc33 kV33 dc33 pm33 cd33 ct33 oc34 kV34 dc34 pm34 cd34 ct34 oc35 kV35 dc35 pm35 cd35 ct35 oc36 kV36 dc36 pm36 cd36 ct36 oc37 kV37 dc37 pm37 cd37 ct37 oc38 kV38 dc38 pm38 cd38 ct38 oc39 kV39 dc39 pm39 cd39 ct39 oc40 kV40 dc40 pm40 cd40 ct40 oc41 kV41 dc41 pm41 cd41 ct41 oc42 kV42 dc42 pm42 cd42 ct42 oc43 kV43 dc43 pm43 cd43 ct43 oc44 kV44 dc44 pm44 cd44 ct44 oc45 kV45 dc45 pm45 cd45 ct45 oc46 kV46 dc46 pm46 cd46 ct46 oc47 kV47 dc47 pm47 cd47 ct47 : Value} {t_AROUND t_HALF t_SYN t_SYN_ACK t_ACK t_FIN_ACK t_RST t_RST_ACK t_START t_END t_TOP t_WIDE t_HEARD t_SHIFT t_FIN t_SEQ t_ACKED t_FLAGS t_WINDOW t_OPTIONS t_DATA t_BEHIND : Tok}
    (a0 : PySem.W.nsIn K mainGlobals "after" = some (some (.ref f0))) (l0 : K.lookup f0 = some ⟨oc0, od0, .func (PySem.W.fnOf "after" "after" (defArgs s_after) (defBody s_after) (defScope s_after) .none kV0 dc0 pm0 an0 cd0 ct0), sl0⟩) (c0 : PySem.W.codeIn K cd0 "after" = true) (k0 : PySem.W.keepIn K (.ref f0) = true)
    (a1 : PySem.W.nsIn K mainGlobals "between" = some (some (.ref f1))) (l1 : K.lookup f1 = some ⟨oc1, od1, .func (PySem.W.fnOf "between" "between" (defArgs s_between) (defBody s_between) (defScope s_between) .none kV1 dc1 pm1 an1 cd1 ct1), sl1⟩) (c1 : PySem.W.codeIn K cd1 "between" = true) (k1 : PySem.W.keepIn K (.ref f1) = true)
    (a2 : PySem.W.nsIn K mainGlobals "later" = some (some (.ref f2))) (l2 : K.lookup f2 = some ⟨oc2, od2, .func (PySem.W.fnOf "later" "later" (defArgs s_later) (defBody s_later) (defScope s_later) .none kV2 dc2 pm2 an2 cd2 ct2), sl2⟩) (c2 : PySem.W.codeIn K cd2 "later" = true) (k2 : PySem.W.keepIn K (.ref f2) = true)
    (a3 : PySem.W.nsIn K mainGlobals "later_one" = some (some (.ref f3))) (l3 : K.lookup f3 = some ⟨oc3, od3, .func (PySem.W.fnOf "later_one" "later_one" (defArgs s_later_one) (defBody s_later_one) (defScope s_later_one) .none kV3 dc3 pm3 an3 cd3 ct3), sl3⟩) (c3 : PySem.W.codeIn K cd3 "later_one" = true) (k3 : PySem.W.keepIn K (.ref f3) = true)
    (a4 : PySem.W.nsIn K mainGlobals "lies" = some (some (.ref f4))) (l4 : K.lookup f4 = some ⟨oc4, od4, .func (PySem.W.fnOf "lies" "lies" (defArgs s_lies) (defBody s_lies) (defScope s_lies) .none kV4 dc4 pm4 an4 cd4 ct4), sl4⟩) (c4 : PySem.W.codeIn K cd4 "lies" = true) (k4 : PySem.W.keepIn K (.ref f4) = true)
    (a5 : PySem.W.nsIn K mainGlobals "shift_of" = some (some (.ref f5))) (l5 : K.lookup f5 = some ⟨oc5, od5, .func (PySem.W.fnOf "shift_of" "shift_of" (defArgs s_shift_of) (defBody s_shift_of) (defScope s_shift_of) .none kV5 dc5 pm5 an5 cd5 ct5), sl5⟩) (c5 : PySem.W.codeIn K cd5 "shift_of" = true) (k5 : PySem.W.keepIn K (.ref f5) = true)
    (a6 : PySem.W.nsIn K mainGlobals "_length_at" = some (some (.ref f6))) (l6 : K.lookup f6 = some ⟨oc6, od6, .func (PySem.W.fnOf "_length_at" "_length_at" (defArgs s_length_at) (defBody s_length_at) (defScope s_length_at) .none kV6 dc6 pm6 an6 cd6 ct6), sl6⟩) (c6 : PySem.W.codeIn K cd6 "_length_at" = true) (k6 : PySem.W.keepIn K (.ref f6) = true)
    (a7 : PySem.W.nsIn K mainGlobals "segment_end" = some (some (.ref f7))) (l7 : K.lookup f7 = some ⟨oc7, od7, .func (PySem.W.fnOf "segment_end" "segment_end" (defArgs s_segment_end) (defBody s_segment_end) (defScope s_segment_end) .none kV7 dc7 pm7 an7 cd7 ct7), sl7⟩) (c7 : PySem.W.codeIn K cd7 "segment_end" = true) (k7 : PySem.W.keepIn K (.ref f7) = true)
    (a8 : PySem.W.nsIn K mainGlobals "begun" = some (some (.ref f8))) (l8 : K.lookup f8 = some ⟨oc8, od8, .func (PySem.W.fnOf "begun" "begun" (defArgs s_begun) (defBody s_begun) (defScope s_begun) .none kV8 dc8 pm8 an8 cd8 ct8), sl8⟩) (c8 : PySem.W.codeIn K cd8 "begun" = true) (k8 : PySem.W.keepIn K (.ref f8) = true)
    (a9 : PySem.W.nsIn K mainGlobals "tracked" = some (some (.ref f9))) (l9 : K.lookup f9 = some ⟨oc9, od9, .func (PySem.W.fnOf "tracked" "tracked" (defArgs s_tracked) (defBody s_tracked) (defScope s_tracked) .none kV9 dc9 pm9 an9 cd9 ct9), sl9⟩) (c9 : PySem.W.codeIn K cd9 "tracked" = true) (k9 : PySem.W.keepIn K (.ref f9) = true)
    (a10 : PySem.W.nsIn K mainGlobals "_form" = some (some (.ref f10))) (l10 : K.lookup f10 = some ⟨oc10, od10, .func (PySem.W.fnOf "_form" "_form" (defArgs s_form) (defBody s_form) (defScope s_form) .none kV10 dc10 pm10 an10 cd10 ct10), sl10⟩) (c10 : PySem.W.codeIn K cd10 "_form" = true) (k10 : PySem.W.keepIn K (.ref f10) = true)
    (a11 : PySem.W.nsIn K mainGlobals "_is_odd" = some (some (.ref f11))) (l11 : K.lookup f11 = some ⟨oc11, od11, .func (PySem.W.fnOf "_is_odd" "_is_odd" (defArgs s_is_odd) (defBody s_is_odd) (defScope s_is_odd) .none kV11 dc11 pm11 an11 cd11 ct11), sl11⟩) (c11 : PySem.W.codeIn K cd11 "_is_odd" = true) (k11 : PySem.W.keepIn K (.ref f11) = true)
    (a12 : PySem.W.nsIn K mainGlobals "_is_rst" = some (some (.ref f12))) (l12 : K.lookup f12 = some ⟨oc12, od12, .func (PySem.W.fnOf "_is_rst" "_is_rst" (defArgs s_is_rst) (defBody s_is_rst) (defScope s_is_rst) .none kV12 dc12 pm12 an12 cd12 ct12), sl12⟩) (c12 : PySem.W.codeIn K cd12 "_is_rst" = true) (k12 : PySem.W.keepIn K (.ref f12) = true)
    (a13 : PySem.W.nsIn K mainGlobals "_width" = some (some (.ref f13))) (l13 : K.lookup f13 = some ⟨oc13, od13, .func (PySem.W.fnOf "_width" "_width" (defArgs s_width) (defBody s_width) (defScope s_width) .none kV13 dc13 pm13 an13 cd13 ct13), sl13⟩) (c13 : PySem.W.codeIn K cd13 "_width" = true) (k13 : PySem.W.keepIn K (.ref f13) = true)
    (a14 : PySem.W.nsIn K mainGlobals "_ended" = some (some (.ref f14))) (l14 : K.lookup f14 = some ⟨oc14, od14, .func (PySem.W.fnOf "_ended" "_ended" (defArgs s_ended) (defBody s_ended) (defScope s_ended) .none kV14 dc14 pm14 an14 cd14 ct14), sl14⟩) (c14 : PySem.W.codeIn K cd14 "_ended" = true) (k14 : PySem.W.keepIn K (.ref f14) = true)
    (a15 : PySem.W.nsIn K mainGlobals "_is_first_syn" = some (some (.ref f15))) (l15 : K.lookup f15 = some ⟨oc15, od15, .func (PySem.W.fnOf "_is_first_syn" "_is_first_syn" (defArgs s_is_first_syn) (defBody s_is_first_syn) (defScope s_is_first_syn) .none kV15 dc15 pm15 an15 cd15 ct15), sl15⟩) (c15 : PySem.W.codeIn K cd15 "_is_first_syn" = true) (k15 : PySem.W.keepIn K (.ref f15) = true)
    (a16 : PySem.W.nsIn K mainGlobals "_in_asked" = some (some (.ref f16))) (l16 : K.lookup f16 = some ⟨oc16, od16, .func (PySem.W.fnOf "_in_asked" "_in_asked" (defArgs s_in_asked) (defBody s_in_asked) (defScope s_in_asked) .none kV16 dc16 pm16 an16 cd16 ct16), sl16⟩) (c16 : PySem.W.codeIn K cd16 "_in_asked" = true) (k16 : PySem.W.keepIn K (.ref f16) = true)
    (a17 : PySem.W.nsIn K mainGlobals "_answered" = some (some (.ref f17))) (l17 : K.lookup f17 = some ⟨oc17, od17, .func (PySem.W.fnOf "_answered" "_answered" (defArgs s_answered) (defBody s_answered) (defScope s_answered) .none kV17 dc17 pm17 an17 cd17 ct17), sl17⟩) (c17 : PySem.W.codeIn K cd17 "_answered" = true) (k17 : PySem.W.keepIn K (.ref f17) = true)
    (a18 : PySem.W.nsIn K mainGlobals "_in_answered" = some (some (.ref f18))) (l18 : K.lookup f18 = some ⟨oc18, od18, .func (PySem.W.fnOf "_in_answered" "_in_answered" (defArgs s_in_answered) (defBody s_in_answered) (defScope s_in_answered) .none kV18 dc18 pm18 an18 cd18 ct18), sl18⟩) (c18 : PySem.W.codeIn K cd18 "_in_answered" = true) (k18 : PySem.W.keepIn K (.ref f18) = true)
    (a19 : PySem.W.nsIn K mainGlobals "_is_syn_ack" = some (some (.ref f19))) (l19 : K.lookup f19 = some ⟨oc19, od19, .func (PySem.W.fnOf "_is_syn_ack" "_is_syn_ack" (defArgs s_is_syn_ack) (defBody s_is_syn_ack) (defScope s_is_syn_ack) .none kV19 dc19 pm19 an19 cd19 ct19), sl19⟩) (c19 : PySem.W.codeIn K cd19 "_is_syn_ack" = true) (k19 : PySem.W.keepIn K (.ref f19) = true)
    (a20 : PySem.W.nsIn K mainGlobals "_lies_well" = some (some (.ref f20))) (l20 : K.lookup f20 = some ⟨oc20, od20, .func (PySem.W.fnOf "_lies_well" "_lies_well" (defArgs s_lies_well) (defBody s_lies_well) (defScope s_lies_well) .none kV20 dc20 pm20 an20 cd20 ct20), sl20⟩) (c20 : PySem.W.codeIn K cd20 "_lies_well" = true) (k20 : PySem.W.keepIn K (.ref f20) = true)
    (a21 : PySem.W.nsIn K mainGlobals "_in_open" = some (some (.ref f21))) (l21 : K.lookup f21 = some ⟨oc21, od21, .func (PySem.W.fnOf "_in_open" "_in_open" (defArgs s_in_open) (defBody s_in_open) (defScope s_in_open) .none kV21 dc21 pm21 an21 cd21 ct21), sl21⟩) (c21 : PySem.W.codeIn K cd21 "_in_open" = true) (k21 : PySem.W.keepIn K (.ref f21) = true)
    (a22 : PySem.W.nsIn K mainGlobals "_taken" = some (some (.ref f22))) (l22 : K.lookup f22 = some ⟨oc22, od22, .func (PySem.W.fnOf "_taken" "_taken" (defArgs s_taken) (defBody s_taken) (defScope s_taken) .none kV22 dc22 pm22 an22 cd22 ct22), sl22⟩) (c22 : PySem.W.codeIn K cd22 "_taken" = true) (k22 : PySem.W.keepIn K (.ref f22) = true)
    (a23 : PySem.W.nsIn K mainGlobals "_state_of" = some (some (.ref f23))) (l23 : K.lookup f23 = some ⟨oc23, od23, .func (PySem.W.fnOf "_state_of" "_state_of" (defArgs s_state_of) (defBody s_state_of) (defScope s_state_of) .none kV23 dc23 pm23 an23 cd23 ct23), sl23⟩) (c23 : PySem.W.codeIn K cd23 "_state_of" = true) (k23 : PySem.W.keepIn K (.ref f23) = true)
    (a24 : PySem.W.nsIn K mainGlobals "_word_in_over" = some (some (.ref f24))) (l24 : K.lookup f24 = some ⟨oc24, od24, .func (PySem.W.fnOf "_word_in_over" "_word_in_over" (defArgs s_word_in_over) (defBody s_word_in_over) (defScope s_word_in_over) .none kV24 dc24 pm24 an24 cd24 ct24), sl24⟩) (c24 : PySem.W.codeIn K cd24 "_word_in_over" = true) (k24 : PySem.W.keepIn K (.ref f24) = true)
    (a25 : PySem.W.nsIn K mainGlobals "_law_state" = some (some (.ref f25))) (l25 : K.lookup f25 = some ⟨oc25, od25, .func (PySem.W.fnOf "_law_state" "_law_state" (defArgs s_law_state) (defBody s_law_state) (defScope s_law_state) .none kV25 dc25 pm25 an25 cd25 ct25), sl25⟩) (c25 : PySem.W.codeIn K cd25 "_law_state" = true) (k25 : PySem.W.keepIn K (.ref f25) = true)
    (a26 : PySem.W.nsIn K mainGlobals "_law_take" = some (some (.ref f26))) (l26 : K.lookup f26 = some ⟨oc26, od26, .func (PySem.W.fnOf "_law_take" "_law_take" (defArgs s_law_take) (defBody s_law_take) (defScope s_law_take) .none kV26 dc26 pm26 an26 cd26 ct26), sl26⟩) (c26 : PySem.W.codeIn K cd26 "_law_take" = true) (k26 : PySem.W.keepIn K (.ref f26) = true)
    (a27 : PySem.W.nsIn K mainGlobals "_law_pick" = some (some (.ref f27))) (l27 : K.lookup f27 = some ⟨oc27, od27, .func (PySem.W.fnOf "_law_pick" "_law_pick" (defArgs s_law_pick) (defBody s_law_pick) (defScope s_law_pick) .none kV27 dc27 pm27 an27 cd27 ct27), sl27⟩) (c27 : PySem.W.codeIn K cd27 "_law_pick" = true) (k27 : PySem.W.keepIn K (.ref f27) = true)
    (a28 : PySem.W.nsIn K mainGlobals "_law_same" = some (some (.ref f28))) (l28 : K.lookup f28 = some ⟨oc28, od28, .func (PySem.W.fnOf "_law_same" "_law_same" (defArgs s_law_same) (defBody s_law_same) (defScope s_law_same) .none kV28 dc28 pm28 an28 cd28 ct28), sl28⟩) (c28 : PySem.W.codeIn K cd28 "_law_same" = true) (k28 : PySem.W.keepIn K (.ref f28) = true)
    (a29 : PySem.W.nsIn K mainGlobals "_law_number" = some (some (.ref f29))) (l29 : K.lookup f29 = some ⟨oc29, od29, .func (PySem.W.fnOf "_law_number" "_law_number" (defArgs s_law_number) (defBody s_law_number) (defScope s_law_number) .none kV29 dc29 pm29 an29 cd29 ct29), sl29⟩) (c29 : PySem.W.codeIn K cd29 "_law_number" = true) (k29 : PySem.W.keepIn K (.ref f29) = true)
    (a30 : PySem.W.nsIn K mainGlobals "_law_mod" = some (some (.ref f30))) (l30 : K.lookup f30 = some ⟨oc30, od30, .func (PySem.W.fnOf "_law_mod" "_law_mod" (defArgs s_law_mod) (defBody s_law_mod) (defScope s_law_mod) .none kV30 dc30 pm30 an30 cd30 ct30), sl30⟩) (c30 : PySem.W.codeIn K cd30 "_law_mod" = true) (k30 : PySem.W.keepIn K (.ref f30) = true)
    (a31 : PySem.W.nsIn K mainGlobals "_law_later" = some (some (.ref f31))) (l31 : K.lookup f31 = some ⟨oc31, od31, .func (PySem.W.fnOf "_law_later" "_law_later" (defArgs s_law_later) (defBody s_law_later) (defScope s_law_later) .none kV31 dc31 pm31 an31 cd31 ct31), sl31⟩) (c31 : PySem.W.codeIn K cd31 "_law_later" = true) (k31 : PySem.W.keepIn K (.ref f31) = true)
    (a32 : PySem.W.nsIn K mainGlobals "_law_shift" = some (some (.ref f32))) (l32 : K.lookup f32 = some ⟨oc32, od32, .func (PySem.W.fnOf "_law_shift" "_law_shift" (defArgs s_law_shift) (defBody s_law_shift) (defScope s_law_shift) .none kV32 dc32 pm32 an32 cd32 ct32), sl32⟩) (c32 : PySem.W.codeIn K cd32 "_law_shift" = true) (k32 : PySem.W.keepIn K (.ref f32) = true)
    (a33 : PySem.W.nsIn K mainGlobals "_law_form" = some (some (.ref f33))) (l33 : K.lookup f33 = some ⟨oc33, od33, .func (PySem.W.fnOf "_law_form" "_law_form" (defArgs s_law_form) (defBody s_law_form) (defScope s_law_form) .none kV33 dc33 pm33 an33 cd33 ct33), sl33⟩) (c33 : PySem.W.codeIn K cd33 "_law_form" = true) (k33 : PySem.W.keepIn K (.ref f33) = true)
    (a34 : PySem.W.nsIn K mainGlobals "_law_is_odd" = some (some (.ref f34))) (l34 : K.lookup f34 = some ⟨oc34, od34, .func (PySem.W.fnOf "_law_is_odd" "_law_is_odd" (defArgs s_law_is_odd) (defBody s_law_is_odd) (defScope s_law_is_odd) .none kV34 dc34 pm34 an34 cd34 ct34), sl34⟩) (c34 : PySem.W.codeIn K cd34 "_law_is_odd" = true) (k34 : PySem.W.keepIn K (.ref f34) = true)
    (a35 : PySem.W.nsIn K mainGlobals "_law_end" = some (some (.ref f35))) (l35 : K.lookup f35 = some ⟨oc35, od35, .func (PySem.W.fnOf "_law_end" "_law_end" (defArgs s_law_end) (defBody s_law_end) (defScope s_law_end) .none kV35 dc35 pm35 an35 cd35 ct35), sl35⟩) (c35 : PySem.W.codeIn K cd35 "_law_end" = true) (k35 : PySem.W.keepIn K (.ref f35) = true)
    (a36 : PySem.W.nsIn K mainGlobals "_law_well" = some (some (.ref f36))) (l36 : K.lookup f36 = some ⟨oc36, od36, .func (PySem.W.fnOf "_law_well" "_law_well" (defArgs s_law_well) (defBody s_law_well) (defScope s_law_well) .none kV36 dc36 pm36 an36 cd36 ct36), sl36⟩) (c36 : PySem.W.codeIn K cd36 "_law_well" = true) (k36 : PySem.W.keepIn K (.ref f36) = true)
    (a37 : PySem.W.nsIn K mainGlobals "_law_behind" = some (some (.ref f37))) (l37 : K.lookup f37 = some ⟨oc37, od37, .func (PySem.W.fnOf "_law_behind" "_law_behind" (defArgs s_law_behind) (defBody s_law_behind) (defScope s_law_behind) .none kV37 dc37 pm37 an37 cd37 ct37), sl37⟩) (c37 : PySem.W.codeIn K cd37 "_law_behind" = true) (k37 : PySem.W.keepIn K (.ref f37) = true)
    (a38 : PySem.W.nsIn K mainGlobals "_law_asked" = some (some (.ref f38))) (l38 : K.lookup f38 = some ⟨oc38, od38, .func (PySem.W.fnOf "_law_asked" "_law_asked" (defArgs s_law_asked) (defBody s_law_asked) (defScope s_law_asked) .none kV38 dc38 pm38 an38 cd38 ct38), sl38⟩) (c38 : PySem.W.codeIn K cd38 "_law_asked" = true) (k38 : PySem.W.keepIn K (.ref f38) = true)
    (a39 : PySem.W.nsIn K mainGlobals "_law_track" = some (some (.ref f39))) (l39 : K.lookup f39 = some ⟨oc39, od39, .func (PySem.W.fnOf "_law_track" "_law_track" (defArgs s_law_track) (defBody s_law_track) (defScope s_law_track) .none kV39 dc39 pm39 an39 cd39 ct39), sl39⟩) (c39 : PySem.W.codeIn K cd39 "_law_track" = true) (k39 : PySem.W.keepIn K (.ref f39) = true)
    (a40 : PySem.W.nsIn K mainGlobals "_law_options" = some (some (.ref f40))) (l40 : K.lookup f40 = some ⟨oc40, od40, .func (PySem.W.fnOf "_law_options" "_law_options" (defArgs s_law_options) (defBody s_law_options) (defScope s_law_options) .none kV40 dc40 pm40 an40 cd40 ct40), sl40⟩) (c40 : PySem.W.codeIn K cd40 "_law_options" = true) (k40 : PySem.W.keepIn K (.ref f40) = true)
    (a41 : PySem.W.nsIn K mainGlobals "_law_segment" = some (some (.ref f41))) (l41 : K.lookup f41 = some ⟨oc41, od41, .func (PySem.W.fnOf "_law_segment" "_law_segment" (defArgs s_law_segment) (defBody s_law_segment) (defScope s_law_segment) .none kV41 dc41 pm41 an41 cd41 ct41), sl41⟩) (c41 : PySem.W.codeIn K cd41 "_law_segment" = true) (k41 : PySem.W.keepIn K (.ref f41) = true)
    (a42 : PySem.W.nsIn K mainGlobals "_law_near_segment" = some (some (.ref f42))) (l42 : K.lookup f42 = some ⟨oc42, od42, .func (PySem.W.fnOf "_law_near_segment" "_law_near_segment" (defArgs s_law_near_segment) (defBody s_law_near_segment) (defScope s_law_near_segment) .none kV42 dc42 pm42 an42 cd42 ct42), sl42⟩) (c42 : PySem.W.codeIn K cd42 "_law_near_segment" = true) (k42 : PySem.W.keepIn K (.ref f42) = true)
    (a43 : PySem.W.nsIn K mainGlobals "_law_good_segment" = some (some (.ref f43))) (l43 : K.lookup f43 = some ⟨oc43, od43, .func (PySem.W.fnOf "_law_good_segment" "_law_good_segment" (defArgs s_law_good_segment) (defBody s_law_good_segment) (defScope s_law_good_segment) .none kV43 dc43 pm43 an43 cd43 ct43), sl43⟩) (c43 : PySem.W.codeIn K cd43 "_law_good_segment" = true) (k43 : PySem.W.keepIn K (.ref f43) = true)
    (a44 : PySem.W.nsIn K mainGlobals "_law_start" = some (some (.ref f44))) (l44 : K.lookup f44 = some ⟨oc44, od44, .func (PySem.W.fnOf "_law_start" "_law_start" (defArgs s_law_start) (defBody s_law_start) (defScope s_law_start) .none kV44 dc44 pm44 an44 cd44 ct44), sl44⟩) (c44 : PySem.W.codeIn K cd44 "_law_start" = true) (k44 : PySem.W.keepIn K (.ref f44) = true)
    (a45 : PySem.W.nsIn K mainGlobals "_law_begun" = some (some (.ref f45))) (l45 : K.lookup f45 = some ⟨oc45, od45, .func (PySem.W.fnOf "_law_begun" "_law_begun" (defArgs s_law_begun) (defBody s_law_begun) (defScope s_law_begun) .none kV45 dc45 pm45 an45 cd45 ct45), sl45⟩) (c45 : PySem.W.codeIn K cd45 "_law_begun" = true) (k45 : PySem.W.keepIn K (.ref f45) = true)
    (a46 : PySem.W.nsIn K mainGlobals "_law_worked" = some (some (.ref f46))) (l46 : K.lookup f46 = some ⟨oc46, od46, .func (PySem.W.fnOf "_law_worked" "_law_worked" (defArgs s_law_worked) (defBody s_law_worked) (defScope s_law_worked) .none kV46 dc46 pm46 an46 cd46 ct46), sl46⟩) (c46 : PySem.W.codeIn K cd46 "_law_worked" = true) (k46 : PySem.W.keepIn K (.ref f46) = true)
    (a47 : PySem.W.nsIn K mainGlobals "law" = some (some (.ref f47))) (l47 : K.lookup f47 = some ⟨oc47, od47, .func (PySem.W.fnOf "law" "law" (defArgs s_law) (defBody s_law) (defScope s_law) .none kV47 dc47 pm47 an47 cd47 ct47), sl47⟩) (c47 : PySem.W.codeIn K cd47 "law" = true) (k47 : PySem.W.keepIn K (.ref f47) = true)
    (z_len : PySem.W.nsIn K mainGlobals "len" = some none)
    (z_min : PySem.W.nsIn K mainGlobals "min" = some none)
    (z_max : PySem.W.nsIn K mainGlobals "max" = some none)
    (z_abs : PySem.W.nsIn K mainGlobals "abs" = some none)
    (z_int : PySem.W.nsIn K mainGlobals "int" = some none)
    (z_isinstance : PySem.W.nsIn K mainGlobals "isinstance" = some none)
    (z_dict : PySem.W.nsIn K mainGlobals "dict" = some none)
    (z_all : PySem.W.nsIn K mainGlobals "all" = some none)
    (z_bool : PySem.W.nsIn K mainGlobals "bool" = some none)
    (z_str : PySem.W.nsIn K mainGlobals "str" = some none)
    (z_tuple : PySem.W.nsIn K mainGlobals "tuple" = some none)
    (z_list : PySem.W.nsIn K mainGlobals "list" = some none)
    (z_range : PySem.W.nsIn K mainGlobals "range" = some none)
    (z_repr : PySem.W.nsIn K mainGlobals "repr" = some none)
    (y_AROUND : PySem.W.nsIn K mainGlobals "AROUND" = some (some (Value.int 4294967296 t_AROUND)))
    (y_HALF : PySem.W.nsIn K mainGlobals "HALF" = some (some (Value.int 2147483648 t_HALF)))
    (y_SYN : PySem.W.nsIn K mainGlobals "SYN" = some (some (Value.int 2 t_SYN)))
    (y_SYN_ACK : PySem.W.nsIn K mainGlobals "SYN_ACK" = some (some (Value.int 18 t_SYN_ACK)))
    (y_ACK : PySem.W.nsIn K mainGlobals "ACK" = some (some (Value.int 16 t_ACK)))
    (y_FIN_ACK : PySem.W.nsIn K mainGlobals "FIN_ACK" = some (some (Value.int 17 t_FIN_ACK)))
    (y_RST : PySem.W.nsIn K mainGlobals "RST" = some (some (Value.int 4 t_RST)))
    (y_RST_ACK : PySem.W.nsIn K mainGlobals "RST_ACK" = some (some (Value.int 20 t_RST_ACK)))
    (y_START : PySem.W.nsIn K mainGlobals "START" = some (some (Value.int 0 t_START)))
    (y_END : PySem.W.nsIn K mainGlobals "END" = some (some (Value.int 1 t_END)))
    (y_TOP : PySem.W.nsIn K mainGlobals "TOP" = some (some (Value.int 2 t_TOP)))
    (y_WIDE : PySem.W.nsIn K mainGlobals "WIDE" = some (some (Value.int 3 t_WIDE)))
    (y_HEARD : PySem.W.nsIn K mainGlobals "HEARD" = some (some (Value.int 4 t_HEARD)))
    (y_SHIFT : PySem.W.nsIn K mainGlobals "SHIFT" = some (some (Value.int 5 t_SHIFT)))
    (y_FIN : PySem.W.nsIn K mainGlobals "FIN" = some (some (Value.int 6 t_FIN)))
    (y_SEQ : PySem.W.nsIn K mainGlobals "SEQ" = some (some (Value.int 3 t_SEQ)))
    (y_ACKED : PySem.W.nsIn K mainGlobals "ACKED" = some (some (Value.int 4 t_ACKED)))
    (y_FLAGS : PySem.W.nsIn K mainGlobals "FLAGS" = some (some (Value.int 5 t_FLAGS)))
    (y_WINDOW : PySem.W.nsIn K mainGlobals "WINDOW" = some (some (Value.int 6 t_WINDOW)))
    (y_OPTIONS : PySem.W.nsIn K mainGlobals "OPTIONS" = some (some (Value.int 8 t_OPTIONS)))
    (y_DATA : PySem.W.nsIn K mainGlobals "DATA" = some (some (Value.int 9 t_DATA)))
    (y_BEHIND : PySem.W.nsIn K mainGlobals "BEHIND" = some (some (Value.int 1073741824 t_BEHIND)))
    : ∃ fd : FuncData, (∀ (s : Shared) (v : Value), BindsTo s fd ⟨[v], []⟩ [("script", v)]) ∧ ∀ base : Heap, K.In base → base.Ns mainGlobals mg → FnG l.prog w K mg base 9 fa fd ["script"] (spLaw K) := by
  have e := hfa.symm.trans (PySem.W.mg_of X G a47)
  cases e
  have F0 := fun_mk (st := s_after) l0 c0 k0
  have b0 := F0.binds (ps := ["number", "steps"]) fun _ _ _ _ _ _ us hl => match us, hl with | [_, _], _ => rfl
  have F1 := fun_mk (st := s_between) l1 c1 k1
  have b1 := F1.binds (ps := ["number", "first"]) fun _ _ _ _ _ _ us hl => match us, hl with | [_, _], _ => rfl
  have F2 := fun_mk (st := s_later) l2 c2 k2
  have b2 := F2.binds (ps := ["a", "b"]) fun _ _ _ _ _ _ us hl => match us, hl with | [_, _], _ => rfl
  have F3 := fun_mk (st := s_later_one) l3 c3 k3
  have b3 := F3.binds (ps := ["a", "b"]) fun _ _ _ _ _ _ us hl => match us, hl with | [_, _], _ => rfl
  have F4 := fun_mk (st := s_lies) l4 c4 k4
  have b4 := F4.binds (ps := ["number", "first", "last"]) fun _ _ _ _ _ _ us hl => match us, hl with | [_, _, _], _ => rfl
  have F5 := fun_mk (st := s_shift_of) l5 c5 k5
  have b5 := F5.binds (ps := ["options"]) fun _ _ _ _ _ _ us hl => match us, hl with | [_], _ => rfl
  have F6 := fun_mk (st := s_length_at) l6 c6 k6
  have b6 := F6.binds (ps := ["options", "at"]) fun _ _ _ _ _ _ us hl => match us, hl with | [_, _], _ => rfl
  have F7 := fun_mk (st := s_segment_end) l7 c7 k7
  have b7 := F7.binds (ps := ["segment"]) fun _ _ _ _ _ _ us hl => match us, hl with | [_], _ => rfl
  have F8 := fun_mk (st := s_begun) l8 c8 k8
  have b8 := F8.binds (ps := ["segment"]) fun _ _ _ _ _ _ us hl => match us, hl with | [_], _ => rfl
  have F9 := fun_mk (st := s_tracked) l9 c9 k9
  have b9 := F9.binds (ps := ["talk", "x", "segment"]) fun _ _ _ _ _ _ us hl => match us, hl with | [_, _, _], _ => rfl
  have F10 := fun_mk (st := s_form) l10 c10 k10
  have b10 := F10.binds (ps := ["segment"]) fun _ _ _ _ _ _ us hl => match us, hl with | [_], _ => rfl
  have F11 := fun_mk (st := s_is_odd) l11 c11 k11
  have b11 := F11.binds (ps := ["segment"]) fun _ _ _ _ _ _ us hl => match us, hl with | [_], _ => rfl
  have F12 := fun_mk (st := s_is_rst) l12 c12 k12
  have b12 := F12.binds (ps := ["segment"]) fun _ _ _ _ _ _ us hl => match us, hl with | [_], _ => rfl
  have F13 := fun_mk (st := s_width) l13 c13 k13
  have b13 := F13.binds (ps := ["window"]) fun _ _ _ _ _ _ us hl => match us, hl with | [_], _ => rfl
  have F14 := fun_mk (st := s_ended) l14 c14 k14
  have b14 := F14.binds (ps := ["talk"]) fun _ _ _ _ _ _ us hl => match us, hl with | [_], _ => rfl
  have F15 := fun_mk (st := s_is_first_syn) l15 c15 k15
  have b15 := F15.binds (ps := ["talk", "x", "segment"]) fun _ _ _ _ _ _ us hl => match us, hl with | [_, _, _], _ => rfl
  have F16 := fun_mk (st := s_in_asked) l16 c16 k16
  have b16 := F16.binds (ps := ["talk", "x", "segment"]) fun _ _ _ _ _ _ us hl => match us, hl with | [_, _, _], _ => rfl
  have F17 := fun_mk (st := s_answered) l17 c17 k17
  have b17 := F17.binds (ps := ["opener", "segment"]) fun _ _ _ _ _ _ us hl => match us, hl with | [_, _], _ => rfl
  have F18 := fun_mk (st := s_in_answered) l18 c18 k18
  have b18 := F18.binds (ps := ["talk", "x", "segment"]) fun _ _ _ _ _ _ us hl => match us, hl with | [_, _, _], _ => rfl
  have F19 := fun_mk (st := s_is_syn_ack) l19 c19 k19
  have b19 := F19.binds (ps := ["talk", "x", "segment", "ack"]) fun _ _ _ _ _ _ us hl => match us, hl with | [_, _, _, _], _ => rfl
  have F20 := fun_mk (st := s_lies_well) l20 c20 k20
  have b20 := F20.binds (ps := ["talk", "x", "segment"]) fun _ _ _ _ _ _ us hl => match us, hl with | [_, _, _], _ => rfl
  have F21 := fun_mk (st := s_in_open) l21 c21 k21
  have b21 := F21.binds (ps := ["talk", "x", "segment"]) fun _ _ _ _ _ _ us hl => match us, hl with | [_, _, _], _ => rfl
  have F22 := fun_mk (st := s_taken) l22 c22 k22
  have b22 := F22.binds (ps := ["talk", "x", "segment"]) fun _ _ _ _ _ _ us hl => match us, hl with | [_, _, _], _ => rfl
  have F23 := fun_mk (st := s_state_of) l23 c23 k23
  have b23 := F23.binds (ps := ["side", "other"]) fun _ _ _ _ _ _ us hl => match us, hl with | [_, _], _ => rfl
  have F24 := fun_mk (st := s_word_in_over) l24 c24 k24
  have b24 := F24.binds (ps := ["talk", "x", "segment"]) fun _ _ _ _ _ _ us hl => match us, hl with | [_, _, _], _ => rfl
  have F25 := fun_mk (st := s_law_state) l25 c25 k25
  have b25 := F25.binds (ps := ["script"]) fun _ _ _ _ _ _ us hl => match us, hl with | [_], _ => rfl
  have F26 := fun_mk (st := s_law_take) l26 c26 k26
  have b26 := F26.binds (ps := ["state", "most"]) fun _ _ _ _ _ _ us hl => match us, hl with | [_, _], _ => rfl
  have F27 := fun_mk (st := s_law_pick) l27 c27 k27
  have b27 := F27.binds (ps := ["state", "row"]) fun _ _ _ _ _ _ us hl => match us, hl with | [_, _], _ => rfl
  have F28 := fun_mk (st := s_law_same) l28 c28 k28
  have b28 := F28.binds (ps := ["told", "due"]) fun _ _ _ _ _ _ us hl => match us, hl with | [_, _], _ => rfl
  have F29 := fun_mk (st := s_law_number) l29 c29 k29
  have b29 := F29.binds (ps := ["state", "low", "high"]) fun _ _ _ _ _ _ us hl => match us, hl with | [_, _, _], _ => rfl
  have F30 := fun_mk (st := s_law_mod) l30 c30 k30
  have b30 := F30.binds (ps := ["number"]) fun _ _ _ _ _ _ us hl => match us, hl with | [_], _ => rfl
  have F31 := fun_mk (st := s_law_later) l31 c31 k31
  have b31 := F31.binds (ps := ["a", "b"]) fun _ _ _ _ _ _ us hl => match us, hl with | [_, _], _ => rfl
  have F32 := fun_mk (st := s_law_shift) l32 c32 k32
  have b32 := F32.binds (ps := ["options"]) fun _ _ _ _ _ _ us hl => match us, hl with | [_], _ => rfl
  have F33 := fun_mk (st := s_law_form) l33 c33 k33
  have b33 := F33.binds (ps := ["segment"]) fun _ _ _ _ _ _ us hl => match us, hl with | [_], _ => rfl
  have F34 := fun_mk (st := s_law_is_odd) l34 c34 k34
  have b34 := F34.binds (ps := ["segment"]) fun _ _ _ _ _ _ us hl => match us, hl with | [_], _ => rfl
  have F35 := fun_mk (st := s_law_end) l35 c35 k35
  have b35 := F35.binds (ps := ["segment"]) fun _ _ _ _ _ _ us hl => match us, hl with | [_], _ => rfl
  have F36 := fun_mk (st := s_law_well) l36 c36 k36
  have b36 := F36.binds (ps := ["talk", "x", "segment"]) fun _ _ _ _ _ _ us hl => match us, hl with | [_, _, _], _ => rfl
  have F37 := fun_mk (st := s_law_behind) l37 c37 k37
  have b37 := F37.binds (ps := ["talk", "x", "segment"]) fun _ _ _ _ _ _ us hl => match us, hl with | [_, _, _], _ => rfl
  have F38 := fun_mk (st := s_law_asked) l38 c38 k38
  have b38 := F38.binds (ps := ["talk", "x", "segment"]) fun _ _ _ _ _ _ us hl => match us, hl with | [_, _, _], _ => rfl
  have F39 := fun_mk (st := s_law_track) l39 c39 k39
  have b39 := F39.binds (ps := ["talk", "x", "segment"]) fun _ _ _ _ _ _ us hl => match us, hl with | [_, _, _], _ => rfl
  have F40 := fun_mk (st := s_law_options) l40 c40 k40
  have b40 := F40.binds (ps := ["state"]) fun _ _ _ _ _ _ us hl => match us, hl with | [_], _ => rfl
  have F41 := fun_mk (st := s_law_segment) l41 c41 k41
  have b41 := F41.binds (ps := ["state", "seq", "ack", "flags", "size"]) fun _ _ _ _ _ _ us hl => match us, hl with | [_, _, _, _, _], _ => rfl
  have F42 := fun_mk (st := s_law_near_segment) l42 c42 k42
  have b42 := F42.binds (ps := ["state", "talk", "x"]) fun _ _ _ _ _ _ us hl => match us, hl with | [_, _, _], _ => rfl
  have F43 := fun_mk (st := s_law_good_segment) l43 c43 k43
  have b43 := F43.binds (ps := ["state", "talk", "x"]) fun _ _ _ _ _ _ us hl => match us, hl with | [_, _, _], _ => rfl
  have F44 := fun_mk (st := s_law_start) l44 c44 k44
  have b44 := F44.binds (ps := ["state"]) fun _ _ _ _ _ _ us hl => match us, hl with | [_], _ => rfl
  have F45 := fun_mk (st := s_law_begun) l45 c45 k45
  have b45 := F45.binds (ps := ["segment"]) fun _ _ _ _ _ _ us hl => match us, hl with | [_], _ => rfl
  have F46 := fun_mk (st := s_law_worked) l46 c46 k46
  have b46 := F46.binds (ps := []) fun _ _ _ _ _ _ us hl => match us, hl with | [], _ => rfl
  have F47 := fun_mk (st := s_law) l47 c47 k47
  have b47 := F47.binds (ps := ["script"]) fun _ _ _ _ _ _ us hl => match us, hl with | [_], _ => rfl
  let T : Tx K mg := { ad_after := _, fd_after := _, d_after := ⟨F0, b0, PySem.W.mg_of X G a0⟩, ad_between := _, fd_between := _, d_between := ⟨F1, b1, PySem.W.mg_of X G a1⟩, ad_later := _, fd_later := _, d_later := ⟨F2, b2, PySem.W.mg_of X G a2⟩, ad_later_one := _, fd_later_one := _, d_later_one := ⟨F3, b3, PySem.W.mg_of X G a3⟩, ad_lies := _, fd_lies := _, d_lies := ⟨F4, b4, PySem.W.mg_of X G a4⟩, ad_shift_of := _, fd_shift_of := _, d_shift_of := ⟨F5, b5, PySem.W.mg_of X G a5⟩, ad_length_at := _, fd_length_at := _, d_length_at := ⟨F6, b6, PySem.W.mg_of X G a6⟩, ad_segment_end := _, fd_segment_end := _, d_segment_end := ⟨F7, b7, PySem.W.mg_of X G a7⟩, ad_begun := _, fd_begun := _, d_begun := ⟨F8, b8, PySem.W.mg_of X G a8⟩, ad_tracked := _, fd_tracked := _, d_tracked := ⟨F9, b9, PySem.W.mg_of X G a9⟩, ad_form := _, fd_form := _, d_form := ⟨F10, b10, PySem.W.mg_of X G a10⟩, ad_is_odd := _, fd_is_odd := _, d_is_odd := ⟨F11, b11, PySem.W.mg_of X G a11⟩, ad_is_rst := _, fd_is_rst := _, d_is_rst := ⟨F12, b12, PySem.W.mg_of X G a12⟩, ad_width := _, fd_width := _, d_width := ⟨F13, b13, PySem.W.mg_of X G a13⟩, ad_ended := _, fd_ended := _, d_ended := ⟨F14, b14, PySem.W.mg_of X G a14⟩, ad_is_first_syn := _, fd_is_first_syn := _, d_is_first_syn := ⟨F15, b15, PySem.W.mg_of X G a15⟩, ad_in_asked := _, fd_in_asked := _, d_in_asked := ⟨F16, b16, PySem.W.mg_of X G a16⟩, ad_answered := _, fd_answered := _, d_answered := ⟨F17, b17, PySem.W.mg_of X G a17⟩, ad_in_answered := _, fd_in_answered := _, d_in_answered := ⟨F18, b18, PySem.W.mg_of X G a18⟩, ad_is_syn_ack := _, fd_is_syn_ack := _, d_is_syn_ack := ⟨F19, b19, PySem.W.mg_of X G a19⟩, ad_lies_well := _, fd_lies_well := _, d_lies_well := ⟨F20, b20, PySem.W.mg_of X G a20⟩, ad_in_open := _, fd_in_open := _, d_in_open := ⟨F21, b21, PySem.W.mg_of X G a21⟩, ad_taken := _, fd_taken := _, d_taken := ⟨F22, b22, PySem.W.mg_of X G a22⟩, ad_state_of := _, fd_state_of := _, d_state_of := ⟨F23, b23, PySem.W.mg_of X G a23⟩, ad_word_in_over := _, fd_word_in_over := _, d_word_in_over := ⟨F24, b24, PySem.W.mg_of X G a24⟩, ad_law_state := _, fd_law_state := _, d_law_state := ⟨F25, b25, PySem.W.mg_of X G a25⟩, ad_law_take := _, fd_law_take := _, d_law_take := ⟨F26, b26, PySem.W.mg_of X G a26⟩, ad_law_pick := _, fd_law_pick := _, d_law_pick := ⟨F27, b27, PySem.W.mg_of X G a27⟩, ad_law_same := _, fd_law_same := _, d_law_same := ⟨F28, b28, PySem.W.mg_of X G a28⟩, ad_law_number := _, fd_law_number := _, d_law_number := ⟨F29, b29, PySem.W.mg_of X G a29⟩, ad_law_mod := _, fd_law_mod := _, d_law_mod := ⟨F30, b30, PySem.W.mg_of X G a30⟩, ad_law_later := _, fd_law_later := _, d_law_later := ⟨F31, b31, PySem.W.mg_of X G a31⟩, ad_law_shift := _, fd_law_shift := _, d_law_shift := ⟨F32, b32, PySem.W.mg_of X G a32⟩, ad_law_form := _, fd_law_form := _, d_law_form := ⟨F33, b33, PySem.W.mg_of X G a33⟩, ad_law_is_odd := _, fd_law_is_odd := _, d_law_is_odd := ⟨F34, b34, PySem.W.mg_of X G a34⟩, ad_law_end := _, fd_law_end := _, d_law_end := ⟨F35, b35, PySem.W.mg_of X G a35⟩, ad_law_well := _, fd_law_well := _, d_law_well := ⟨F36, b36, PySem.W.mg_of X G a36⟩, ad_law_behind := _, fd_law_behind := _, d_law_behind := ⟨F37, b37, PySem.W.mg_of X G a37⟩, ad_law_asked := _, fd_law_asked := _, d_law_asked := ⟨F38, b38, PySem.W.mg_of X G a38⟩, ad_law_track := _, fd_law_track := _, d_law_track := ⟨F39, b39, PySem.W.mg_of X G a39⟩, ad_law_options := _, fd_law_options := _, d_law_options := ⟨F40, b40, PySem.W.mg_of X G a40⟩, ad_law_segment := _, fd_law_segment := _, d_law_segment := ⟨F41, b41, PySem.W.mg_of X G a41⟩, ad_law_near_segment := _, fd_law_near_segment := _, d_law_near_segment := ⟨F42, b42, PySem.W.mg_of X G a42⟩, ad_law_good_segment := _, fd_law_good_segment := _, d_law_good_segment := ⟨F43, b43, PySem.W.mg_of X G a43⟩, ad_law_start := _, fd_law_start := _, d_law_start := ⟨F44, b44, PySem.W.mg_of X G a44⟩, ad_law_begun := _, fd_law_begun := _, d_law_begun := ⟨F45, b45, PySem.W.mg_of X G a45⟩, ad_law_worked := _, fd_law_worked := _, d_law_worked := ⟨F46, b46, PySem.W.mg_of X G a46⟩, ad_law := _, fd_law := _, d_law := ⟨F47, b47, PySem.W.mg_of X G a47⟩, b_len := PySem.W.mg_none_of X G z_len, b_min := PySem.W.mg_none_of X G z_min, b_max := PySem.W.mg_none_of X G z_max, b_abs := PySem.W.mg_none_of X G z_abs, b_int := PySem.W.mg_none_of X G z_int, b_isinstance := PySem.W.mg_none_of X G z_isinstance, b_dict := PySem.W.mg_none_of X G z_dict, b_all := PySem.W.mg_none_of X G z_all, b_bool := PySem.W.mg_none_of X G z_bool, b_str := PySem.W.mg_none_of X G z_str, b_tuple := PySem.W.mg_none_of X G z_tuple, b_list := PySem.W.mg_none_of X G z_list, b_range := PySem.W.mg_none_of X G z_range, b_repr := PySem.W.mg_none_of X G z_repr, t_AROUND := _, c_AROUND := PySem.W.mg_of X G y_AROUND, t_HALF := _, c_HALF := PySem.W.mg_of X G y_HALF, t_SYN := _, c_SYN := PySem.W.mg_of X G y_SYN, t_SYN_ACK := _, c_SYN_ACK := PySem.W.mg_of X G y_SYN_ACK, t_ACK := _, c_ACK := PySem.W.mg_of X G y_ACK, t_FIN_ACK := _, c_FIN_ACK := PySem.W.mg_of X G y_FIN_ACK, t_RST := _, c_RST := PySem.W.mg_of X G y_RST, t_RST_ACK := _, c_RST_ACK := PySem.W.mg_of X G y_RST_ACK, t_START := _, c_START := PySem.W.mg_of X G y_START, t_END := _, c_END := PySem.W.mg_of X G y_END, t_TOP := _, c_TOP := PySem.W.mg_of X G y_TOP, t_WIDE := _, c_WIDE := PySem.W.mg_of X G y_WIDE, t_HEARD := _, c_HEARD := PySem.W.mg_of X G y_HEARD, t_SHIFT := _, c_SHIFT := PySem.W.mg_of X G y_SHIFT, t_FIN := _, c_FIN := PySem.W.mg_of X G y_FIN, t_SEQ := _, c_SEQ := PySem.W.mg_of X G y_SEQ, t_ACKED := _, c_ACKED := PySem.W.mg_of X G y_ACKED, t_FLAGS := _, c_FLAGS := PySem.W.mg_of X G y_FLAGS, t_WINDOW := _, c_WINDOW := PySem.W.mg_of X G y_WINDOW, t_OPTIONS := _, c_OPTIONS := PySem.W.mg_of X G y_OPTIONS, t_DATA := _, c_DATA := PySem.W.mg_of X G y_DATA, t_BEHIND := _, c_BEHIND := PySem.W.mg_of X G y_BEHIND }
  exact ⟨T.fd_law, fun s v => .of_eq rfl, fun base _ _ => ok_law T⟩
theorem walk {l : PySem.W.OpenLaw} {q : Program} {loose : List Str} {XP : (Str → Option Value) → Heap → Prop} {YP : World → Heap → Prop} {d : DefRec} {K : Params → PySem.W.Frag} (hn : l.most = some 63) (hdf : d.params.defaults = [])
    (hY : ∀ (w : World) (h : Heap), YP w h → (K w.params).In h)
    (F : ∀ (w : World) (mg : Str → Option Value) (fa : Addr) (h : Heap), (K w.params).In h → h.Ns mainGlobals mg → mg d.name = some (.ref fa) →
      ∃ fd : FuncData, (∀ (s : Shared) (u : Value), BindsTo s fd ⟨[u], []⟩ [("script", u)]) ∧ ∀ base : Heap, (K w.params).In base → base.Ns mainGlobals mg → FnG l.prog w (K w.params) mg base 9 fa fd ["script"] (spLaw (K w.params))) :
    PySem.W.WalkO q loose XP YP l.row.toRowW d [] (fun f vs => PySem.call f vs) :=
  walkG (k := 9) (x := "script") hn hdf ⟨rfl, by decide, by decide⟩ hY F
end Toy
open PySem PySem.W PyProof.Rows
set_option maxRecDepth 100000 in
set_option maxHeartbeats 0 in
theorem PySem.Challenge.cw_onepolicy_k15_whole_talks_segment_by_seg_holds : PySem.Challenge.rw_onepolicy_k15_whole_talks_segment_by_seg.Holds := by
  w_on; o_law; k_head; (case hw => w_witness2)
  k_fill
  refine Toy.walk (l := PySem.Challenge.rw_onepolicy_k15_whole_talks_segment_by_seg) rfl rfl (fun w h Y => PySem.W.kIn_of Y) ?F
  case F =>
    intro w mg fa h KX G hmg
    refine' Toy.all_mk KX G hmg ?a0 ?l0 ?c0 ?k0 ?a1 ?l1 ?c1 ?k1 ?a2 ?l2 ?c2 ?k2 ?a3 ?l3 ?c3 ?k3 ?a4 ?l4 ?c4 ?k4 ?a5 ?l5 ?c5 ?k5 ?a6 ?l6 ?c6 ?k6 ?a7 ?l7 ?c7 ?k7 ?a8 ?l8 ?c8 ?k8 ?a9 ?l9 ?c9 ?k9 ?a10 ?l10 ?c10 ?k10 ?a11 ?l11 ?c11 ?k11 ?a12 ?l12 ?c12 ?k12 ?a13 ?l13 ?c13 ?k13 ?a14 ?l14 ?c14 ?k14 ?a15 ?l15 ?c15 ?k15 ?a16 ?l16 ?c16 ?k16 ?a17 ?l17 ?c17 ?k17 ?a18 ?l18 ?c18 ?k18 ?a19 ?l19 ?c19 ?k19 ?a20 ?l20 ?c20 ?k20 ?a21 ?l21 ?c21 ?k21 ?a22 ?l22 ?c22 ?k22 ?a23 ?l23 ?c23 ?k23 ?a24 ?l24 ?c24 ?k24 ?a25 ?l25 ?c25 ?k25 ?a26 ?l26 ?c26 ?k26 ?a27 ?l27 ?c27 ?k27 ?a28 ?l28 ?c28 ?k28 ?a29 ?l29 ?c29 ?k29 ?a30 ?l30 ?c30 ?k30 ?a31 ?l31 ?c31 ?k31 ?a32 ?l32 ?c32 ?k32 ?a33 ?l33 ?c33 ?k33 ?a34 ?l34 ?c34 ?k34 ?a35 ?l35 ?c35 ?k35 ?a36 ?l36 ?c36 ?k36 ?a37 ?l37 ?c37 ?k37 ?a38 ?l38 ?c38 ?k38 ?a39 ?l39 ?c39 ?k39 ?a40 ?l40 ?c40 ?k40 ?a41 ?l41 ?c41 ?k41 ?a42 ?l42 ?c42 ?k42 ?a43 ?l43 ?c43 ?k43 ?a44 ?l44 ?c44 ?k44 ?a45 ?l45 ?c45 ?k45 ?a46 ?l46 ?c46 ?k46 ?a47 ?l47 ?c47 ?k47 ?z_len ?z_min ?z_max ?z_abs ?z_int ?z_isinstance ?z_dict ?z_all ?z_bool ?z_str ?z_tuple ?z_list ?z_range ?z_repr ?y_AROUND ?y_HALF ?y_SYN ?y_SYN_ACK ?y_ACK ?y_FIN_ACK ?y_RST ?y_RST_ACK ?y_START ?y_END ?y_TOP ?y_WIDE ?y_HEARD ?y_SHIFT ?y_FIN ?y_SEQ ?y_ACKED ?y_FLAGS ?y_WINDOW ?y_OPTIONS ?y_DATA ?y_BEHIND
    (case a0 => k_is)
    (case l0 => k_is)
    (case c0 => k_is)
    (case k0 => k_is)
    (case a1 => k_is)
    (case l1 => k_is)
    (case c1 => k_is)
    (case k1 => k_is)
    (case a2 => k_is)
    (case l2 => k_is)
    (case c2 => k_is)
    (case k2 => k_is)
    (case a3 => k_is)
    (case l3 => k_is)
    (case c3 => k_is)
    (case k3 => k_is)
    (case a4 => k_is)
    (case l4 => k_is)
    (case c4 => k_is)
    (case k4 => k_is)
    (case a5 => k_is)
    (case l5 => k_is)
    (case c5 => k_is)
    (case k5 => k_is)
    (case a6 => k_is)
    (case l6 => k_is)
    (case c6 => k_is)
    (case k6 => k_is)
    (case a7 => k_is)
    (case l7 => k_is)
    (case c7 => k_is)
    (case k7 => k_is)
    (case a8 => k_is)
    (case l8 => k_is)
    (case c8 => k_is)
    (case k8 => k_is)
    (case a9 => k_is)
    (case l9 => k_is)
    (case c9 => k_is)
    (case k9 => k_is)
    (case a10 => k_is)
    (case l10 => k_is)
    (case c10 => k_is)
    (case k10 => k_is)
    (case a11 => k_is)
    (case l11 => k_is)
    (case c11 => k_is)
    (case k11 => k_is)
    (case a12 => k_is)
    (case l12 => k_is)
    (case c12 => k_is)
    (case k12 => k_is)
    (case a13 => k_is)
    (case l13 => k_is)
    (case c13 => k_is)
    (case k13 => k_is)
    (case a14 => k_is)
    (case l14 => k_is)
    (case c14 => k_is)
    (case k14 => k_is)
    (case a15 => k_is)
    (case l15 => k_is)
    (case c15 => k_is)
    (case k15 => k_is)
    (case a16 => k_is)
    (case l16 => k_is)
    (case c16 => k_is)
    (case k16 => k_is)
    (case a17 => k_is)
    (case l17 => k_is)
    (case c17 => k_is)
    (case k17 => k_is)
    (case a18 => k_is)
    (case l18 => k_is)
    (case c18 => k_is)
    (case k18 => k_is)
    (case a19 => k_is)
    (case l19 => k_is)
    (case c19 => k_is)
    (case k19 => k_is)
    (case a20 => k_is)
    (case l20 => k_is)
    (case c20 => k_is)
    (case k20 => k_is)
    (case a21 => k_is)
    (case l21 => k_is)
    (case c21 => k_is)
    (case k21 => k_is)
    (case a22 => k_is)
    (case l22 => k_is)
    (case c22 => k_is)
    (case k22 => k_is)
    (case a23 => k_is)
    (case l23 => k_is)
    (case c23 => k_is)
    (case k23 => k_is)
    (case a24 => k_is)
    (case l24 => k_is)
    (case c24 => k_is)
    (case k24 => k_is)
    (case a25 => k_is)
    (case l25 => k_is)
    (case c25 => k_is)
    (case k25 => k_is)
    (case a26 => k_is)
    (case l26 => k_is)
    (case c26 => k_is)
    (case k26 => k_is)
    (case a27 => k_is)
    (case l27 => k_is)
    (case c27 => k_is)
    (case k27 => k_is)
    (case a28 => k_is)
    (case l28 => k_is)
    (case c28 => k_is)
    (case k28 => k_is)
    (case a29 => k_is)
    (case l29 => k_is)
    (case c29 => k_is)
    (case k29 => k_is)
    (case a30 => k_is)
    (case l30 => k_is)
    (case c30 => k_is)
    (case k30 => k_is)
    (case a31 => k_is)
    (case l31 => k_is)
    (case c31 => k_is)
    (case k31 => k_is)
    (case a32 => k_is)
    (case l32 => k_is)
    (case c32 => k_is)
    (case k32 => k_is)
    (case a33 => k_is)
    (case l33 => k_is)
    (case c33 => k_is)
    (case k33 => k_is)
    (case a34 => k_is)
    (case l34 => k_is)
    (case c34 => k_is)
    (case k34 => k_is)
    (case a35 => k_is)
    (case l35 => k_is)
    (case c35 => k_is)
    (case k35 => k_is)
    (case a36 => k_is)
    (case l36 => k_is)
    (case c36 => k_is)
    (case k36 => k_is)
    (case a37 => k_is)
    (case l37 => k_is)
    (case c37 => k_is)
    (case k37 => k_is)
    (case a38 => k_is)
    (case l38 => k_is)
    (case c38 => k_is)
    (case k38 => k_is)
    (case a39 => k_is)
    (case l39 => k_is)
    (case c39 => k_is)
    (case k39 => k_is)
    (case a40 => k_is)
    (case l40 => k_is)
    (case c40 => k_is)
    (case k40 => k_is)
    (case a41 => k_is)
    (case l41 => k_is)
    (case c41 => k_is)
    (case k41 => k_is)
    (case a42 => k_is)
    (case l42 => k_is)
    (case c42 => k_is)
    (case k42 => k_is)
    (case a43 => k_is)
    (case l43 => k_is)
    (case c43 => k_is)
    (case k43 => k_is)
    (case a44 => k_is)
    (case l44 => k_is)
    (case c44 => k_is)
    (case k44 => k_is)
    (case a45 => k_is)
    (case l45 => k_is)
    (case c45 => k_is)
    (case k45 => k_is)
    (case a46 => k_is)
    (case l46 => k_is)
    (case c46 => k_is)
    (case k46 => k_is)
    (case a47 => k_is)
    (case l47 => k_is)
    (case c47 => k_is)
    (case k47 => k_is)
    (case z_len => k_is)
    (case z_min => k_is)
    (case z_max => k_is)
    (case z_abs => k_is)
    (case z_int => k_is)
    (case z_isinstance => k_is)
    (case z_dict => k_is)
    (case z_all => k_is)
    (case z_bool => k_is)
    (case z_str => k_is)
    (case z_tuple => k_is)
    (case z_list => k_is)
    (case z_range => k_is)
    (case z_repr => k_is)
    (case y_AROUND => k_is)
    (case y_HALF => k_is)
    (case y_SYN => k_is)
    (case y_SYN_ACK => k_is)
    (case y_ACK => k_is)
    (case y_FIN_ACK => k_is)
    (case y_RST => k_is)
    (case y_RST_ACK => k_is)
    (case y_START => k_is)
    (case y_END => k_is)
    (case y_TOP => k_is)
    (case y_WIDE => k_is)
    (case y_HEARD => k_is)
    (case y_SHIFT => k_is)
    (case y_FIN => k_is)
    (case y_SEQ => k_is)
    (case y_ACKED => k_is)
    (case y_FLAGS => k_is)
    (case y_WINDOW => k_is)
    (case y_OPTIONS => k_is)
    (case y_DATA => k_is)
    (case y_BEHIND => k_is)
