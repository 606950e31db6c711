import PyProof.Rows.All
import Wide.All
import OpenK.AllK
import Wide.FinOn
import HandS.Base
import HandS.Call
import HandS.List
import HandS.Comp
import HandS.Ends
import HandS.Words
import HandS.WordsList
import HandS.IsInst
import HandS.TupAny
import HandS.TupLe
import HandS.Zip
import HandS.Text
import HandS.Iter
import HandS.Wide
import KE.GoesMore
import HandS.More
import HandS.Dict
import HandS.DictComp
import HandS.WordsDict
import HandS.TupMul
import HandS.Set
import HandS.SetFor
import HandS.Strs
import HandS.Sort
import HandS.FStr
import HandS.Flow
import HandS.Deep
import HandS.Style
import KE.KxIndex
import PySem.Challenge.RW_onepolicy_k67_limits_their_faults_and_ke
set_option Elab.async false
set_option linter.all false
set_option maxRecDepth 100000
set_option maxHeartbeats 4000000
namespace Toy
open PySem PySem.Spec PyProof.Rows L2
/-! The data layer: readings of the hand layer over plain data. -/
abbrev D := PyData
/-- the state of the law's own draws stands at p, its numbers at c -/
def LS (H : Hp) (p c : Addr) : Prop := ∃ (k : Int) (ns : List Int), H p = some (.lst [.int k, .ref c]) ∧ H c = some (.lst (ns.map V.int)) ∧ ns ≠ []
def KTup (K : PySem.W.Frag) (a : Addr) (xs : List V) : Prop := ∃ (o : Obj) (its : Array Value) (n : Nat), K.lookup a = some o ∧ o.cls = .type "tuple" ∧ o.data = .seq its n ∧ its.size ≤ sizeLine ∧ Vals xs its.toList
/-- a tuple at a, not among A -/
def TupAt (K : PySem.W.Frag) (H : Hp) (A : Addr → Prop) (a : Addr) (xs : List V) : Prop := (Rd H a (.tup xs) ∧ ¬ A a) ∨ KTup K a xs
theorem TupAt.sq {K : PySem.W.Frag} {H : Hp} {A : Addr → Prop} {a : Addr} {xs : List V} (h : TupAt K H A a xs) : SqT K H a xs := h.elim (fun z => .inl z.1) .inr
inductive KeyD : D → Key → Prop
  | int (i : Int) : KeyD (.int i) (.inl i)
  | str (s : Str) : KeyD (.str s) (.inr s)
mutual
inductive Rep (K : PySem.W.Frag) (H : Hp) (A : Addr → Prop) : D → V → Prop
  | non : Rep K H A .none .non
  | bl (b : Bool) : Rep K H A (.bool b) (.bl b)
  | int (i : Int) : Rep K H A (.int i) (.int i)
  | str (x : Str) : Rep K H A (.str x) (.str x)
  | lst {a : Addr} {xs : List V} {ds : List D} : H a = some (.lst xs) → ¬ A a → RepL K H A ds xs → Rep K H A (.list ds) (.ref a)
  | tup {a : Addr} {xs : List V} {ds : List D} : TupAt K H A a xs → RepL K H A ds xs → Rep K H A (.tuple ds) (.ref a)
  | dct {a : Addr} {us : List (Key × V)} {kvs : List (D × D)} : H a = some (.dK us) → ¬ A a → RepK K H A kvs us → Rep K H A (.dict kvs) (.ref a)
inductive RepL (K : PySem.W.Frag) (H : Hp) (A : Addr → Prop) : List D → List V → Prop
  | nil : RepL K H A [] []
  | cons {d : D} {v : V} {ds : List D} {vs : List V} : Rep K H A d v → RepL K H A ds vs → RepL K H A (d :: ds) (v :: vs)
inductive RepK (K : PySem.W.Frag) (H : Hp) (A : Addr → Prop) : List (D × D) → List (Key × V) → Prop
  | nil : RepK K H A [] []
  | cons {k d : D} {q : Key} {v : V} {ds : List (D × D)} {us : List (Key × V)} : KeyD k q → Rep K H A d v → RepK K H A ds us → RepK K H A ((k, d) :: ds) ((q, v) :: us)
end
section
variable {K : PySem.W.Frag} {H H' : Hp} {A A' : Addr → Prop}
/-- from one heap to a later one, from one set of shut places to another one -/
structure To (H H' : Hp) (A A' : Addr → Prop) : Prop where
  h : ∀ b o, H b = some o → ¬ A b → H' b = some o ∧ ¬ A' b
mutual
theorem Rep.to (t : To H H' A A') : ∀ {d : D} {v : V}, Rep K H A d v → Rep K H' A' d v
  | .none, _, .non => .non
  | .bool _, _, .bl b => .bl b
  | .int _, _, .int i => .int i
  | .str _, _, .str x => .str x
  | .list _, _, .lst h n r => .lst (t.h _ _ h n).1 (t.h _ _ h n).2 (RepL.to t r)
  | .tuple _, _, .tup (.inl ⟨.inl h, n⟩) r => .tup (.inl ⟨.inl (t.h _ _ h n).1, (t.h _ _ h n).2⟩) (RepL.to t r)
  | .tuple _, _, .tup (.inl ⟨.inr ⟨o, h⟩, n⟩) r => .tup (.inl ⟨.inr ⟨o, (t.h _ _ h n).1⟩, (t.h _ _ h n).2⟩) (RepL.to t r)
  | .tuple _, _, .tup (.inr h) r => .tup (.inr h) (RepL.to t r)
  | .dict _, _, .dct h n r => .dct (t.h _ _ h n).1 (t.h _ _ h n).2 (RepK.to t r)
theorem RepL.to (t : To H H' A A') : ∀ {ds : List D} {vs : List V}, RepL K H A ds vs → RepL K H' A' ds vs
  | [], _, .nil => .nil
  | _ :: _, _, .cons h r => .cons (Rep.to t h) (RepL.to t r)
theorem RepK.to (t : To H H' A A') : ∀ {ds : List (D × D)} {vs : List (Key × V)}, RepK K H A ds vs → RepK K H' A' ds vs
  | [], _, .nil => .nil
  | (_, _) :: _, _, .cons k h r => .cons k (Rep.to t h) (RepK.to t r)
end
theorem RepL.len : ∀ {ds : List D} {vs : List V}, RepL K H A ds vs → ds.length = vs.length
  | _, _, .nil => rfl
  | _, _, .cons _ r => congrArg (· + 1) r.len
theorem RepL.get : ∀ {ds : List D} {vs : List V}, RepL K H A ds vs → ∀ {i : Nat} {d : D}, ds[i]? = some d → ∃ v, vs[i]? = some v ∧ Rep K H A d v
  | _, _, .nil, i, d, h => by simp at h
  | _, _, .cons h r, 0, d, e => by
    rw [List.getElem?_cons_zero] at e
    cases e
    exact ⟨_, rfl, h⟩
  | _, _, .cons h r, i + 1, d, e => by
    rw [List.getElem?_cons_succ] at e
    exact r.get e
theorem RepL.app : ∀ {ds es : List D} {vs ws : List V}, RepL K H A ds vs → RepL K H A es ws → RepL K H A (ds ++ es) (vs ++ ws)
  | _, _, _, _, .nil, h => h
  | _, _, _, _, .cons h r, g => .cons h (r.app g)
theorem RepL.take : ∀ {ds : List D} {vs : List V} (n : Nat), RepL K H A ds vs → RepL K H A (ds.take n) (vs.take n)
  | _, _, 0, _ => by simpa using RepL.nil
  | _, _, n + 1, .nil => by simpa using RepL.nil
  | _, _, n + 1, .cons h r => .cons h (r.take n)
theorem RepL.drop : ∀ {ds : List D} {vs : List V} (n : Nat), RepL K H A ds vs → RepL K H A (ds.drop n) (vs.drop n)
  | _, _, 0, h => h
  | _, _, n + 1, .nil => .nil
  | _, _, n + 1, .cons h r => r.drop n
theorem RepL.set : ∀ {ds : List D} {vs : List V} (n : Nat) {d : D} {v : V}, RepL K H A ds vs → Rep K H A d v → RepL K H A (ds.set n d) (vs.set n v)
  | _, _, _, _, _, .nil, _ => .nil
  | _, _, 0, _, _, .cons h r, g => .cons g r
  | _, _, n + 1, _, _, .cons h r, g => .cons h (r.set n g)
theorem RepL.snoc {ds : List D} {vs : List V} {d : D} {v : V} (h : RepL K H A ds vs) (g : Rep K H A d v) : RepL K H A (ds ++ [d]) (vs ++ [v]) := h.app (.cons g .nil)
mutual
theorem Rep.dp : ∀ {d : D} {v : V}, Rep K H A d v → d.canLay0 = true → Dp K H v d
  | .none, _, .non, _ => .non
  | .bool _, _, .bl b, _ => .bl b
  | .int _, _, .int i, _ => .int i
  | .str _, _, .str x, _ => .str x
  | .list _, _, .lst h n r, c => .lst (SqL.of h) (RepL.dp r (by simpa [PyData.canLay0] using c))
  | .tuple _, _, .tup h r, c => .tup h.sq (RepL.dp r (by simpa [PyData.canLay0] using c))
  | .dict _, _, .dct _ _ _, c => by simp [PyData.canLay0] at c
theorem RepL.dp : ∀ {ds : List D} {vs : List V}, RepL K H A ds vs → PyData.canLayAll0 ds = true → DpAll K H vs ds
  | [], _, .nil, _ => .nil
  | _ :: _, _, .cons h r, c => by
    simp only [PyData.canLayAll0, Bool.and_eq_true] at c
    exact .cons (Rep.dp h c.1) (RepL.dp r c.2)
end
end
/-! ### what stands in the slots -/
inductive En
  | d (x : D)
  | own (ds : List D)
  | odk (kvs : List (D × D))
  | st
abbrev Ev := List (Option En)
def exs : Option (Addr × Addr) → List Addr
  | none => []
  | some q => [q.1, q.2]
def Keep (ex : List Addr) (H H' : Hp) : Prop := ∀ b o, H b = some o → b ∉ ex → H' b = some o
def LSo (st : Option (Addr × Addr)) (H : Hp) : Prop := ∀ q, st = some q → LS H q.1 q.2
structure Stp (st : Option (Addr × Addr)) (H H' : Hp) : Prop where
  k : Keep (exs st) H H'
  l : LSo st H'
def Mo (A : Addr → Prop) (ow : Nat → Option Addr) (a : Addr) : Prop := A a ∨ ∃ i, ow i = some a
def SR (K : PySem.W.Frag) (A : Addr → Prop) (st : Option (Addr × Addr)) (ow : Nat → Option Addr) (H : Hp) (i : Nat) : En → V → Prop
  | .d x, v => Rep K H (Mo A ow) x v
  | .own ds, v => ∃ a vs, ow i = some a ∧ v = .ref a ∧ H a = some (.lst vs) ∧ RepL K H (Mo A ow) ds vs
  | .odk kvs, v => ∃ a us, ow i = some a ∧ v = .ref a ∧ H a = some (.dK us) ∧ RepK K H (Mo A ow) kvs us
  | .st, v => ∃ q, st = some q ∧ v = .ref q.1
structure RE (K : PySem.W.Frag) (A : Addr → Prop) (st : Option (Addr × Addr)) (ow : Nat → Option Addr) (σ : L2.St) (H : Hp) (env : Ev) : Prop where
  ls : LSo st H
  dom : ∀ a, A a → H a ≠ none
  sta : ∀ q, st = some q → A q.1 ∧ A q.2
  al : ∀ i a, ow i = some a → H a ≠ none
  na : ∀ i a, ow i = some a → ¬ A a
  inj : ∀ i j a, ow i = some a → ow j = some a → i = j
  tie : ∀ i a, ow i = some a → (∃ ds, env[i]? = some (some (.own ds))) ∨ ∃ ds, env[i]? = some (some (.odk ds))
  len : σ.length = env.length
  sl : ∀ i e, env[i]? = some (some e) → ∃ v, σ[i]? = some (some v) ∧ SR K A st ow H i e v
theorem Keep.refl (ex : List Addr) (H : Hp) : Keep ex H H := fun _ _ h _ => h
theorem Keep.trans {ex : List Addr} {H H1 H2 : Hp} (a : Keep ex H H1) (b : Keep ex H1 H2) : Keep ex H H2 := fun q o h n => b q o (a q o h n) n
theorem Stp.trans {st : Option (Addr × Addr)} {H H1 H2 : Hp} (a : Stp st H H1) (b : Stp st H1 H2) : Stp st H H2 := ⟨a.k.trans b.k, b.l⟩
theorem LS.same {H H' : Hp} {p c : Addr} (h : LS H p c) (s : Same H H') : LS H' p c := by
  obtain ⟨k, ns, h1, h2, h3⟩ := h
  exact ⟨k, ns, s _ _ h1, s _ _ h2, h3⟩
theorem LSo.same {st : Option (Addr × Addr)} {H H' : Hp} (h : LSo st H) (s : Same H H') : LSo st H' := fun q e => (h q e).same s
theorem Stp.same {st : Option (Addr × Addr)} {H H' : Hp} (h : LSo st H) (s : Same H H') : Stp st H H' := ⟨fun b o e _ => s b o e, h.same s⟩
theorem same_upd {H : Hp} {p : Addr} {o : HO} (h : H p = none) : Same H (upd H p o) := fun b x e => by
  rw [upd_ne (ne_of_none e h)]
  exact e
theorem exs_mem {st : Option (Addr × Addr)} {a : Addr} (h : a ∈ exs st) : ∃ q, st = some q ∧ (a = q.1 ∨ a = q.2) := by
  cases st with
  | none => cases h
  | some q => exact ⟨q, rfl, by simpa [exs] using h⟩
section
variable {K : PySem.W.Frag} {A : Addr → Prop} {st : Option (Addr × Addr)} {ow : Nat → Option Addr} {σ : L2.St} {H H' : Hp} {env : Ev}
theorem RE.to_keep {ex : List Addr} (R : RE K A st ow σ H env) (hx : ∀ a ∈ ex, A a) (hk : Keep ex H H') : To H H' (Mo A ow) (Mo A ow) :=
  ⟨fun b o e n => ⟨hk b o e fun z => n (.inl (hx b z)), n⟩⟩
theorem RE.keep {ex : List Addr} (R : RE K A st ow σ H env) (hx : ∀ a ∈ ex, A a) (hk : Keep ex H H') (hl : LSo st H') (hd : ∀ a ∈ ex, H' a ≠ none) : RE K A st ow σ H' env := by
  have t := R.to_keep hx hk
  have ok : ∀ i a o, ow i = some a → H a = some o → H' a = some o := fun i a o e h => hk a o h fun z => R.na i a e (hx a z)
  have nn : ∀ {a : Addr}, H a ≠ none → (a ∉ ex) → H' a ≠ none := fun {a} h n => by
    cases e : H a with
    | none => exact absurd e h
    | some o => rw [hk a o e n]; intro z; cases z
  refine ⟨hl, fun a ha => ?_, R.sta, fun i a e => nn (R.al i a e) fun z => R.na i a e (hx a z), R.na, R.inj, R.tie, R.len, fun i e he => ?_⟩
  · by_cases h : a ∈ ex
    · exact hd a h
    · exact nn (R.dom a ha) h
  · obtain ⟨v, hv, r⟩ := R.sl i e he
    refine ⟨v, hv, ?_⟩
    cases e with
    | d x => exact Rep.to t r
    | own ds =>
      obtain ⟨a, vs, h1, h2, h3, h4⟩ := r
      exact ⟨a, vs, h1, h2, ok i a _ h1 h3, RepL.to t h4⟩
    | odk ds =>
      obtain ⟨a, vs, h1, h2, h3, h4⟩ := r
      exact ⟨a, vs, h1, h2, ok i a _ h1 h3, RepK.to t h4⟩
    | st => exact r
theorem RE.exA (R : RE K A st ow σ H env) : ∀ a ∈ exs st, A a := fun a h => by
  obtain ⟨q, e, z⟩ := exs_mem h
  rcases z with rfl | rfl
  · exact (R.sta q e).1
  · exact (R.sta q e).2
theorem LSo.ne {st : Option (Addr × Addr)} {H : Hp} (l : LSo st H) : ∀ a ∈ exs st, H a ≠ none := fun a h => by
  obtain ⟨q, e, z⟩ := exs_mem h
  obtain ⟨k, ns, h1, h2, _⟩ := l q e
  rcases z with rfl | rfl
  · rw [h1]; intro z; cases z
  · rw [h2]; intro z; cases z
theorem RE.step (R : RE K A st ow σ H env) (s : Stp st H H') : RE K A st ow σ H' env := R.keep R.exA s.k s.l s.l.ne
theorem RE.toS (R : RE K A st ow σ H env) (s : Stp st H H') : To H H' (Mo A ow) (Mo A ow) := R.to_keep R.exA s.k
theorem RE.alM (R : RE K A st ow σ H env) {a : Addr} (h : Mo A ow a) : H a ≠ none := h.elim (R.dom a) fun ⟨i, e⟩ => R.al i a e
end
/-- data that is read: what a slot owns may be read too -/
inductive RepB (K : PySem.W.Frag) (H : Hp) (A M : Addr → Prop) : D → V → Prop
  | r {d : D} {v : V} : Rep K H M d v → RepB K H A M d v
  | o {a : Addr} {xs : List V} {ds : List D} : H a = some (.lst xs) → ¬ A a → RepL K H M ds xs → RepB K H A M (.list ds) (.ref a)
  | k {a : Addr} {us : List (Key × V)} {kvs : List (D × D)} : H a = some (.dK us) → ¬ A a → RepK K H M kvs us → RepB K H A M (.dict kvs) (.ref a)
def eget : Ev → Nat → Option En
  | [], _ => none
  | e :: _, 0 => e
  | _ :: r, n + 1 => eget r n
theorem eget_some : ∀ {env : Ev} {i : Nat} {e : En}, eget env i = some e → env[i]? = some (some e)
  | [], _, _, h => by cases h
  | _ :: _, 0, _, h => by rw [List.getElem?_cons_zero]; exact congrArg some h
  | _ :: r, n + 1, _, h => by rw [List.getElem?_cons_succ]; exact eget_some h
theorem some_eget : ∀ {env : Ev} {i : Nat} {e : En}, env[i]? = some (some e) → eget env i = some e
  | [], _, _, h => by simp at h
  | _ :: _, 0, _, h => by rw [List.getElem?_cons_zero] at h; exact Option.some.inj h
  | _ :: r, n + 1, _, h => some_eget (env := r) (i := n) (by rw [List.getElem?_cons_succ] at h; exact h)
def isOwn (env : Ev) (i : Nat) : Bool := match eget env i with | some (.own _) => true | some (.odk _) => true | _ => false
def noOwn (vs : List Nat) (env : Ev) : Bool := vs.all fun i => !isOwn env i
structure RfE (K : PySem.W.Frag) (t : TE) (de : Ev → (D → Prop) → Prop) : Prop where
  run : ∀ {A : Addr → Prop} {st : Option (Addr × Addr)} {ow : Nat → Option Addr} {σ : L2.St} {H : Hp} {env : Ev} {Qd : D → Prop} {Q : VK},
  RE K A st ow σ H env → de env Qd → (∀ d v H', Qd d → Stp st H H' → Rep K H' (Mo A ow) d v → Q v H') → t σ H Q
structure RfB (K : PySem.W.Frag) (t : TE) (de : Ev → (D → Prop) → Prop) : Prop where
  run : ∀ {A : Addr → Prop} {st : Option (Addr × Addr)} {ow : Nat → Option Addr} {σ : L2.St} {H : Hp} {env : Ev} {Qd : D → Prop} {Q : VK},
  RE K A st ow σ H env → de env Qd → (∀ d v H', Qd d → Stp st H H' → RepB K H' A (Mo A ow) d v → Q v H') → t σ H Q
structure RfT (K : PySem.W.Frag) (t : TT) (dt : Ev → (Bool → Prop) → Prop) : Prop where
  run : ∀ {A : Addr → Prop} {st : Option (Addr × Addr)} {ow : Nat → Option Addr} {σ : L2.St} {H : Hp} {env : Ev} {Qd : Bool → Prop} {Q : Bool → Hp → Prop},
  RE K A st ow σ H env → dt env Qd → (∀ b H', Qd b → Stp st H H' → Q b H') → t σ H Q
structure RfA (K : PySem.W.Frag) (t : TA) (da : Ev → (List D → Prop) → Prop) : Prop where
  run : ∀ {A : Addr → Prop} {st : Option (Addr × Addr)} {ow : Nat → Option Addr} {σ : L2.St} {H : Hp} {env : Ev} {Qd : List D → Prop} {Q : List V → Hp → Prop},
  RE K A st ow σ H env → da env Qd → (∀ ds vs H', Qd ds → Stp st H H' → RepL K H' (Mo A ow) ds vs → Q vs H') → t σ H Q
/-- arguments that are read alone -/
inductive RepBL (K : PySem.W.Frag) (H : Hp) (A M : Addr → Prop) : List D → List V → Prop
  | nil : RepBL K H A M [] []
  | cons {d : D} {v : V} {ds : List D} {vs : List V} : RepB K H A M d v → RepBL K H A M ds vs → RepBL K H A M (d :: ds) (v :: vs)
structure RfAB (K : PySem.W.Frag) (t : TA) (da : Ev → (List D → Prop) → Prop) : Prop where
  run : ∀ {A : Addr → Prop} {st : Option (Addr × Addr)} {ow : Nat → Option Addr} {σ : L2.St} {H : Hp} {env : Ev} {Qd : List D → Prop} {Q : List V → Hp → Prop},
  RE K A st ow σ H env → da env Qd → (∀ ds vs H', Qd ds → Stp st H H' → RepBL K H' A (Mo A ow) ds vs → Q vs H') → t σ H Q
/-- an operator's reading by values -/
structure RfV2 (K : PySem.W.Frag) (r : R2) (op : D → D → (D → Prop) → Prop) : Prop where
  run : ∀ {A : Addr → Prop} {st : Option (Addr × Addr)} {ow : Nat → Option Addr} {σ : L2.St} {H : Hp} {env : Ev} {a b : D} {x y : V} {Qd : D → Prop} {Q : VK},
  RE K A st ow σ H env → RepB K H A (Mo A ow) a x → RepB K H A (Mo A ow) b y → op a b Qd → (∀ d v H', Qd d → Stp st H H' → Rep K H' (Mo A ow) d v → Q v H') → r x y H Q
structure RfVL (K : PySem.W.Frag) (r : List V → Hp → VK → Prop) (op : List D → (D → Prop) → Prop) : Prop where
  run : ∀ {A : Addr → Prop} {st : Option (Addr × Addr)} {ow : Nat → Option Addr} {σ : L2.St} {H : Hp} {env : Ev} {ds : List D} {vs : List V} {Qd : D → Prop} {Q : VK},
  RE K A st ow σ H env → RepBL K H A (Mo A ow) ds vs → op ds Qd → (∀ d v H', Qd d → Stp st H H' → Rep K H' (Mo A ow) d v → Q v H') → r vs H Q
section
variable {K : PySem.W.Frag}
theorem RepB.to {H H' : Hp} {A M : Addr → Prop} (t : To H H' M M) (hA : ∀ a o, H a = some o → ¬ A a → H' a = some o) {d : D} {v : V} (h : RepB K H A M d v) : RepB K H' A M d v := by
  cases h with
  | r h => exact .r (Rep.to t h)
  | o h n r => exact .o (hA _ _ h n) n (RepL.to t r)
  | k h n r => exact .k (hA _ _ h n) n (RepK.to t r)
theorem RE.stepB {A : Addr → Prop} {st : Option (Addr × Addr)} {ow : Nat → Option Addr} {σ : L2.St} {H H' : Hp} {env : Ev} (R : RE K A st ow σ H env) (s : Stp st H H') {d : D} {v : V} (h : RepB K H A (Mo A ow) d v) : RepB K H' A (Mo A ow) d v :=   h.to (R.toS s) fun a o e n => s.k a o e fun z => n (R.exA a z)
theorem RfE.b {t : TE} {de : Ev → (D → Prop) → Prop} (h : RfE K t de) : RfB K t de := ⟨fun R q k => h.run R q fun d v H' x s r => k d v H' x s (.r r)⟩
def dN (i : Nat) : Ev → (D → Prop) → Prop := fun env Q => match eget env i with | some (.d x) => Q x | _ => False
def dNB (i : Nat) : Ev → (D → Prop) → Prop := fun env Q => match eget env i with | some (.d x) => Q x | some (.own ds) => Q (.list ds) | some (.odk ds) => Q (.dict ds) | _ => False
theorem stp_refl {A : Addr → Prop} {st : Option (Addr × Addr)} {ow : Nat → Option Addr} {σ : L2.St} {H : Hp} {env : Ev} (R : RE K A st ow σ H env) : Stp st H H := ⟨Keep.refl _ _, R.ls⟩
theorem rn (i : Nat) : RfE K (tVar i) (dN i) := ⟨fun {A st ow σ H env Qd Q} R q k => by
  unfold dN at q
  split at q
  · rename_i x e
    obtain ⟨v, hv, r⟩ := R.sl i _ (eget_some e)
    exact ⟨v, hv, k x v H q (stp_refl R) r⟩
  · exact q.elim⟩
theorem rnb (i : Nat) : RfB K (tVar i) (dNB i) := ⟨fun {A st ow σ H env Qd Q} R q k => by
  unfold dNB at q
  split at q
  · rename_i x e
    obtain ⟨v, hv, r⟩ := R.sl i _ (eget_some e)
    exact ⟨v, hv, k x v H q (stp_refl R) (.r r)⟩
  · rename_i x e
    obtain ⟨v, hv, a, vs, h1, rfl, h3, h4⟩ := R.sl i _ (eget_some e)
    exact ⟨_, hv, k _ _ H q (stp_refl R) (.o h3 (R.na _ _ h1) h4)⟩
  · rename_i x e
    obtain ⟨v, hv, a, vs, h1, rfl, h3, h4⟩ := R.sl i _ (eget_some e)
    exact ⟨_, hv, k _ _ H q (stp_refl R) (.k h3 (R.na _ _ h1) h4)⟩
  · exact q.elim⟩
def dC (x : D) : Ev → (D → Prop) → Prop := fun _ Q => Q x
theorem rc_int (i : Int) : RfE K (tC (.int i)) (dC (.int i)) := ⟨fun R q k => k _ _ _ q (stp_refl R) (.int i)⟩
theorem rc_bl (i : Bool) : RfE K (tC (.bl i)) (dC (.bool i)) := ⟨fun R q k => k _ _ _ q (stp_refl R) (.bl i)⟩
theorem rc_str (i : Str) : RfE K (tC (.str i)) (dC (.str i)) := ⟨fun R q k => k _ _ _ q (stp_refl R) (.str i)⟩
theorem rc_non : RfE K (tC .non) (dC .none) := ⟨fun R q k => k _ _ _ q (stp_refl R) .non⟩
/-- a constant of the top: a tuple of scalars -/
inductive Sc : D → V → Prop
  | non : Sc .none .non
  | bl (b : Bool) : Sc (.bool b) (.bl b)
  | int (i : Int) : Sc (.int i) (.int i)
  | str (s : Str) : Sc (.str s) (.str s)
theorem Sc.rep {d : D} {v : V} {H : Hp} {A : Addr → Prop} (h : Sc d v) : Rep K H A d v := by
  cases h with
  | non => exact .non
  | bl b => exact .bl b
  | int b => exact .int b
  | str b => exact .str b
theorem sc_all {ds : List D} {vs : List V} {H : Hp} {A : Addr → Prop} (h : Paired Sc ds vs) : RepL K H A ds vs := by
  induction h with
  | nil => exact .nil
  | cons h _ ih => exact .cons h.rep ih
theorem rc_tup {a : Addr} {ds : List D} {vs : List V} (h : KTup K a vs) (hs : Paired Sc ds vs) : RfE K (tC (.ref a)) (dC (.tuple ds)) := ⟨fun R q k => k _ _ _ q (stp_refl R) (.tup (.inr h) (sc_all hs))⟩
def dOp (op : D → D → (D → Prop) → Prop) (da db : Ev → (D → Prop) → Prop) : Ev → (D → Prop) → Prop := fun env Q => da env fun x => db env fun y => op x y Q
theorem ro {r : R2} {op : D → D → (D → Prop) → Prop} {ta tb : TE} {da db : Ev → (D → Prop) → Prop} (ho : RfV2 K r op) (ha : RfB K ta da) (hb : RfB K tb db) : RfE K (tOp r ta tb) (dOp op da db) := ⟨fun R q k =>
  ha.run R q fun _ _ _ q1 s1 r1 => hb.run (R.step s1) q1 fun _ _ _ q2 s2 r2 => ho.run ((R.step s1).step s2) ((R.step s1).stepB s2 r1) r2 q2 fun d v H3 q3 s3 r3 => k d v H3 q3 (s1.trans (s2.trans s3)) r3⟩
/-! operators by values -/
def oI (C : Int → Int → Prop) (g : Int → Int → D) : D → D → (D → Prop) → Prop := fun x y Q => match x, y with
  | .int i, .int j => C i j ∧ Q (g i j)
  | _, _ => False
def oI0 (g : Int → Int → D) : D → D → (D → Prop) → Prop := fun x y Q => match x, y with
  | .int i, .int j => Q (g i j)
  | _, _ => False
theorem rv_I {C : Int → Int → Prop} {gv : Int → Int → V} {gd : Int → Int → D} (h : ∀ i j, Sc (gd i j) (gv i j)) : RfV2 K (rI C gv) (oI C gd) := ⟨fun R h1 h2 q k => by
  unfold oI at q
  split at q
  · cases h1 with | r h1 =>
    cases h2 with | r h2 =>
    cases h1; cases h2
    exact ⟨_, _, rfl, rfl, q.1, k _ _ _ q.2 (stp_refl R) (h _ _).rep⟩
  · exact q.elim⟩
theorem rv_I0 {gv : Int → Int → V} {gd : Int → Int → D} (h : ∀ i j, Sc (gd i j) (gv i j)) : RfV2 K (rI0 gv) (oI0 gd) := ⟨fun R h1 h2 q k => by
  unfold oI0 at q
  split at q
  · cases h1 with | r h1 =>
    cases h2 with | r h2 =>
    cases h1; cases h2
    exact ⟨_, _, rfl, rfl, k _ _ _ q (stp_refl R) (h _ _).rep⟩
  · exact q.elim⟩
theorem rv_add : RfV2 K (rI0 fun i j => .int (i + j)) (oI0 fun i j => .int (i + j)) := rv_I0 fun _ _ => .int _
theorem rv_sub : RfV2 K (rI0 fun i j => .int (i - j)) (oI0 fun i j => .int (i - j)) := rv_I0 fun _ _ => .int _
theorem rv_mul : RfV2 K (rI CMul fun i j => .int (i * j)) (oI CMul fun i j => .int (i * j)) := rv_I fun _ _ => .int _
theorem rv_mod : RfV2 K (rI (fun _ j => 0 < j) fun i j => .int (i % j)) (oI (fun _ j => 0 < j) fun i j => .int (i % j)) := rv_I fun _ _ => .int _
theorem rv_fdiv : RfV2 K (rI CDiv fun i j => .int (i / j)) (oI CDiv fun i j => .int (i / j)) := rv_I fun _ _ => .int _
theorem rv_pow : RfV2 K (rI CPow fun i j => .int (i ^ j.toNat)) (oI CPow fun i j => .int (i ^ j.toNat)) := rv_I fun _ _ => .int _
theorem rv_shl : RfV2 K (rI CPow fun i j => .int (i * 2 ^ j.toNat)) (oI CPow fun i j => .int (i * 2 ^ j.toNat)) := rv_I fun _ _ => .int _
theorem rv_shr : RfV2 K (rI (fun _ j => 0 ≤ j) fun i j => .int (i / 2 ^ j.toNat)) (oI (fun _ j => 0 ≤ j) fun i j => .int (i / 2 ^ j.toNat)) := rv_I fun _ _ => .int _
theorem rv_and : RfV2 K (rI0 fun i j => .int (Builtin.bitAnd i j)) (oI0 fun i j => .int (Builtin.bitAnd i j)) := rv_I0 fun _ _ => .int _
theorem rv_or : RfV2 K (rI0 fun i j => .int (Builtin.bitOr i j)) (oI0 fun i j => .int (Builtin.bitOr i j)) := rv_I0 fun _ _ => .int _
theorem rv_xor : RfV2 K (rI0 fun i j => .int (Builtin.bitXor i j)) (oI0 fun i j => .int (Builtin.bitXor i j)) := rv_I0 fun _ _ => .int _
theorem rv_lt : RfV2 K (rI0 fun i j => .bl (decide (i < j))) (oI0 fun i j => .bool (decide (i < j))) := rv_I0 fun _ _ => .bl _
theorem rv_le : RfV2 K (rI0 fun i j => .bl (decide (i ≤ j))) (oI0 fun i j => .bool (decide (i ≤ j))) := rv_I0 fun _ _ => .bl _
theorem rv_gt : RfV2 K (rI0 fun i j => .bl (decide (j < i))) (oI0 fun i j => .bool (decide (j < i))) := rv_I0 fun _ _ => .bl _
theorem rv_ge : RfV2 K (rI0 fun i j => .bl (decide (j ≤ i))) (oI0 fun i j => .bool (decide (j ≤ i))) := rv_I0 fun _ _ => .bl _
def okD (d : D) : Bool := SeqAt.shaped d
theorem okD_lay {d : D} (h : okD d = true) : d.canLay0 = true := by
  unfold okD SeqAt.shaped at h
  rw [Bool.and_eq_true] at h
  exact h.1
theorem RepB.dp {H : Hp} {A M : Addr → Prop} {d : D} {v : V} (h : RepB K H A M d v) (c : d.canLay0 = true) : Dp K H v d := by
  cases h with
  | r h => exact Rep.dp h c
  | o h n r => exact .lst (SqL.of h) (RepL.dp r (by simpa [PyData.canLay0] using c))
  | k h n r => simp [PyData.canLay0] at c
def oEq (neg : Bool) : D → D → (D → Prop) → Prop := fun x y Q => okD x = true ∧ okD y = true ∧ Q (.bool (if neg then !PyData.eqv x y else PyData.eqv x y))
theorem rv_eqD : RfV2 K (rEqD K) (oEq false) := ⟨fun R h1 h2 q k => ⟨_, _, h1.dp (okD_lay q.1), h2.dp (okD_lay q.2.1), q.1, q.2.1, k _ _ _ q.2.2 (stp_refl R) (.bl _)⟩⟩
theorem rv_neD : RfV2 K (rNeD K) (oEq true) := ⟨fun R h1 h2 q k => ⟨_, _, h1.dp (okD_lay q.1), h2.dp (okD_lay q.2.1), q.1, q.2.1, k _ _ _ q.2.2 (stp_refl R) (.bl _)⟩⟩
/-- == of scalars -/
def eqS : D → D → Option Bool
  | .none, .none => some true
  | .none, .int _ => some false | .int _, .none => some false | .none, .bool _ => some false | .bool _, .none => some false | .none, .str _ => some false | .str _, .none => some false
  | .int i, .int j => some (decide (i = j)) | .bool a, .bool b => some (decide (a = b)) | .str a, .str b => some (decide (a = b))
  | .int _, .str _ => some false | .str _, .int _ => some false | .bool _, .str _ => some false | .str _, .bool _ => some false
  | _, _ => none
def oEqS (neg : Bool) : D → D → (D → Prop) → Prop := fun x y Q => match eqS x y with
  | some b => Q (.bool (if neg then !b else b))
  | none => False
theorem eqS_V {H : Hp} {A M : Addr → Prop} {a b : D} {x y : V} {c : Bool} (h : eqS a b = some c) (h1 : RepB K H A M a x) (h2 : RepB K H A M b y) : scal x y = true ∧ decide (x = y) = c := by
  cases h1 with
  | r h1 =>
    cases h2 with
    | r h2 => cases h1 <;> cases h2 <;> simp_all [eqS, scal]
    | o h n r => cases h1 <;> simp_all [eqS]
    | k h n r => cases h1 <;> simp_all [eqS]
  | o h n r => cases b <;> simp_all [eqS]
  | k h n r => cases b <;> simp_all [eqS]
theorem rv_eq : RfV2 K rEq (oEqS false) := ⟨fun R h1 h2 q k => by
  unfold oEqS at q
  split at q
  · rename_i b e
    obtain ⟨e1, e2⟩ := eqS_V e h1 h2
    exact ⟨e1, by rw [e2]; exact k _ _ _ q (stp_refl R) (.bl _)⟩
  · exact q.elim⟩
theorem rv_ne : RfV2 K rNe (oEqS true) := ⟨fun R h1 h2 q k => by
  unfold oEqS at q
  split at q
  · rename_i b e
    obtain ⟨e1, e2⟩ := eqS_V e h1 h2
    exact ⟨e1, by rw [e2]; exact k _ _ _ q (stp_refl R) (.bl _)⟩
  · exact q.elim⟩
def isNo : D → Bool | .none => true | _ => false
def oIsN (neg : Bool) : D → D → (D → Prop) → Prop := fun x y Q => match y with
  | .none => Q (.bool (if neg then !isNo x else isNo x))
  | _ => False
theorem isNo_V {H : Hp} {A M : Addr → Prop} {a : D} {x : V} (h1 : RepB K H A M a x) : decide (x = .non) = isNo a := by
  cases h1 with
  | r h1 => cases h1 <;> simp [isNo]
  | o h n r => simp [isNo]
  | k h n r => simp [isNo]
theorem rv_isN : RfV2 K (fun x y H Q => y = .non ∧ Q (.bl (decide (x = .non))) H) (oIsN false) := ⟨fun R h1 h2 q k => by
  unfold oIsN at q
  split at q
  · cases h2 with | r h2 =>
    cases h2
    exact ⟨rfl, by rw [isNo_V h1]; exact k _ _ _ q (stp_refl R) (.bl _)⟩
  · exact q.elim⟩
theorem rv_notN : RfV2 K (fun x y H Q => y = .non ∧ Q (.bl (!decide (x = .non))) H) (oIsN true) := ⟨fun R h1 h2 q k => by
  unfold oIsN at q
  split at q
  · cases h2 with | r h2 =>
    cases h2
    exact ⟨rfl, by rw [isNo_V h1]; exact k _ _ _ q (stp_refl R) (.bl _)⟩
  · exact q.elim⟩
def oB (g : Bool → Bool → Bool) : D → D → (D → Prop) → Prop := fun x y Q => match x, y with
  | .bool i, .bool j => Q (.bool (g i j))
  | _, _ => False
theorem rv_isB : RfV2 K (fun x y H Q => ∃ a b, x = .bl a ∧ y = .bl b ∧ Q (.bl (decide (a = b))) H) (oB fun a b => decide (a = b)) := ⟨fun R h1 h2 q k => by
  unfold oB at q
  split at q
  · cases h1 with | r h1 =>
    cases h2 with | r h2 =>
    cases h1; cases h2
    exact ⟨_, _, rfl, rfl, k _ _ _ q (stp_refl R) (.bl _)⟩
  · exact q.elim⟩
theorem rv_notB : RfV2 K (fun x y H Q => ∃ a b, x = .bl a ∧ y = .bl b ∧ Q (.bl (!decide (a = b))) H) (oB fun a b => !decide (a = b)) := ⟨fun R h1 h2 q k => by
  unfold oB at q
  split at q
  · cases h1 with | r h1 =>
    cases h2 with | r h2 =>
    cases h1; cases h2
    exact ⟨_, _, rfl, rfl, k _ _ _ q (stp_refl R) (.bl _)⟩
  · exact q.elim⟩
/-! sequences -/
def seqOf : D → Option (List D)
  | .list ds => some ds
  | .tuple ds => some ds
  | _ => none
theorem RepB.seq {H : Hp} {A M : Addr → Prop} {d : D} {v : V} {ds : List D} (h : RepB K H A M d v) (e : seqOf d = some ds) : ∃ a xs, v = .ref a ∧ (SqL K H a xs ∨ SqT K H a xs) ∧ RepL K H M ds xs := by
  cases h with
  | r h =>
    cases h with
    | lst h n r => cases e; exact ⟨_, _, rfl, .inl (SqL.of h), r⟩
    | tup h r => cases e; exact ⟨_, _, rfl, .inr h.sq, r⟩
    | _ => cases e
  | o h n r => cases e; exact ⟨_, _, rfl, .inl (SqL.of h), r⟩
  | k h n r => cases e
theorem RepB.lst {H : Hp} {A M : Addr → Prop} {v : V} {ds : List D} (h : RepB K H A M (.list ds) v) : ∃ a xs, v = .ref a ∧ H a = some (.lst xs) ∧ RepL K H M ds xs := by
  cases h with
  | r h => cases h with | lst h n r => exact ⟨_, _, rfl, h, r⟩
  | o h n r => exact ⟨_, _, rfl, h, r⟩
theorem RepB.tup {H : Hp} {A M : Addr → Prop} {v : V} {ds : List D} (h : RepB K H A M (.tuple ds) v) : ∃ a xs, v = .ref a ∧ TupAt K H M a xs ∧ RepL K H M ds xs := by
  cases h with
  | r h => cases h with | tup h r => exact ⟨_, _, rfl, h, r⟩
/-- ds[i] -/
def dix (ds : List D) (i : Int) : Option D := atI ds i
def oIx : D → D → (D → Prop) → Prop := fun x y Q => match seqOf x, y with
  | some ds, .int i => (match dix ds i with | some d => Q d | none => False)
  | _, _ => False
theorem dix_nn {xs : List D} {i : Int} {x : D} (h : 0 ≤ i) (e : xs[i.toNat]? = some x) : dix xs i = some x := by
  have hl := (List.getElem?_eq_some_iff.mp e).1
  unfold dix atI ixN
  rw [if_pos h, if_pos (by omega)]
  exact e
theorem dix_map {α : Type} {f : α → D} {as : List α} {i : Int} {a : α} (h : 0 ≤ i) (e : as[i.toNat]? = some a) : dix (as.map f) i = some (f a) := dix_nn h (by rw [List.getElem?_map, e]; rfl)
theorem dix_0 (a : D) (r : List D) : dix (a :: r) 0 = some a := dix_nn (by decide) rfl
theorem dix_1 (a b : D) (r : List D) : dix (a :: b :: r) 1 = some b := dix_nn (by decide) rfl
theorem dix_2 (a b c : D) (r : List D) : dix (a :: b :: c :: r) 2 = some c := dix_nn (by decide) rfl
theorem dix_3 (a b c d : D) (r : List D) : dix (a :: b :: c :: d :: r) 3 = some d := dix_nn (by decide) rfl
theorem dix_4 (a b c d e : D) (r : List D) : dix (a :: b :: c :: d :: e :: r) 4 = some e := dix_nn (by decide) rfl
theorem dix_5 (a b c d e f : D) (r : List D) : dix (a :: b :: c :: d :: e :: f :: r) 5 = some f := dix_nn (by decide) rfl
theorem dix_6 (a b c d e f g : D) (r : List D) : dix (a :: b :: c :: d :: e :: f :: g :: r) 6 = some g := dix_nn (by decide) rfl
theorem dix_7 (a b c d e f g h : D) (r : List D) : dix (a :: b :: c :: d :: e :: f :: g :: h :: r) 7 = some h := dix_nn (by decide) rfl
theorem dix_8 (a b c d e f g h i : D) (r : List D) : dix (a :: b :: c :: d :: e :: f :: g :: h :: i :: r) 8 = some i := dix_nn (by decide) rfl
theorem dix_9 (a b c d e f g h i j : D) (r : List D) : dix (a :: b :: c :: d :: e :: f :: g :: h :: i :: j :: r) 9 = some j := dix_nn (by decide) rfl
theorem atI_rep {H : Hp} {M : Addr → Prop} {ds : List D} {xs : List V} {i : Int} {d : D} (r : RepL K H M ds xs) (e : atI ds i = some d) : ∃ v, atI xs i = some v ∧ Rep K H M d v := by
  unfold atI at e ⊢
  rw [r.len] at e
  cases h : ixN xs.length i with
  | none => rw [h] at e; cases e
  | some j =>
    rw [h] at e
    exact r.get e
theorem rv_ix : RfV2 K (rIx K) oIx := ⟨fun {A st ow σ H env a b x y Qd Q} R h1 h2 q k => by
  unfold oIx at q
  split at q
  · rename_i ds i e
    split at q
    · rename_i d e1
      obtain ⟨p, xs, rfl, hs, r⟩ := h1.seq e
      obtain ⟨v, e2, rv⟩ := atI_rep r e1
      cases h2 with | r h2 =>
      cases h2
      rcases hs with h | h
      · exact .inl ⟨_, _, _, v, rfl, rfl, h, e2, k _ _ _ q (stp_refl R) rv⟩
      · exact .inr (.inl ⟨_, _, _, v, rfl, rfl, h, e2, k _ _ _ q (stp_refl R) rv⟩)
    · exact q.elim
  · exact q.elim⟩
def oIxS : D → D → (D → Prop) → Prop := fun x y Q => match x, y with
  | .str z, .int i => z.length ≤ sizeLine ∧ ∃ c, atI z.cps.toList i = some c ∧ Q (.str ⟨#[c]⟩)
  | _, _ => False
theorem rv_ixS : RfV2 K rIxS oIxS := ⟨fun R h1 h2 q k => by
  unfold oIxS at q
  split at q
  · cases h1 with | r h1 =>
    cases h2 with | r h2 =>
    cases h1; cases h2
    obtain ⟨q1, c, q2, q3⟩ := q
    exact ⟨_, _, c, rfl, rfl, q1, q2, k _ _ _ q3 (stp_refl R) (.str _)⟩
  · exact q.elim⟩
/-- a new place -/
theorem new_to {H : Hp} {p : Addr} {o : HO} {M M' : Addr → Prop} (n : H p = none) (hm : ∀ a, M' a → M a ∨ a = p) : To H (upd H p o) M M' :=   ⟨fun b x e z => ⟨same_upd n b x e, fun w => (hm b w).elim z fun y => by rw [y, n] at e; cases e⟩⟩
theorem to_same {H H' : Hp} {M : Addr → Prop} (s : Same H H') : To H H' M M := ⟨fun b x e z => ⟨s b x e, z⟩⟩
section
variable {A : Addr → Prop} {st : Option (Addr × Addr)} {ow : Nat → Option Addr} {σ : L2.St} {H : Hp} {env : Ev}
theorem RE.newM (R : RE K A st ow σ H env) {p : Addr} (n : H p = none) : ¬ Mo A ow p := fun z => R.alM z n
theorem RE.newA (R : RE K A st ow σ H env) {p : Addr} (n : H p = none) : ¬ A p := fun z => R.dom p z n
theorem RE.mkT (R : RE K A st ow σ H env) {p : Addr} {ds : List D} {xs : List V} (n : H p = none) (r : RepL K H (Mo A ow) ds xs) : Rep K (upd H p (.tup xs)) (Mo A ow) (.tuple ds) (.ref p) :=   .tup (.inl ⟨.inl upd_same, R.newM n⟩) (RepL.to (to_same (same_upd n)) r)
theorem RE.mkL (R : RE K A st ow σ H env) {p : Addr} {ds : List D} {xs : List V} (n : H p = none) (r : RepL K H (Mo A ow) ds xs) : Rep K (upd H p (.lst xs)) (Mo A ow) (.list ds) (.ref p) :=   .lst upd_same (R.newM n) (RepL.to (to_same (same_upd n)) r)
theorem RE.new (R : RE K A st ow σ H env) {p : Addr} {o : HO} (n : H p = none) : Stp st H (upd H p o) := .same R.ls (same_upd n)
end
def cutD {α : Type} (xs : List α) (lo hi : Option Int) : List α := (xs.drop (HT.sIx xs.length 0 lo)).take (HT.sIx xs.length xs.length hi - HT.sIx xs.length 0 lo)
theorem cut_rep {H : Hp} {M : Addr → Prop} {ds : List D} {xs : List V} {lo hi : Option Int} (r : RepL K H M ds xs) : RepL K H M (cutD ds lo hi) (cutV xs lo hi) := by
  unfold cutD cutV
  rw [r.len]
  exact (r.drop _).take _
def oCat : D → D → (D → Prop) → Prop := fun x y Q => match x, y with
  | .list a, .list b => a.length + b.length ≤ sizeLine ∧ Q (.list (a ++ b))
  | _, _ => False
theorem rv_cat : RfV2 K rCat oCat := ⟨fun R h1 h2 q k => by
  unfold oCat at q
  split at q
  · obtain ⟨a, xs, rfl, h3, r3⟩ := h1.lst
    obtain ⟨b, ys, rfl, h4, r4⟩ := h2.lst
    exact ⟨a, b, xs, ys, rfl, rfl, h3, h4, by rw [← r3.len, ← r4.len]; exact q.1, fun p n => k _ _ _ q.2 (R.new n) (R.mkL n (r3.app r4))⟩
  · exact q.elim⟩
def oCatT : D → D → (D → Prop) → Prop := fun x y Q => match x, y with
  | .tuple a, .tuple b => a.length + b.length ≤ sizeLine ∧ Q (.tuple (a ++ b))
  | _, _ => False
theorem RepL.nil_iff {H : Hp} {M : Addr → Prop} {ds : List D} {xs : List V} (r : RepL K H M ds xs) (h : xs = []) : ds = [] := by
  subst h
  cases r
  rfl
theorem rv_catT : RfV2 K (rCatA K) oCatT := ⟨fun R h1 h2 q k => by
  unfold oCatT at q
  split at q
  · obtain ⟨a, xs, rfl, h3, r3⟩ := h1.tup
    obtain ⟨b, ys, rfl, h4, r4⟩ := h2.tup
    refine ⟨a, b, xs, ys, rfl, rfl, h3.sq, h4.sq, by rw [← r3.len, ← r4.len]; exact q.1, fun e => ?_, fun _ e => ?_, fun _ _ p n => k _ _ _ q.2 (R.new n) (R.mkT n (r3.app r4))⟩
    · have e' := r3.nil_iff e
      subst e'
      exact k _ _ _ q.2 (stp_refl R) (.tup h4 r4)
    · have e' := r4.nil_iff e
      subst e'
      rw [List.append_nil] at q
      exact k _ _ _ q.2 (stp_refl R) (.tup h3 r3)
  · exact q.elim⟩
def oCatS : D → D → (D → Prop) → Prop := fun x y Q => match x, y with
  | .str a, .str b => a.length + b.length ≤ sizeLine ∧ Q (.str (a ++ b))
  | _, _ => False
theorem rv_catS : RfV2 K (fun x y H Q => ∃ i j, x = .str i ∧ y = .str j ∧ i.length + j.length ≤ sizeLine ∧ Q (.str (i ++ j)) H) oCatS := ⟨fun R h1 h2 q k => by
  unfold oCatS at q
  split at q
  · cases h1 with | r h1 =>
    cases h2 with | r h2 =>
    cases h1; cases h2
    exact ⟨_, _, rfl, rfl, q.1, k _ _ _ q.2 (stp_refl R) (.str _)⟩
  · exact q.elim⟩
/-! in -/
def flatD : D → Bool
  | .none => true | .bool _ => true | .int _ => true | .str _ => true | _ => false
def inD (x : D) (xs : List D) : Bool := xs.any fun y => PyData.eqv y x
theorem flat_V {H : Hp} {M : Addr → Prop} {d : D} {v : V} (h : Rep K H M d v) : flatV v = flatD d := by cases h <;> rfl
theorem flat_all {H : Hp} {M : Addr → Prop} : ∀ {ds : List D} {vs : List V}, RepL K H M ds vs → vs.all flatV = ds.all flatD
  | _, _, .nil => rfl
  | _, _, .cons h r => by rw [List.all_cons, List.all_cons, flat_V h, flat_all r]
theorem eqV_D {H : Hp} {M : Addr → Prop} {d e : D} {v u : V} (h : Rep K H M d v) (h2 : Rep K H M e u) (f : flatD d = true) (f2 : flatD e = true) : eqV v u = PyData.eqv d e := by
  cases h <;> cases h2 <;> first | rfl | (simp [flatD] at f) | (simp [flatD] at f2)
theorem inV_D {H : Hp} {M : Addr → Prop} {d : D} {v : V} (h : Rep K H M d v) (f : flatD d = true) : ∀ {ds : List D} {vs : List V}, RepL K H M ds vs → ds.all flatD = true → inV v vs = inD d ds
  | _, _, .nil, _ => rfl
  | _, _, .cons h1 r, g => by
    rw [List.all_cons, Bool.and_eq_true] at g
    have := inV_D h f r g.2
    unfold inV inD at this ⊢
    rw [List.any_cons, List.any_cons, this, eqV_D h1 h g.1 f]
def oIn (neg : Bool) : D → D → (D → Prop) → Prop := fun x y Q => match seqOf y with
  | some ds => flatD x = true ∧ ds.all flatD = true ∧ Q (.bool (if neg then !inD x ds else inD x ds))
  | none => False
theorem rv_in (neg : Bool) : RfV2 K (rIn K neg) (oIn neg) := ⟨fun {A st ow σ H env a b x y Qd Q} R h1 h2 q k => by
  unfold oIn at q
  split at q
  · rename_i ds e
    obtain ⟨p, xs, rfl, hs, r⟩ := h2.seq e
    obtain ⟨f1, f2, q⟩ := q
    cases h1 with
    | r h1 => exact ⟨p, xs, rfl, hs, by rw [flat_V h1]; exact f1, by rw [flat_all r]; exact f2, by rw [inV_D h1 f1 r f2]; exact k _ _ _ q (stp_refl R) (.bl _)⟩
    | o h n r => cases f1
    | k h n r => cases f1
  · exact q.elim⟩
def oInS (neg : Bool) : D → D → (D → Prop) → Prop := fun x y Q => match x, y with
  | .str u, .str z => ∃ c, u = ⟨#[c]⟩ ∧ Q (.bool (if neg then !decide (c ∈ z.cps.toList) else decide (c ∈ z.cps.toList)))
  | _, _ => False
theorem rv_inS : RfV2 K (fun x y H Q => ∃ (c : Nat) (z : Str), x = .str ⟨#[c]⟩ ∧ y = .str z ∧ Q (.bl (decide (c ∈ z.cps.toList))) H) (oInS false) := ⟨fun R h1 h2 q k => by
  unfold oInS at q
  split at q
  · cases h1 with | r h1 =>
    cases h2 with | r h2 =>
    cases h1; cases h2
    obtain ⟨c, rfl, q⟩ := q
    exact ⟨_, _, rfl, rfl, k _ _ _ q (stp_refl R) (.bl _)⟩
  · exact q.elim⟩
end
section
variable {K : PySem.W.Frag}
theorem To.refl (H : Hp) (M : Addr → Prop) : To H H M M := ⟨fun _ _ h n => ⟨h, n⟩⟩
theorem To.trans {H H1 H2 : Hp} {M M1 M2 : Addr → Prop} (a : To H H1 M M1) (b : To H1 H2 M1 M2) : To H H2 M M2 := ⟨fun p o h n => b.h p o (a.h p o h n).1 (a.h p o h n).2⟩
/-! tests -/
def dTb (de : Ev → (D → Prop) → Prop) : Ev → (Bool → Prop) → Prop := fun env Q => de env fun x => match x with | .bool b => Q b | _ => False
theorem rt_test {t : TE} {de : Ev → (D → Prop) → Prop} (h : RfE K t de) : RfT K (tTest t) (dTb de) := ⟨fun R q k => h.run R q fun d v H' q' s r => by
  split at q'
  · cases r
    exact ⟨_, rfl, k _ _ q' s⟩
  · exact q'.elim⟩
theorem rt_val {t : TE} {de : Ev → (D → Prop) → Prop} (h : RfE K t de) : RfT K (tB t) (dTb de) := ⟨fun R q k => h.run R q fun d v H' q' s r => by
  split at q'
  · cases r
    exact ⟨_, rfl, k _ _ q' s⟩
  · exact q'.elim⟩
def dAnd (a b : Ev → (Bool → Prop) → Prop) : Ev → (Bool → Prop) → Prop := fun env Q => a env fun c => if c = true then b env Q else Q false
def dOr (a b : Ev → (Bool → Prop) → Prop) : Ev → (Bool → Prop) → Prop := fun env Q => a env fun c => if c = true then Q true else b env Q
def dNot (a : Ev → (Bool → Prop) → Prop) : Ev → (Bool → Prop) → Prop := fun env Q => a env fun c => Q (!c)
theorem rt_and {t u : TT} {a b : Ev → (Bool → Prop) → Prop} (h1 : RfT K t a) (h2 : RfT K u b) : RfT K (tAnd t u) (dAnd a b) := ⟨fun R q k => h1.run R q fun c H1 q1 s1 => by
  cases c with
  | true =>
    rw [if_pos rfl] at q1 ⊢
    exact h2.run (R.step s1) q1 fun c H2 q2 s2 => k c H2 q2 (s1.trans s2)
  | false =>
    rw [if_neg Bool.false_ne_true] at q1 ⊢
    exact k _ _ q1 s1⟩
theorem rt_or {t u : TT} {a b : Ev → (Bool → Prop) → Prop} (h1 : RfT K t a) (h2 : RfT K u b) : RfT K (tOr t u) (dOr a b) := ⟨fun R q k => h1.run R q fun c H1 q1 s1 => by
  cases c with
  | false =>
    rw [if_neg Bool.false_ne_true] at q1 ⊢
    exact h2.run (R.step s1) q1 fun c H2 q2 s2 => k c H2 q2 (s1.trans s2)
  | true =>
    rw [if_pos rfl] at q1 ⊢
    exact k _ _ q1 s1⟩
theorem rt_not {t : TT} {a : Ev → (Bool → Prop) → Prop} (h : RfT K t a) : RfT K (tNot t) (dNot a) := ⟨fun R q k => h.run R q fun c H1 q1 s1 => k _ _ q1 s1⟩
def dYes : Ev → (Bool → Prop) → Prop := fun _ Q => Q true
theorem rt_yes : RfT K tYes dYes := ⟨fun R q k => k _ _ q (stp_refl R)⟩
/-! expressions that branch -/
def dAndV (a b : Ev → (D → Prop) → Prop) : Ev → (D → Prop) → Prop := fun env Q => a env fun x => match x with | .bool c => if c = true then b env Q else Q (.bool false) | _ => False
def dOrV (a b : Ev → (D → Prop) → Prop) : Ev → (D → Prop) → Prop := fun env Q => a env fun x => match x with | .bool c => if c = true then Q (.bool true) else b env Q | _ => False
def dNotV (a : Ev → (D → Prop) → Prop) : Ev → (D → Prop) → Prop := fun env Q => a env fun x => match x with | .bool c => Q (.bool (!c)) | _ => False
def dIfV (c : Ev → (Bool → Prop) → Prop) (a b : Ev → (D → Prop) → Prop) : Ev → (D → Prop) → Prop := fun env Q => c env fun k => if k = true then a env Q else b env Q
theorem re_and {t u : TE} {a b : Ev → (D → Prop) → Prop} (h1 : RfE K t a) (h2 : RfE K u b) : RfE K (tAndV t u) (dAndV a b) := ⟨fun R q k => h1.run R q fun x v H1 q1 s1 r1 => by
  split at q1
  · rename_i c
    cases r1
    refine ⟨_, rfl, ?_⟩
    cases c with
    | true =>
      rw [if_pos rfl] at q1 ⊢
      exact h2.run (R.step s1) q1 fun d v H2 q2 s2 r2 => k d v H2 q2 (s1.trans s2) r2
    | false =>
      rw [if_neg Bool.false_ne_true] at q1 ⊢
      exact k _ _ _ q1 s1 (.bl _)
  · exact q1.elim⟩
theorem re_or {t u : TE} {a b : Ev → (D → Prop) → Prop} (h1 : RfE K t a) (h2 : RfE K u b) : RfE K (tOrV t u) (dOrV a b) := ⟨fun R q k => h1.run R q fun x v H1 q1 s1 r1 => by
  split at q1
  · rename_i c
    cases r1
    refine ⟨_, rfl, ?_⟩
    cases c with
    | false =>
      rw [if_neg Bool.false_ne_true] at q1 ⊢
      exact h2.run (R.step s1) q1 fun d v H2 q2 s2 r2 => k d v H2 q2 (s1.trans s2) r2
    | true =>
      rw [if_pos rfl] at q1 ⊢
      exact k _ _ _ q1 s1 (.bl _)
  · exact q1.elim⟩
theorem re_not {t : TE} {a : Ev → (D → Prop) → Prop} (h : RfE K t a) : RfE K (tNotV t) (dNotV a) := ⟨fun R q k => h.run R q fun x v H1 q1 s1 r1 => by
  split at q1
  · cases r1
    exact ⟨_, rfl, k _ _ _ q1 s1 (.bl _)⟩
  · exact q1.elim⟩
theorem re_if {c : TT} {t u : TE} {dc : Ev → (Bool → Prop) → Prop} {a b : Ev → (D → Prop) → Prop} (hc : RfT K c dc) (h1 : RfE K t a) (h2 : RfE K u b) : RfE K (tIf c t u) (dIfV dc a b) := ⟨fun R q k => hc.run R q fun c H1 q1 s1 => by
  cases c with
  | true =>
    rw [if_pos rfl] at q1 ⊢
    exact h1.run (R.step s1) q1 fun d v H2 q2 s2 r2 => k d v H2 q2 (s1.trans s2) r2
  | false =>
    rw [if_neg Bool.false_ne_true] at q1 ⊢
    exact h2.run (R.step s1) q1 fun d v H2 q2 s2 r2 => k d v H2 q2 (s1.trans s2) r2⟩
def dChain (op op' : D → D → (D → Prop) → Prop) (a b c : Ev → (D → Prop) → Prop) : Ev → (D → Prop) → Prop := fun env Q => a env fun x => b env fun y => op x y fun z => match z with
  | .bool k => if k = true then c env fun w => op' y w Q else Q (.bool false)
  | _ => False
theorem re_chain {r r' : R2} {op op' : D → D → (D → Prop) → Prop} {ta tb tc : TE} {a b c : Ev → (D → Prop) → Prop} (ho : RfV2 K r op) (ho' : RfV2 K r' op') (ha : RfB K ta a) (hb : RfB K tb b) (hc : RfB K tc c) : RfE K (tChain r r' ta tb tc) (dChain op op' a b c) := ⟨fun {A st ow σ H env Qd Q} R q k =>
  ha.run R q fun x v H1 q1 s1 r1 => hb.run (R.step s1) q1 fun y u H2 q2 s2 r2 => ho.run ((R.step s1).step s2) ((R.step s1).stepB s2 r1) r2 q2 fun z w H3 q3 s3 r3 => by
    have R3 := ((R.step s1).step s2).step s3
    split at q3
    · rename_i k'
      cases r3
      refine ⟨_, rfl, ?_⟩
      cases k' with
      | true =>
        rw [if_pos rfl] at q3 ⊢
        exact hc.run R3 q3 fun y' u' H4 q4 s4 r4 => ho'.run (R3.step s4) (R3.stepB s4 (((R.step s1).step s2).stepB s3 r2)) r4 q4 fun d v H5 q5 s5 r5 => k d v H5 q5 (s1.trans (s2.trans (s3.trans (s4.trans s5)))) r5
      | false =>
        rw [if_neg Bool.false_ne_true] at q3 ⊢
        exact k _ _ _ q3 (s1.trans (s2.trans s3)) (.bl _)
    · exact q3.elim⟩
/-! arguments -/
structure RfN (K : PySem.W.Frag) (n : Nat) (t : TA) (da : Ev → (List D → Prop) → Prop) : Prop where
  run : ∀ {A : Addr → Prop} {st : Option (Addr × Addr)} {ow : Nat → Option Addr} {σ : L2.St} {H : Hp} {env : Ev} {Qd : List D → Prop} {Q : List V → Hp → Prop},
  RE K A st ow σ H env → da env Qd → (∀ ds vs H', Qd ds → ds.length = n → Stp st H H' → RepL K H' (Mo A ow) ds vs → Q vs H') → t σ H Q
def dNil : Ev → (List D → Prop) → Prop := fun _ Q => Q []
def dCons (de : Ev → (D → Prop) → Prop) (da : Ev → (List D → Prop) → Prop) : Ev → (List D → Prop) → Prop := fun env Q => de env fun x => da env fun xs => Q (x :: xs)
theorem raN : RfN K 0 tNil dNil := ⟨fun R q k => k _ _ _ q rfl (stp_refl R) .nil⟩
theorem raC {n : Nat} {te : TE} {ta : TA} {de : Ev → (D → Prop) → Prop} {da : Ev → (List D → Prop) → Prop} (h : RfE K te de) (hs : RfN K n ta da) : RfN K (n + 1) (tCons te ta) (dCons de da) := ⟨fun R q k =>
  h.run R q fun d v H1 q1 s1 r1 => hs.run (R.step s1) q1 fun ds vs H2 q2 e2 s2 r2 => k (d :: ds) (v :: vs) H2 q2 (congrArg (· + 1) e2) (s1.trans s2) (.cons (Rep.to ((R.step s1).toS s2) r1) r2)⟩
theorem rbN : RfAB K tNil dNil := ⟨fun R q k => k _ _ _ q (stp_refl R) .nil⟩
theorem rbC {te : TE} {ta : TA} {de : Ev → (D → Prop) → Prop} {da : Ev → (List D → Prop) → Prop} (h : RfB K te de) (hs : RfAB K ta da) : RfAB K (tCons te ta) (dCons de da) := ⟨fun R q k =>
  h.run R q fun d v H1 q1 s1 r1 => hs.run (R.step s1) q1 fun ds vs H2 q2 s2 r2 => k (d :: ds) (v :: vs) H2 q2 (s1.trans s2) (.cons ((R.step s1).stepB s2 r1) r2)⟩
theorem Stp.none {st : Option (Addr × Addr)} {H H' : Hp} (s : Stp st H H') {p : Addr} (n : H' p = none) : H p = none := by
  cases e : H p with
  | none => rfl
  | some o =>
    by_cases hx : p ∈ exs st
    · exact absurd n (s.l.ne p hx)
    · rw [s.k p o e hx] at n; cases n
/-! new things -/
/-- a new list -/
structure RfF (K : PySem.W.Frag) (t : TE) (df : Ev → (List D → Prop) → Prop) : Prop where
  run : ∀ {A : Addr → Prop} {st : Option (Addr × Addr)} {ow : Nat → Option Addr} {σ : L2.St} {H : Hp} {env : Ev} {Qd : List D → Prop} {Q : VK},
  RE K A st ow σ H env → df env Qd → (∀ ds a vs H', Qd ds → Stp st H H' → H a = none → H' a = some (.lst vs) → RepL K H' (fun b => Mo A ow b ∨ b = a) ds vs → Q (.ref a) H') → t σ H Q
def dL (df : Ev → (List D → Prop) → Prop) : Ev → (D → Prop) → Prop := fun env Q => df env fun ds => Q (.list ds)
theorem RE.fr0 {A : Addr → Prop} {st : Option (Addr × Addr)} {ow : Nat → Option Addr} {σ : L2.St} {H : Hp} {env : Ev} (R : RE K A st ow σ H env) {a : Addr} (n : H a = none) : ¬ Mo A ow a := R.newM n
theorem RfF.e {t : TE} {df : Ev → (List D → Prop) → Prop} (h : RfF K t df) : RfE K t (dL df) := ⟨fun R q k => h.run R q fun ds a vs H' q' s n e r => k _ _ _ q' s (.lst e (R.newM n) (RepL.to ⟨fun b o x y => ⟨x, fun z => y (.inl z)⟩⟩ r))⟩
def dTup (da : Ev → (List D → Prop) → Prop) : Ev → (D → Prop) → Prop := fun env Q => da env fun xs => Q (.tuple xs)
theorem len_small {n m : Nat} (e : m = n) (h : n ≤ 1000) : m ≤ sizeLine := Nat.le_trans (e ▸ h) (by decide)
theorem re_tup {n : Nat} {t : TA} {da : Ev → (List D → Prop) → Prop} (h : RfN K n t da) (hn : n ≤ 1000 := by decide) : RfE K (tTup t) (dTup da) := ⟨fun R q k => h.run R q fun ds vs H1 q1 e1 s1 r1 =>
  ⟨len_small (r1.len.symm.trans e1) hn, fun p np => k _ _ _ q1 (s1.trans ((R.step s1).new np)) ((R.step s1).mkT np r1)⟩⟩
theorem rf_lst {n : Nat} {t : TA} {da : Ev → (List D → Prop) → Prop} (h : RfN K n t da) (hn : n ≤ 1000 := by decide) : RfF K (tLst t) da := ⟨fun R q k => h.run R q fun ds vs H1 q1 e1 s1 r1 =>
  ⟨len_small (r1.len.symm.trans e1) hn, fun p np => k _ _ _ _ q1 (s1.trans ((R.step s1).new np)) (s1.none np) upd_same (RepL.to (new_to np fun a z => z) r1)⟩⟩
/-! calls of built-in functions -/
def dCB (op : List D → (D → Prop) → Prop) (da : Ev → (List D → Prop) → Prop) : Ev → (D → Prop) → Prop := fun env Q => da env fun xs => op xs Q
theorem re_cb {r : List V → Hp → VK → Prop} {op : List D → (D → Prop) → Prop} {t : TA} {da : Ev → (List D → Prop) → Prop} (ho : RfVL K r op) (ha : RfAB K t da) : RfE K (tCB r t) (dCB op da) := ⟨fun R q k =>
  ha.run R q fun ds vs H1 q1 s1 r1 => ho.run (R.step s1) r1 q1 fun d v H2 q2 s2 r2 => k d v H2 q2 (s1.trans s2) r2⟩
def oAbs : List D → (D → Prop) → Prop := fun xs Q => match xs with | [.int i] => Q (.int (if i < 0 then -i else i)) | _ => False
theorem RepB.int {H : Hp} {A M : Addr → Prop} {i : Int} {v : V} (h : RepB K H A M (.int i) v) : v = .int i := by cases h with | r h => cases h; rfl
theorem RepB.bl {H : Hp} {A M : Addr → Prop} {i : Bool} {v : V} (h : RepB K H A M (.bool i) v) : v = .bl i := by cases h with | r h => cases h; rfl
theorem RepB.str {H : Hp} {A M : Addr → Prop} {i : Str} {v : V} (h : RepB K H A M (.str i) v) : v = .str i := by cases h with | r h => cases h; rfl
theorem RepBL.one {H : Hp} {A M : Addr → Prop} {d : D} {vs : List V} (h : RepBL K H A M [d] vs) : ∃ v, vs = [v] ∧ RepB K H A M d v := by
  cases h with | cons h r => cases r; exact ⟨_, rfl, h⟩
theorem RepBL.two {H : Hp} {A M : Addr → Prop} {d e : D} {vs : List V} (h : RepBL K H A M [d, e] vs) : ∃ v u, vs = [v, u] ∧ RepB K H A M d v ∧ RepB K H A M e u := by
  cases h with | cons h r =>
  obtain ⟨u, rfl, z⟩ := r.one
  exact ⟨_, _, rfl, h, z⟩
theorem ro_abs : RfVL K (fun xs H Q => ∃ i, xs = [.int i] ∧ Q (.int (if i < 0 then -i else i)) H) oAbs := ⟨fun R h q k => by
  unfold oAbs at q
  split at q
  · obtain ⟨v, rfl, z⟩ := h.one
    cases z.int
    exact ⟨_, rfl, k _ _ _ q (stp_refl R) (.int _)⟩
  · exact q.elim⟩
def oI2 (g : Int → Int → Int) : List D → (D → Prop) → Prop := fun xs Q => match xs with | [.int i, .int j] => Q (.int (g i j)) | _ => False
theorem ro_min : RfVL K (fun xs H Q => ∃ i j, xs = [.int i, .int j] ∧ Q (.int (if j < i then j else i)) H) (oI2 fun i j => if j < i then j else i) := ⟨fun R h q k => by
  unfold oI2 at q
  split at q
  · obtain ⟨v, u, rfl, z1, z2⟩ := h.two
    cases z1.int; cases z2.int
    exact ⟨_, _, rfl, k _ _ _ q (stp_refl R) (.int _)⟩
  · exact q.elim⟩
theorem ro_max : RfVL K (fun xs H Q => ∃ i j, xs = [.int i, .int j] ∧ Q (.int (if j > i then j else i)) H) (oI2 fun i j => if j > i then j else i) := ⟨fun R h q k => by
  unfold oI2 at q
  split at q
  · obtain ⟨v, u, rfl, z1, z2⟩ := h.two
    cases z1.int; cases z2.int
    exact ⟨_, _, rfl, k _ _ _ q (stp_refl R) (.int _)⟩
  · exact q.elim⟩
def oLen : List D → (D → Prop) → Prop := fun xs Q => match xs with | [d] => (match seqOf d with | some ds => Q (.int ds.length) | none => False) | _ => False
theorem ro_len : RfVL K (fun xs H Q => ∃ p ys, xs = [.ref p] ∧ (SqL K H p ys ∨ SqT K H p ys) ∧ Q (.int ys.length) H) oLen := ⟨fun {A st ow σ H env ds vs Qd Q} R h q k => by
  unfold oLen at q
  split at q
  · split at q
    · rename_i ds e
      obtain ⟨v, rfl, z⟩ := h.one
      obtain ⟨a, xs, rfl, hs, r⟩ := z.seq e
      exact ⟨_, _, rfl, hs, by rw [← r.len]; exact k _ _ _ q (stp_refl R) (.int _)⟩
    · exact q.elim
  · exact q.elim⟩
def oLenS : List D → (D → Prop) → Prop := fun xs Q => match xs with | [.str z] => z.length ≤ sizeLine ∧ Q (.int z.length) | _ => False
theorem ro_lenS : RfVL K (fun xs H Q => ∃ z, xs = [.str z] ∧ z.length ≤ sizeLine ∧ Q (.int z.length) H) oLenS := ⟨fun R h q k => by
  unfold oLenS at q
  split at q
  · obtain ⟨v, rfl, z⟩ := h.one
    cases z.str
    exact ⟨_, rfl, q.1, k _ _ _ q.2 (stp_refl R) (.int _)⟩
  · exact q.elim⟩
def oInt : List D → (D → Prop) → Prop := fun xs Q => match xs with | [.int i] => Q (.int i) | [.bool k] => Q (.int (if k then 1 else 0)) | _ => False
theorem ro_int : RfVL K (fun xs H Q => (∃ i, xs = [.int i] ∧ Q (.int i) H) ∨ ∃ k, xs = [.bl k] ∧ Q (.int (if k then 1 else 0)) H) oInt := ⟨fun R h q k => by
  unfold oInt at q
  split at q
  · obtain ⟨v, rfl, z⟩ := h.one
    cases z.int
    exact .inl ⟨_, rfl, k _ _ _ q (stp_refl R) (.int _)⟩
  · obtain ⟨v, rfl, z⟩ := h.one
    cases z.bl
    exact .inr ⟨_, rfl, k _ _ _ q (stp_refl R) (.int _)⟩
  · exact q.elim⟩
def intsOf : List D → Option (List Int)
  | [] => some []
  | .int i :: r => (intsOf r).map (i :: ·)
  | _ :: _ => none
def boolsOf : List D → Option (List Bool)
  | [] => some []
  | .bool i :: r => (boolsOf r).map (i :: ·)
  | _ :: _ => none
theorem ints_V {H : Hp} {M : Addr → Prop} : ∀ {ds : List D} {vs : List V} {ns : List Int}, RepL K H M ds vs → intsOf ds = some ns → vs = ns.map V.int
  | [], _, _, .nil, e => by cases e; rfl
  | .int i :: r, _, ns, .cons h t, e => by
    unfold intsOf at e
    cases z : intsOf r with
    | none => rw [z] at e; cases e
    | some ms =>
      rw [z] at e
      cases e
      cases h
      rw [ints_V t z, List.map_cons]
theorem bools_V {H : Hp} {M : Addr → Prop} : ∀ {ds : List D} {vs : List V} {ns : List Bool}, RepL K H M ds vs → boolsOf ds = some ns → vs = ns.map V.bl
  | [], _, _, .nil, e => by cases e; rfl
  | .bool i :: r, _, ns, .cons h t, e => by
    unfold boolsOf at e
    cases z : boolsOf r with
    | none => rw [z] at e; cases e
    | some ms =>
      rw [z] at e
      cases e
      cases h
      rw [bools_V t z, List.map_cons]
def oSum : List D → (D → Prop) → Prop := fun xs Q => match xs with | [.list ds] => (match intsOf ds with | some ns => Q (.int ns.sum) | none => False) | _ => False
theorem ro_sum : RfVL K (rSum K) oSum := ⟨fun R h q k => by
  unfold oSum at q
  split at q
  · split at q
    · rename_i ns e
      obtain ⟨v, rfl, z⟩ := h.one
      obtain ⟨a, xs, rfl, hs, r⟩ := z.lst
      cases ints_V r e
      exact ⟨_, _, rfl, SqL.of hs, k _ _ _ q (stp_refl R) (.int _)⟩
    · exact q.elim
  · exact q.elim⟩
def oBs (g : List Bool → Bool) : List D → (D → Prop) → Prop := fun xs Q => match xs with | [.list ds] => (match boolsOf ds with | some ns => Q (.bool (g ns)) | none => False) | _ => False
theorem ro_all : RfVL K (rAll K) (oBs fun bs => bs.all id) := ⟨fun R h q k => by
  unfold oBs at q
  split at q
  · split at q
    · rename_i ns e
      obtain ⟨v, rfl, z⟩ := h.one
      obtain ⟨a, xs, rfl, hs, r⟩ := z.lst
      cases bools_V r e
      exact ⟨_, _, rfl, SqL.of hs, k _ _ _ q (stp_refl R) (.bl _)⟩
    · exact q.elim
  · exact q.elim⟩
theorem ro_any : RfVL K (rAny K) (oBs fun bs => bs.any id) := ⟨fun R h q k => by
  unfold oBs at q
  split at q
  · split at q
    · rename_i ns e
      obtain ⟨v, rfl, z⟩ := h.one
      obtain ⟨a, xs, rfl, hs, r⟩ := z.lst
      cases bools_V r e
      exact ⟨_, _, rfl, SqL.of hs, k _ _ _ q (stp_refl R) (.bl _)⟩
    · exact q.elim
  · exact q.elim⟩
def oTupOf : List D → (D → Prop) → Prop := fun xs Q => match xs with | [d] => (match seqOf d with | some ds => Q (.tuple ds) | none => False) | _ => False
theorem ro_tupOf : RfVL K (fun xs H Q => ∃ p ys, xs = [.ref p] ∧ ((SqL K H p ys ∧ ∀ l, H l = none → Q (.ref l) (upd H l (.tup ys))) ∨ (SqT K H p ys ∧ Q (.ref p) H))) oTupOf := ⟨fun {A st ow σ H env ds vs Qd Q} R h q k => by
  unfold oTupOf at q
  split at q
  · rename_i d
    split at q
    · rename_i ds e
      obtain ⟨v, rfl, z⟩ := h.one
      cases d with
      | list _ =>
        cases e
        obtain ⟨a, xs, rfl, hs, r⟩ := z.lst
        exact ⟨_, _, rfl, .inl ⟨SqL.of hs, fun p n => k _ _ _ q (R.new n) (R.mkT n r)⟩⟩
      | tuple _ =>
        cases e
        obtain ⟨a, xs, rfl, hs, r⟩ := z.tup
        exact ⟨_, _, rfl, .inr ⟨hs.sq, k _ _ _ q (stp_refl R) (.tup hs r)⟩⟩
      | _ => cases e
    · exact q.elim
  · exact q.elim⟩
def dSeqOf (da : Ev → (D → Prop) → Prop) : Ev → (List D → Prop) → Prop := fun env Q => da env fun d => match seqOf d with | some ds => Q ds | none => False
theorem rf_listOf {ta : TE} {da : Ev → (D → Prop) → Prop} (h : RfB K ta da) : RfF K (tCB (fun xs H Q => ∃ p ys, xs = [.ref p] ∧ (SqL K H p ys ∨ SqT K H p ys) ∧ ∀ l, H l = none → Q (.ref l) (upd H l (.lst ys))) (tCons ta tNil)) (dSeqOf da) := ⟨fun R q k => h.run R q fun d v H1 q1 s1 r1 => by
  split at q1
  · rename_i ds e
    obtain ⟨a, xs, rfl, hs, r⟩ := r1.seq e
    exact ⟨_, _, rfl, hs, fun l n => k _ _ _ _ q1 (s1.trans ((R.step s1).new n)) (s1.none n) upd_same (RepL.to (new_to n fun a z => z) r)⟩
  · exact q1.elim⟩
/-! isinstance -/
def tyN : D → String
  | .none => "NoneType" | .bool _ => "bool" | .int _ => "int" | .str _ => "str" | .list _ => "list" | .tuple _ => "tuple" | .dict _ => "dict"
theorem RepB.ty {H : Hp} {A M : Addr → Prop} {d : D} {v : V} (h : RepB K H A M d v) : TyX K H v (.type (tyN d)) := by
  cases h with
  | r h =>
    cases h with
    | non => exact .base .non
    | bl b => exact .base (.bl b)
    | int b => exact .base (.int b)
    | str b => exact .base (.str b)
    | lst h _ _ => exact .base (.lst h)
    | tup h _ =>
      rcases h with ⟨h | ⟨o, h⟩, _⟩ | ⟨o, its, n, h1, h2, _⟩
      · exact .base (.tup h)
      · exact .fTuple h
      · exact .kTuple h1 h2
    | dct h _ _ => exact .base (.dK h)
  | o h _ _ => exact .base (.lst h)
  | k h _ _ => exact .base (.dK h)
def tys : List String := ["bool", "int", "str", "list", "tuple", "dict"]
def isTy (n : String) : D → Bool
  | .none => false | .bool _ => n == "bool" || n == "int" | .int _ => n == "int" | .str _ => n == "str" | .list _ => n == "list" | .tuple _ => n == "tuple" | .dict _ => n == "dict"
theorem kit_tab : (tys.all fun n => ["NoneType", "bool", "int", "str", "list", "tuple", "dict"].all fun m => kitB m n == some (m == n || (m == "bool" && n == "int"))) = true := by decide +kernel
theorem kit_ty {n : String} (hn : n ∈ tys) (d : D) : PySem.W.kitOne K (.type (tyN d)) (.type n) = some (isTy n d) := by
  have h := kit_tab
  rw [List.all_eq_true] at h
  have h1 := h n hn
  rw [List.all_eq_true] at h1
  have h2 := eq_of_beq (h1 (tyN d) (by cases d <;> simp [tyN]))
  refine (show PySem.W.kitOne K (.type (tyN d)) (.type n) = kitB (tyN d) n from rfl).trans (h2.trans (congrArg some ?_))
  have hn' : n = "bool" ∨ n = "int" ∨ n = "str" ∨ n = "list" ∨ n = "tuple" ∨ n = "dict" := by simpa [tys] using hn
  rcases hn' with rfl | rfl | rfl | rfl | rfl | rfl <;> cases d <;> simp [tyN, isTy]
def dIsi (n : String) (da : Ev → (D → Prop) → Prop) : Ev → (D → Prop) → Prop := fun env Q => da env fun x => Q (.bool (isTy n x))
theorem re_isi {n : String} {ta : TE} {da : Ev → (D → Prop) → Prop} (h : RfB K ta da) (hn : n ∈ tys := by decide) : RfE K (tCB (rIsi K) (tCons ta (tCons (tC (.ty n)) tNil))) (dIsi n da) := ⟨fun R q k => h.run R q fun d v H1 q1 s1 r1 =>
  ⟨_, _, _, _, _, rfl, .ty n, r1.ty, kit_ty hn d, k _ _ _ q1 s1 (.bl _)⟩⟩
/-! slices -/
structure RfO (K : PySem.W.Frag) (t : TO) (dt : Ev → (Option Int → Prop) → Prop) : Prop where
  run : ∀ {A : Addr → Prop} {st : Option (Addr × Addr)} {ow : Nat → Option Addr} {σ : L2.St} {H : Hp} {env : Ev} {Qd : Option Int → Prop} {Q : Option Int → Hp → Prop},
  RE K A st ow σ H env → dt env Qd → (∀ d H', Qd d → Stp st H H' → Q d H') → t σ H Q
def dNoP : Ev → (Option Int → Prop) → Prop := fun _ Q => Q none
def dPart (de : Ev → (D → Prop) → Prop) : Ev → (Option Int → Prop) → Prop := fun env Q => de env fun x => match x with | .int i => Q (some i) | _ => False
theorem rp_no : RfO K tNoPart dNoP := ⟨fun R q k => k _ _ q (stp_refl R)⟩
theorem rp_some {t : TE} {de : Ev → (D → Prop) → Prop} (h : RfE K t de) : RfO K (tPart t) (dPart de) := ⟨fun R q k => h.run R q fun d v H1 q1 s1 r1 => by
  split at q1
  · cases r1
    exact ⟨_, rfl, k _ _ q1 s1⟩
  · exact q1.elim⟩
def dSlT (de : Ev → (D → Prop) → Prop) (dl dh : Ev → (Option Int → Prop) → Prop) : Ev → (D → Prop) → Prop := fun env Q => de env fun x => dl env fun l => dh env fun h => match x with | .tuple ds => Q (.tuple (cutD ds l h)) | _ => False
def dSlL (de : Ev → (D → Prop) → Prop) (dl dh : Ev → (Option Int → Prop) → Prop) : Ev → (List D → Prop) → Prop := fun env Q => de env fun x => dl env fun l => dh env fun h => match x with | .list ds => Q (cutD ds l h) | _ => False
def dSlS (de : Ev → (D → Prop) → Prop) (dl dh : Ev → (Option Int → Prop) → Prop) : Ev → (D → Prop) → Prop := fun env Q => de env fun x => dl env fun l => dh env fun h => match x with | .str z => z.length ≤ sizeLine ∧ Q (.str (cutS z l h)) | _ => False
theorem cut_whole {α : Type} {xs : List α} {lo hi : Option Int} (h : HT.sIx xs.length 0 lo = 0 ∧ HT.sIx xs.length xs.length hi = xs.length) : cutD xs lo hi = xs := by
  unfold cutD
  rw [h.1, h.2, List.drop_zero, Nat.sub_zero, List.take_length]
theorem re_slT {t : TE} {tl th : TO} {de : Ev → (D → Prop) → Prop} {dl dh : Ev → (Option Int → Prop) → Prop} (he : RfB K t de) (hl : RfO K tl dl) (hh : RfO K th dh) : RfE K (tSl (rSlA K) t tl th) (dSlT de dl dh) := ⟨fun R q k =>
  he.run R q fun d v H1 q1 s1 r1 => hl.run (R.step s1) q1 fun l H2 q2 s2 => hh.run ((R.step s1).step s2) q2 fun u H3 q3 s3 => by
    have R3 := ((R.step s1).step s2).step s3
    have s13 := s1.trans (s2.trans s3)
    split at q3
    · have r3 := ((R.step s1).step s2).stepB s3 ((R.step s1).stepB s2 r1)
      obtain ⟨a, xs, rfl, hs, r⟩ := r3.tup
      refine ⟨a, xs, rfl, hs.sq, fun e => ?_, fun _ p n => k _ _ _ q3 (s13.trans (R3.new n)) (R3.mkT n (cut_rep r))⟩
      rw [← r.len] at e
      rw [cut_whole e] at q3
      exact k _ _ _ q3 s13 (.tup hs r)
    · exact q3.elim⟩
theorem rf_slL {t : TE} {tl th : TO} {de : Ev → (D → Prop) → Prop} {dl dh : Ev → (Option Int → Prop) → Prop} (he : RfB K t de) (hl : RfO K tl dl) (hh : RfO K th dh) : RfF K (tSl (rSlL K) t tl th) (dSlL de dl dh) := ⟨fun R q k =>
  he.run R q fun d v H1 q1 s1 r1 => hl.run (R.step s1) q1 fun l H2 q2 s2 => hh.run ((R.step s1).step s2) q2 fun u H3 q3 s3 => by
    have R3 := ((R.step s1).step s2).step s3
    have s13 := s1.trans (s2.trans s3)
    split at q3
    · have r3 := ((R.step s1).step s2).stepB s3 ((R.step s1).stepB s2 r1)
      obtain ⟨a, xs, rfl, hs, r⟩ := r3.lst
      exact ⟨a, xs, rfl, SqL.of hs, fun p n => k _ _ _ _ q3 (s13.trans (R3.new n)) (s13.none n) upd_same (RepL.to (new_to n fun a z => z) (cut_rep r))⟩
    · exact q3.elim⟩
theorem re_slS {t : TE} {tl th : TO} {de : Ev → (D → Prop) → Prop} {dl dh : Ev → (Option Int → Prop) → Prop} (he : RfB K t de) (hl : RfO K tl dl) (hh : RfO K th dh) : RfE K (tSl rSlS t tl th) (dSlS de dl dh) := ⟨fun R q k =>
  he.run R q fun d v H1 q1 s1 r1 => hl.run (R.step s1) q1 fun l H2 q2 s2 => hh.run ((R.step s1).step s2) q2 fun u H3 q3 s3 => by
    have s13 := s1.trans (s2.trans s3)
    split at q3
    · cases r1.str
      exact ⟨_, rfl, q3.1, k _ _ _ q3.2 s13 (.str _)⟩
    · exact q3.elim⟩
/-! calls of defs -/
def spD (K : PySem.W.Frag) (f : List D → (D → Prop) → Prop) : Sp := fun vs H Q _ => ∃ (A : Addr → Prop) (ds : List D) (Qd : D → Prop), (∀ a, A a → H a ≠ none) ∧ RepL K H A ds vs ∧ f ds Qd ∧ ∀ d v H', Qd d → Same H H' → Rep K H' A d v → Q v H'
def spS (K : PySem.W.Frag) (f : List D → (D → Prop) → Prop) : Sp := fun vs H Q _ => ∃ (A : Addr → Prop) (q : Addr × Addr) (ds : List D) (ws : List V) (Qd : D → Prop), vs = .ref q.1 :: ws ∧ LS H q.1 q.2 ∧ A q.1 ∧ A q.2 ∧ (∀ a, A a → H a ≠ none) ∧ RepL K H A ds ws ∧ f ds Qd ∧
  ∀ d v H', Qd d → Stp (some q) H H' → Rep K H' A d v → Q v H'
def dCall (f : List D → (D → Prop) → Prop) (da : Ev → (List D → Prop) → Prop) : Ev → (D → Prop) → Prop := fun env Q => da env fun xs => f xs Q
def dCallS (i : Nat) (f : List D → (D → Prop) → Prop) (da : Ev → (List D → Prop) → Prop) : Ev → (D → Prop) → Prop := fun env Q => match eget env i with | some .st => da env fun xs => f xs Q | _ => False
theorem re_call {n : Nat} {f : List D → (D → Prop) → Prop} {E : XK} {t : TA} {da : Ev → (List D → Prop) → Prop} (h : RfN K n t da) : RfE K (tCall (spD K f) [] E t) (dCall f da) := ⟨fun R q k => h.run R q fun ds vs H1 q1 e1 s1 r1 => by
  have R1 := R.step s1
  exact ⟨_, ds, _, fun a => R1.alM, by rw [List.append_nil]; exact r1, q1, fun d v H2 q2 s2 r2 => k d v H2 q2 (s1.trans (.same s1.l s2)) r2⟩⟩
theorem re_callS {n i : Nat} {f : List D → (D → Prop) → Prop} {E : XK} {t : TA} {da : Ev → (List D → Prop) → Prop} (h : RfN K n t da) : RfE K (tCall (spS K f) [] E (tCons (tVar i) t)) (dCallS i f da) := ⟨fun R q k => by
  unfold dCallS at q
  split at q
  · rename_i e
    obtain ⟨v, hv, z, e1, rfl⟩ := R.sl i _ (eget_some e)
    refine ⟨_, hv, h.run R q fun ds vs H1 q1 _ s1 r1 => ?_⟩
    have R1 := R.step s1
    refine ⟨Mo _ _, z, ds, vs, _, by rw [List.append_nil], s1.l z e1, .inl (R.sta z e1).1, .inl (R.sta z e1).2, fun a => R1.alM, r1, q1, fun d v H2 q2 s2 r2 => ?_⟩
    subst e1
    exact k d v H2 q2 (s1.trans s2) r2
  · exact q.elim⟩
end
section
variable {K : PySem.W.Frag}
/-! what a for walks -/
def ItOk (K : PySem.W.Frag) (J : It) (ds : List D) (M0 : Addr → Prop) (H0 : Hp) : Prop := ∀ (M : Addr → Prop) (H : Hp), To H0 H M0 M → (∀ a, M a → H a ≠ none) → ∀ i,
  (i = ds.length → J.stop i H) ∧ ∀ d, ds[i]? = some d → J.go i H ∧ ∀ x H', J.yld i H x H' → Same H H' ∧ Rep K H' M d x
theorem ItOk.mono {J : It} {ds : List D} {M0 M1 : Addr → Prop} {H0 H1 : Hp} (h : ItOk K J ds M0 H0) (t : To H0 H1 M0 M1) : ItOk K J ds M1 H1 := fun M H t2 a i => h M H (t.trans t2) a i
structure RfI (K : PySem.W.Frag) (t : TI) (di : Ev → (List D → Prop) → Prop) : Prop where
  run : ∀ {A : Addr → Prop} {st : Option (Addr × Addr)} {ow : Nat → Option Addr} {σ : L2.St} {H : Hp} {env : Ev} {Qd : List D → Prop} {R : It → Hp → Prop},
  RE K A st ow σ H env → di env Qd → (∀ ds J H', Qd ds → Stp st H H' → ItOk K J ds (Mo A ow) H' → R J H') → t σ H R
theorem Same.refl' (H : Hp) : Same H H := fun _ _ h => h
theorem RepL.get2 {H : Hp} {M : Addr → Prop} {ds : List D} {vs : List V} (r : RepL K H M ds vs) {i : Nat} {d : D} {v : V} (e : ds[i]? = some d) (e2 : vs[i]? = some v) : Rep K H M d v := by
  obtain ⟨u, h1, h2⟩ := r.get e
  rw [e2] at h1
  cases h1
  exact h2
theorem itl_ok {a : Addr} {xs : List V} {ds : List D} {M : Addr → Prop} {H : Hp} (h : H a = some (.lst xs)) (n : ¬ M a) (r : RepL K H M ds xs) : ItOk K (Itl K a) ds M H := fun M' H' t _ i => by
  have h' := (t.h _ _ h n).1
  refine ⟨fun l => ⟨xs, SqL.of h', by rw [← r.len]; omega⟩, fun d e => ?_⟩
  obtain ⟨v, ev, rv⟩ := r.get e
  exact ⟨⟨xs, v, SqL.of h', ev⟩, fun x H2 ⟨e2, y⟩ => by
    subst e2
    have := y xs (SqL.of h')
    rw [ev] at this
    cases this
    exact ⟨Same.refl' _, Rep.to t rv⟩⟩
theorem itt_ok {a : Addr} {xs : List V} {ds : List D} {M : Addr → Prop} {H : Hp} (h : TupAt K H M a xs) (r : RepL K H M ds xs) : ItOk K (Itt K a) ds M H := fun M' H' t _ i => by
  have h' : SqT K H' a xs := by
    rcases h with ⟨h | ⟨o, h⟩, n⟩ | h
    · exact .inl (.inl (t.h _ _ h n).1)
    · exact .inl (.inr ⟨o, (t.h _ _ h n).1⟩)
    · exact .inr h
  refine ⟨fun l => ⟨xs, h', by rw [← r.len]; omega⟩, fun d e => ?_⟩
  obtain ⟨v, ev, rv⟩ := r.get e
  exact ⟨⟨xs, v, h', ev⟩, fun x H2 ⟨e2, y⟩ => by
    subst e2
    have := y xs h'
    rw [ev] at this
    cases this
    exact ⟨Same.refl' _, Rep.to t rv⟩⟩
def rng (lo : Int) (n : Nat) : List D := (List.range n).map fun i => PyData.int (lo + (i : Nat))
theorem itr_ok {lo : Int} {n : Nat} {M : Addr → Prop} {H : Hp} : ItOk K (Itr lo n) (rng lo n) M H := fun M' H' t _ i => by
  refine ⟨fun l => by unfold rng at l; rw [List.length_map, List.length_range] at l; show n ≤ i; omega, fun d e => ?_⟩
  have hi : i < n := by
    have := (List.getElem?_eq_some_iff.mp e).1
    unfold rng at this
    rw [List.length_map, List.length_range] at this
    exact this
  unfold rng at e
  rw [List.getElem?_map, List.getElem?_range hi] at e
  cases e
  exact ⟨hi, fun x H2 ⟨e2, y⟩ => by
    subst e2 y
    exact ⟨Same.refl' _, .int _⟩⟩
def dItL (de : Ev → (D → Prop) → Prop) : Ev → (List D → Prop) → Prop := fun env Q => de env fun x => match x with | .list ds => Q ds | _ => False
def dItT (de : Ev → (D → Prop) → Prop) : Ev → (List D → Prop) → Prop := fun env Q => de env fun x => match x with | .tuple ds => Q ds | _ => False
theorem ri_list {t : TE} {de : Ev → (D → Prop) → Prop} (h : RfE K t de) : RfI K (iList K t) (dItL de) := ⟨fun R q k => h.run R q fun d v H1 q1 s1 r1 => by
  split at q1
  · cases r1 with | lst h0 n r => exact ⟨_, rfl, ⟨_, SqL.of h0⟩, k _ _ _ q1 s1 (itl_ok h0 n r)⟩
  · exact q1.elim⟩
theorem ri_tup {t : TE} {de : Ev → (D → Prop) → Prop} (h : RfE K t de) : RfI K (iTup K t) (dItT de) := ⟨fun R q k => h.run R q fun d v H1 q1 s1 r1 => by
  split at q1
  · cases r1 with | tup h0 r => exact ⟨_, rfl, ⟨_, h0.sq⟩, k _ _ _ q1 s1 (itt_ok h0 r)⟩
  · exact q1.elim⟩
def dR1 (da : Ev → (List D → Prop) → Prop) : Ev → (List D → Prop) → Prop := fun env Q => da env fun xs => match xs with | [.int j] => -(2 ^ 62) ≤ j ∧ j < 2 ^ 62 ∧ Q (rng 0 j.toNat) | _ => False
def dR2 (da : Ev → (List D → Prop) → Prop) : Ev → (List D → Prop) → Prop := fun env Q => da env fun xs => match xs with | [.int i, .int j] => (-(2 ^ 62) ≤ i ∧ i < 2 ^ 62 ∧ -(2 ^ 62) ≤ j ∧ j < 2 ^ 62) ∧ Q (rng i (j - i).toNat) | _ => False
theorem ri_r1 {t : TA} {da : Ev → (List D → Prop) → Prop} (h : RfAB K t da) : RfI K (iRng1 t) (dR1 da) := ⟨fun R q k => h.run R q fun ds vs H1 q1 s1 r1 => by
  split at q1
  · obtain ⟨v, rfl, z⟩ := r1.one
    cases z.int
    exact ⟨_, rfl, q1.1, q1.2.1, k _ _ _ q1.2.2 s1 itr_ok⟩
  · exact q1.elim⟩
theorem ri_r2 {t : TA} {da : Ev → (List D → Prop) → Prop} (h : RfAB K t da) : RfI K (iRng2 t) (dR2 da) := ⟨fun R q k => h.run R q fun ds vs H1 q1 s1 r1 => by
  split at q1
  · obtain ⟨v, u, rfl, z1, z2⟩ := r1.two
    cases z1.int; cases z2.int
    exact ⟨_, _, rfl, q1.1, k _ _ _ q1.2 s1 itr_ok⟩
  · exact q1.elim⟩
def chars (z : Str) : List D := z.cps.toList.map fun c => PyData.str ⟨#[c]⟩
def dItS (de : Ev → (D → Prop) → Prop) : Ev → (List D → Prop) → Prop := fun env Q => de env fun x => match x with | .str z => Q (chars z) | _ => False
theorem its_ok {z : Str} {M : Addr → Prop} {H : Hp} : ItOk K (Its z) (chars z) M H := fun M' H' t _ i => by
  refine ⟨fun l => by unfold chars at l; rw [List.length_map] at l; show z.cps.size ≤ i; rw [← Array.length_toList]; omega, fun d e => ?_⟩
  unfold chars at e
  rw [List.getElem?_map] at e
  cases g : z.cps.toList[i]? with
  | none => rw [g] at e; cases e
  | some c =>
    rw [g] at e
    cases e
    have hi := (List.getElem?_eq_some_iff.mp g).1
    refine ⟨by simpa [Its] using hi, fun x H2 ⟨e2, c2, y1, y2⟩ => ?_⟩
    subst e2 y2
    rw [Array.getElem?_toList] at g
    rw [g] at y1
    cases y1
    exact ⟨Same.refl' _, .str _⟩
theorem ri_str {t : TE} {de : Ev → (D → Prop) → Prop} (h : RfE K t de) : RfI K (iStr t) (dItS de) := ⟨fun R q k => h.run R q fun d v H1 q1 s1 r1 => by
  split at q1
  · cases r1
    exact ⟨_, rfl, k _ _ _ q1 s1 its_ok⟩
  · exact q1.elim⟩
def zipD : List D → List D → List D
  | a :: r, b :: s => .tuple [a, b] :: zipD r s
  | _, _ => []
theorem zipD_get : ∀ {as bs : List D} {i : Nat} {d : D}, (zipD as bs)[i]? = some d → ∃ a b, as[i]? = some a ∧ bs[i]? = some b ∧ d = .tuple [a, b]
  | a :: r, b :: s, 0, d, e => by
    unfold zipD at e
    rw [List.getElem?_cons_zero] at e
    cases e
    exact ⟨a, b, rfl, rfl, rfl⟩
  | a :: r, b :: s, i + 1, d, e => by
    unfold zipD at e
    rw [List.getElem?_cons_succ] at e
    rw [List.getElem?_cons_succ, List.getElem?_cons_succ]
    exact zipD_get e
  | [], _, i, d, e => by simp [zipD] at e
  | _ :: _, [], i, d, e => by simp [zipD] at e
theorem zipD_len : ∀ {as bs : List D}, (zipD as bs).length = min as.length bs.length
  | a :: r, b :: s => by
    unfold zipD
    rw [List.length_cons, List.length_cons, List.length_cons, zipD_len]
    omega
  | [], _ => by simp [zipD]
  | _ :: _, [] => by simp [zipD]
theorem TupAt.to {H H' : Hp} {M M' : Addr → Prop} {a : Addr} {xs : List V} (t : To H H' M M') (h : TupAt K H M a xs) : TupAt K H' M' a xs := by
  rcases h with ⟨h | ⟨o, h⟩, n⟩ | h
  · exact .inl ⟨.inl (t.h _ _ h n).1, (t.h _ _ h n).2⟩
  · exact .inl ⟨.inr ⟨o, (t.h _ _ h n).1⟩, (t.h _ _ h n).2⟩
  · exact .inr h
theorem pair_rep {H : Hp} {M : Addr → Prop} {T : Addr} {d e : D} {x y : V} (n : H T = none) (al : ∀ a, M a → H a ≠ none) (h1 : Rep K H M d x) (h2 : Rep K H M e y) : Rep K (upd H T (.tup [x, y])) M (.tuple [d, e]) (.ref T) :=   .tup (.inl ⟨.inl upd_same, fun z => al T z n⟩) (.cons (Rep.to (to_same (same_upd n)) h1) (.cons (Rep.to (to_same (same_upd n)) h2) .nil))
theorem itz_ok {a b : Addr} {xs ys : List V} {ds es : List D} {M : Addr → Prop} {H : Hp} (h : H a = some (.lst xs)) (n : ¬ M a) (r : RepL K H M ds xs) (h2 : H b = some (.lst ys)) (n2 : ¬ M b) (r2 : RepL K H M es ys) : ItOk K (Itz K a b) (zipD ds es) M H := fun M' H' t al i => by
  have g1 := SqL.of (K := K) (t.h _ _ h n).1
  have g2 := SqL.of (K := K) (t.h _ _ h2 n2).1
  refine ⟨fun l => ⟨xs, ys, g1, g2, by rw [zipD_len, r.len, r2.len] at l; omega⟩, fun d e => ?_⟩
  obtain ⟨x, y, e1, e2, rfl⟩ := zipD_get e
  obtain ⟨v, ev, rv⟩ := r.get e1
  obtain ⟨u, eu, ru⟩ := r2.get e2
  refine ⟨⟨xs, ys, v, u, g1, g2, ev, eu⟩, fun x' H2 ⟨T, x1, y1, z1, z2, z3, z4, z5⟩ => ?_⟩
  subst z1 z3
  have w1 := z4 xs g1
  have w2 := z5 ys g2
  rw [ev] at w1; rw [eu] at w2
  cases w1; cases w2
  exact ⟨same_upd z2, pair_rep z2 al (Rep.to t rv) (Rep.to t ru)⟩
theorem itzT_ok {a b : Addr} {xs ys : List V} {ds es : List D} {M : Addr → Prop} {H : Hp} (h : TupAt K H M a xs) (r : RepL K H M ds xs) (h2 : TupAt K H M b ys) (r2 : RepL K H M es ys) : ItOk K (RZ.ItzT K a b) (zipD ds es) M H := fun M' H' t al i => by
  have g1 := (h.to t).sq
  have g2 := (h2.to t).sq
  refine ⟨fun l => ⟨xs, ys, g1, g2, by rw [zipD_len, r.len, r2.len] at l; omega⟩, fun d e => ?_⟩
  obtain ⟨x, y, e1, e2, rfl⟩ := zipD_get e
  obtain ⟨v, ev, rv⟩ := r.get e1
  obtain ⟨u, eu, ru⟩ := r2.get e2
  refine ⟨⟨xs, ys, v, u, g1, g2, ev, eu⟩, fun x' H2 ⟨T, x1, y1, z1, z2, z3, z4, z5⟩ => ?_⟩
  subst z1 z3
  have w1 := z4 xs g1
  have w2 := z5 ys g2
  rw [ev] at w1; rw [eu] at w2
  cases w1; cases w2
  exact ⟨same_upd z2, pair_rep z2 al (Rep.to t rv) (Rep.to t ru)⟩
def dZip (da : Ev → (List D → Prop) → Prop) : Ev → (List D → Prop) → Prop := fun env Q => da env fun xs => match xs with | [.list a, .list b] => Q (zipD a b) | [.tuple a, .tuple b] => Q (zipD a b) | _ => False
theorem ri_zip {n : Nat} {t : TA} {da : Ev → (List D → Prop) → Prop} (h : RfN K n t da) : RfI K (RZ.iZipA K t) (dZip da) := ⟨fun R q k => h.run R q fun ds vs H1 q1 _ s1 r1 => by
  split at q1
  · cases r1 with | cons h1 r1 => cases r1 with | cons h2 r2 =>
    cases r2
    cases h1 with | lst h1 n1 r1 => cases h2 with | lst h2 n2 r2 =>
    exact ⟨_, _, _, _, rfl, .inl ⟨SqL.of h1, SqL.of h2, k _ _ _ q1 s1 (itz_ok h1 n1 r1 h2 n2 r2)⟩⟩
  · cases r1 with | cons h1 r1 => cases r1 with | cons h2 r2 =>
    cases r2
    cases h1 with | tup h1 r1 => cases h2 with | tup h2 r2 =>
    exact ⟨_, _, _, _, rfl, .inr ⟨h1.sq, h2.sq, k _ _ _ q1 s1 (itzT_ok h1 r1 h2 r2)⟩⟩
  · exact q1.elim⟩
def enumD (n : Nat) : List D → List D
  | [] => []
  | a :: r => .tuple [.int (n : Nat), a] :: enumD (n + 1) r
theorem enumD_len : ∀ {as : List D} {n : Nat}, (enumD n as).length = as.length
  | [], _ => rfl
  | a :: r, n => congrArg (· + 1) enumD_len
theorem enumD_get : ∀ {as : List D} {n i : Nat} {d : D}, (enumD n as)[i]? = some d → ∃ a, as[i]? = some a ∧ d = .tuple [.int ((n + i : Nat) : Int), a]
  | [], n, i, d, e => by simp [enumD] at e
  | a :: r, n, 0, d, e => by
    unfold enumD at e
    rw [List.getElem?_cons_zero] at e
    cases e
    exact ⟨a, rfl, rfl⟩
  | a :: r, n, i + 1, d, e => by
    unfold enumD at e
    rw [List.getElem?_cons_succ] at e ⊢
    obtain ⟨x, h1, h2⟩ := enumD_get e
    exact ⟨x, h1, by rw [h2, Nat.add_right_comm, Nat.add_assoc]⟩
theorem ite_ok {a : Addr} {xs : List V} {ds : List D} {M : Addr → Prop} {H : Hp} (h : H a = some (.lst xs)) (n : ¬ M a) (r : RepL K H M ds xs) : ItOk K (Ite K a) (enumD 0 ds) M H := fun M' H' t al i => by
  have g1 := SqL.of (K := K) (t.h _ _ h n).1
  refine ⟨fun l => ⟨xs, g1, by rw [enumD_len, r.len] at l; omega⟩, fun d e => ?_⟩
  obtain ⟨x, e1, rfl⟩ := enumD_get e
  obtain ⟨v, ev, rv⟩ := r.get e1
  refine ⟨⟨xs, v, g1, ev⟩, fun x' H2 ⟨T, x1, z1, z2, z3, z4⟩ => ?_⟩
  subst z1 z3
  have w1 := z4 xs g1
  rw [ev] at w1
  cases w1
  rw [Nat.zero_add]
  exact ⟨same_upd z2, pair_rep z2 al (.int _) (Rep.to t rv)⟩
def dEnum (da : Ev → (List D → Prop) → Prop) : Ev → (List D → Prop) → Prop := fun env Q => da env fun xs => match xs with | [.list a] => Q (enumD 0 a) | _ => False
theorem ri_enum {n : Nat} {t : TA} {da : Ev → (List D → Prop) → Prop} (h : RfN K n t da) : RfI K (iEnum K t) (dEnum da) := ⟨fun R q k => h.run R q fun ds vs H1 q1 _ s1 r1 => by
  split at q1
  · cases r1 with | cons h1 r1 =>
    cases r1
    cases h1 with | lst h1 n1 r1 =>
    exact ⟨_, _, rfl, SqL.of h1, k _ _ _ q1 s1 (ite_ok h1 n1 r1)⟩
  · exact q1.elim⟩
/-! targets -/
structure RfG (K : PySem.W.Frag) (is : List Nat) (g : TG) (dg : D → Ev → (Ev → Prop) → Prop) : Prop where
  run : ∀ {A : Addr → Prop} {st : Option (Addr × Addr)} {ow : Nat → Option Addr} {σ : L2.St} {H : Hp} {env : Ev} {d : D} {v : V} {Qd : Ev → Prop} {Q : L2.St → Hp → Prop},
  RE K A st ow σ H env → Rep K H (Mo A ow) d v → dg d env Qd → (∀ env' ow' σ', Qd env' → RE K A st ow' σ' H env' → (∀ j a, ow' j = some a → ow j = some a) → (∀ js, (∀ i ∈ is, i ∈ js) → wipe σ' js = wipe σ js ∧ ∀ j, j ∉ js → ow' j = ow j) → Q σ' H) → g v σ H Q
structure RfGs (K : PySem.W.Frag) (is : List Nat) (g : TGs) (dg : List D → Ev → (Ev → Prop) → Prop) : Prop where
  run : ∀ {A : Addr → Prop} {st : Option (Addr × Addr)} {ow : Nat → Option Addr} {σ : L2.St} {H : Hp} {env : Ev} {ds : List D} {vs : List V} {Qd : Ev → Prop} {Q : L2.St → Hp → Prop},
  RE K A st ow σ H env → RepL K H (Mo A ow) ds vs → dg ds env Qd → (∀ env' ow' σ', Qd env' → RE K A st ow' σ' H env' → (∀ j a, ow' j = some a → ow j = some a) → (∀ js, (∀ i ∈ is, i ∈ js) → wipe σ' js = wipe σ js ∧ ∀ j, j ∉ js → ow' j = ow j) → Q σ' H) → g vs σ H Q
def eset (env : Ev) (i : Nat) (e : Option En) : Ev := env.set i e
def owDel (ow : Nat → Option Addr) (i : Nat) : Nat → Option Addr := fun j => if j = i then none else ow j
theorem owDel_sub {ow : Nat → Option Addr} {i j : Nat} {a : Addr} (h : owDel ow i j = some a) : ow j = some a ∧ j ≠ i := by
  unfold owDel at h
  split at h
  · cases h
  · exact ⟨h, by assumption⟩
theorem Mo.sub {A : Addr → Prop} {ow ow' : Nat → Option Addr} (h : ∀ j a, ow' j = some a → ow j = some a) {a : Addr} (m : Mo A ow' a) : Mo A ow a := m.imp id fun ⟨i, e⟩ => ⟨i, h i a e⟩
theorem to_less {H : Hp} {M M' : Addr → Prop} (h : ∀ a, M' a → M a) : To H H M M' := ⟨fun b o e n => ⟨e, fun z => n (h b z)⟩⟩
theorem SR.less {A : Addr → Prop} {st : Option (Addr × Addr)} {ow ow' : Nat → Option Addr} {H : Hp} {i : Nat} {e : En} {v : V} (h : ∀ j a, ow' j = some a → ow j = some a) (hi : ow' i = ow i) (r : SR K A st ow H i e v) : SR K A st ow' H i e v := by
  have t : To H H (Mo A ow) (Mo A ow') := to_less fun a => Mo.sub h
  cases e with
  | d x => exact Rep.to t r
  | own ds =>
    obtain ⟨a, vs, h1, h2, h3, h4⟩ := r
    exact ⟨a, vs, hi.trans h1, h2, h3, RepL.to t h4⟩
  | odk ds =>
    obtain ⟨a, vs, h1, h2, h3, h4⟩ := r
    exact ⟨a, vs, hi.trans h1, h2, h3, RepK.to t h4⟩
  | st => exact r
/-- a slot is written -/
theorem RE.put {A : Addr → Prop} {st : Option (Addr × Addr)} {ow : Nat → Option Addr} {σ : L2.St} {H : Hp} {env : Ev} (R : RE K A st ow σ H env) (i : Nat) {d : D} {v : V} (r : Rep K H (Mo A ow) d v) : RE K A st (owDel ow i) (σ.set i (some v)) H (eset env i (some (.d d))) := by
  have sub : ∀ j a, owDel ow i j = some a → ow j = some a := fun j a h => (owDel_sub h).1
  have t : To H H (Mo A ow) (Mo A (owDel ow i)) := to_less fun a => Mo.sub sub
  refine ⟨R.ls, R.dom, R.sta, fun j a h => R.al j a (sub j a h), fun j a h => R.na j a (sub j a h), fun j k a h1 h2 => R.inj j k a (sub j a h1) (sub k a h2), fun j a h => ?_, by unfold eset; rw [List.length_set, List.length_set]; exact R.len, fun j e he => ?_⟩
  · have hj := (owDel_sub h).2
    unfold eset
    rw [List.getElem?_set_ne fun z => hj z.symm]
    exact R.tie j a (sub j a h)
  unfold eset at he
  by_cases hj : i = j
  · subst hj
    have hl : i < env.length := by
      have := (List.getElem?_eq_some_iff.mp he).1
      rwa [List.length_set] at this
    rw [List.getElem?_set_self hl] at he
    cases he
    exact ⟨v, List.getElem?_set_self (by rw [R.len]; exact hl), Rep.to t r⟩
  · rw [List.getElem?_set_ne hj] at he
    obtain ⟨u, hu, s⟩ := R.sl j e he
    exact ⟨u, by rw [List.getElem?_set_ne hj]; exact hu, s.less sub (by unfold owDel; rw [if_neg (fun z => hj z.symm)])⟩
theorem wipe_get {σ : L2.St} : ∀ {vs : List Nat} {j : Nat}, j ∈ vs → j < σ.length → (wipe σ vs)[j]? = some none
  | v :: vs, j, h, hl => by
    unfold wipe
    by_cases e : v = j
    · subst e
      exact List.getElem?_set_self (by rw [wipe_length]; exact hl)
    · rw [List.getElem?_set_ne e]
      exact wipe_get ((List.mem_cons.mp h).resolve_left fun z => e z.symm) hl
theorem wipe_set {σ : L2.St} {i : Nat} {x : Option V} {js : List Nat} (h : i ∈ js) : wipe (σ.set i x) js = wipe σ js := by
  refine List.ext_getElem? fun j => ?_
  by_cases hj : j < σ.length
  · by_cases hm : j ∈ js
    · rw [wipe_get hm (by rw [List.length_set]; exact hj), wipe_get hm hj]
    · rw [wipe_out hm, wipe_out hm, List.getElem?_set_ne fun (z : i = j) => hm (z ▸ h)]
  · rw [List.getElem?_eq_none (by rw [wipe_length, List.length_set]; omega), List.getElem?_eq_none (by rw [wipe_length]; omega)]
def gN (i : Nat) : D → Ev → (Ev → Prop) → Prop := fun d env Q => Q (eset env i (some (.d d)))
theorem rg_name (i : Nat) : RfG K [i] (gName i) (gN i) := ⟨fun R r q k => k _ _ _ q (R.put i r) (fun j a h => (owDel_sub h).1) fun js h => ⟨wipe_set (h i (by simp)), fun j hj => by unfold owDel; rw [if_neg (fun (z : j = i) => hj (z.symm ▸ h i (by simp)))]⟩⟩
def gNi : List D → Ev → (Ev → Prop) → Prop := fun ds env Q => match ds with | [] => Q env | _ => False
def gCo (g : D → Ev → (Ev → Prop) → Prop) (gs : List D → Ev → (Ev → Prop) → Prop) : List D → Ev → (Ev → Prop) → Prop := fun ds env Q => match ds with | d :: r => g d env fun env1 => gs r env1 Q | [] => False
def gT (n : Nat) (gs : List D → Ev → (Ev → Prop) → Prop) : D → Ev → (Ev → Prop) → Prop := fun d env Q => match d with | .tuple ds => ds.length = n ∧ gs ds env Q | _ => False
theorem rg_nil : RfGs K [] gNil gNi := ⟨fun {A st ow σ H env ds vs Qd Q} R r q k => by
  unfold gNi at q
  split at q
  · cases r
    exact ⟨rfl, k _ _ _ q R (fun _ _ h => h) fun _ _ => ⟨rfl, fun _ _ => rfl⟩⟩
  · exact q.elim⟩
theorem rg_cons {is js : List Nat} {t : TG} {u : TGs} {g : D → Ev → (Ev → Prop) → Prop} {gs : List D → Ev → (Ev → Prop) → Prop} (h : RfG K is t g) (hs : RfGs K js u gs) : RfGs K (is ++ js) (gCons t u) (gCo g gs) := ⟨fun {A st ow σ H env ds vs Qd Q} R r q k => by
  unfold gCo at q
  split at q
  · cases r with | cons r1 r2 =>
    refine ⟨_, _, rfl, h.run R r1 q fun env1 ow1 σ1 q1 R1 sub1 w1 => hs.run R1 (RepL.to (to_less fun a => Mo.sub sub1) r2) q1 fun env2 ow2 σ2 q2 R2 sub2 w2 => k env2 ow2 σ2 q2 R2 (fun j a e => sub1 j a (sub2 j a e)) fun ks hk => ?_⟩
    have a2 := w2 ks fun i hi => hk i (List.mem_append_right _ hi)
    have a1 := w1 ks fun i hi => hk i (List.mem_append_left _ hi)
    exact ⟨a2.1.trans a1.1, fun j hj => (a2.2 j hj).trans (a1.2 j hj)⟩
  · exact q.elim⟩
theorem rg_tup {is : List Nat} {n : Nat} {u : TGs} {gs : List D → Ev → (Ev → Prop) → Prop} (h : RfGs K is u gs) : RfG K is (gTup K n u) (gT n gs) := ⟨fun {A st ow σ H env d v Qd Q} R r q k => by
  unfold gT at q
  split at q
  · cases r with | tup r1 r2 =>
    exact ⟨_, _, rfl, r1.sq, by rw [← r2.len]; exact q.1, h.run R r2 q.2 k⟩
  · exact q.elim⟩
/-! comprehensions -/
def wipeE (env : Ev) : List Nat → Ev
  | [] => env
  | v :: vs => eset (wipeE env vs) v none
theorem wipe_idem {σ : L2.St} {js : List Nat} : wipe (wipe σ js) js = wipe σ js := by
  refine List.ext_getElem? fun j => ?_
  by_cases hj : j < σ.length
  · by_cases hm : j ∈ js
    · rw [wipe_get hm (by rw [wipe_length]; exact hj), wipe_get hm hj]
    · rw [wipe_out hm]
  · rw [List.getElem?_eq_none (by rw [wipe_length, wipe_length]; omega), List.getElem?_eq_none (by rw [wipe_length]; omega)]
theorem RE.wipe1 {A : Addr → Prop} {st : Option (Addr × Addr)} {ow : Nat → Option Addr} {σ : L2.St} {H : Hp} {env : Ev} (R : RE K A st ow σ H env) (i : Nat) (hi : ow i = none) : RE K A st ow (σ.set i none) H (eset env i none) := by
  refine ⟨R.ls, R.dom, R.sta, R.al, R.na, R.inj, fun j a h => ?_, by unfold eset; rw [List.length_set, List.length_set]; exact R.len, fun j e he => ?_⟩
  · have hj : i ≠ j := fun z => by subst z; rw [hi] at h; cases h
    unfold eset
    rw [List.getElem?_set_ne hj]
    exact R.tie j a h
  unfold eset at he
  by_cases hj : i = j
  · subst hj
    have hl : i < env.length := by
      have := (List.getElem?_eq_some_iff.mp he).1
      rwa [List.length_set] at this
    rw [List.getElem?_set_self hl] at he
    cases he
  · rw [List.getElem?_set_ne hj] at he
    obtain ⟨u, hu, s⟩ := R.sl j e he
    exact ⟨u, by rw [List.getElem?_set_ne hj]; exact hu, s⟩
theorem RE.wipes {A : Addr → Prop} {st : Option (Addr × Addr)} {ow : Nat → Option Addr} {σ : L2.St} {H : Hp} {env : Ev} (R : RE K A st ow σ H env) : ∀ vs : List Nat, (∀ i ∈ vs, ow i = none) → RE K A st ow (wipe σ vs) H (wipeE env vs)
  | [], _ => R
  | v :: vs, h => (R.wipes vs fun i hi => h i (List.mem_cons_of_mem _ hi)).wipe1 v (h v List.mem_cons_self)
theorem RE.noOwn {A : Addr → Prop} {st : Option (Addr × Addr)} {ow : Nat → Option Addr} {σ : L2.St} {H : Hp} {env : Ev} (R : RE K A st ow σ H env) {vs : List Nat} (h : noOwn vs env = true) : ∀ i ∈ vs, ow i = none := fun i hi => by
  cases e : ow i with
  | none => rfl
  | some a =>
    unfold Toy.noOwn at h
    rw [List.all_eq_true] at h
    have h1 := h i hi
    unfold isOwn at h1
    rcases R.tie i a e with ⟨ds, z⟩ | ⟨ds, z⟩
    · rw [some_eget z] at h1; cases h1
    · rw [some_eget z] at h1; cases h1
def lcD (g : D → Ev → (Ev → Prop) → Prop) (c : Ev → (Bool → Prop) → Prop) (e : Ev → (D → Prop) → Prop) : List D → Ev → (List D → Prop) → Prop
  | [], _, Q => Q []
  | d :: r, env, Q => g d env fun env1 => c env1 fun b => if b = true then e env1 fun x => lcD g c e r env fun xs => Q (x :: xs) else lcD g c e r env Q
/-- at most 100000 turns, said ahead -/
def dLc (vs : List Nat) (di : Ev → (List D → Prop) → Prop) (g : D → Ev → (Ev → Prop) → Prop) (c : Ev → (Bool → Prop) → Prop) (e : Ev → (D → Prop) → Prop) : Ev → (List D → Prop) → Prop :=
  fun env Q => noOwn vs env = true ∧ di env fun ds => ds.length ≤ 100000 ∧ lcD g c e ds (wipeE env vs) Q
theorem drop_get {α : Type} {xs : List α} {i : Nat} {x : α} (h : xs[i]? = some x) : xs.drop i = x :: xs.drop (i + 1) := by
  obtain ⟨h1, h2⟩ := List.getElem?_eq_some_iff.mp h
  rw [← h2]
  exact List.drop_eq_getElem_cons h1
theorem rf_lc {vs is : List Nat} {wi : TI} {tg : TG} {tt : TT} {te : TE} {di : Ev → (List D → Prop) → Prop} {g : D → Ev → (Ev → Prop) → Prop} {c : Ev → (Bool → Prop) → Prop} {e : Ev → (D → Prop) → Prop}
    (hi : RfI K wi di) (hg : RfG K is tg g) (hc : RfT K tt c) (he : RfE K te e) (his : ∀ i ∈ is, i ∈ vs := by decide) : RfF K (tLc wi tg tt te vs) (dLc vs di g c e) := ⟨fun {A st ow σ H env Qd Q} R q0 k =>
  hi.run R q0.2 fun ds J H1 ⟨hl, q1⟩ s1 J1 L hL => by
    have hno := R.noOwn q0.1
    have R1 := R.step s1
    have nM := R1.newM hL
    let A' : Addr → Prop := fun a => A a ∨ a = L
    have toA : ∀ {H' : Hp}, To H1 (upd H1 L (.lst [])) (Mo A ow) (Mo A' ow) := new_to hL fun a z => by
      rcases z with (z | z) | z
      · exact .inl (.inl z)
      · exact .inr z
      · exact .inl (.inr z)
    have bk : ∀ a, Mo A' ow a → Mo A ow a ∨ a = L := fun a z => by
      rcases z with (z | z) | z
      · exact .inl (.inl z)
      · exact .inr z
      · exact .inl (.inr z)
    have fw : ∀ a, Mo A ow a → Mo A' ow a := fun a z => z.elim (fun z => .inl (.inl z)) .inr
    have fwL : Mo A' ow L := .inl (.inr rfl)
    -- the turns
    refine ⟨fun i m H' => m = ds.length - i ∧ i ≤ ds.length ∧ ∃ acc xs, H' L = some (.lst xs) ∧ xs.length ≤ i ∧ RepL K H' (Mo A' ow) acc xs ∧ RE K A' st ow (wipe σ vs) H' (wipeE env vs) ∧ Keep (exs st) H H' ∧ To H1 H' (Mo A ow) (Mo A' ow) ∧ LSo st H' ∧
      lcD g c e (ds.drop i) (wipeE env vs) (fun r => Qd (acc ++ r)), ⟨_, rfl, Nat.zero_le _, [], [], upd_same, Nat.zero_le _, .nil, ?_, ?_, toA (H' := H1), ?_, ?_⟩, ?_⟩
    · have RR := (R1.wipes vs hno)
      have S1 : Stp st H1 (upd H1 L (.lst [])) := R1.new hL
      have RS := RR.step S1
      refine ⟨RS.ls, fun a z => ?_, fun z e => ⟨.inl (RS.sta z e).1, .inl (RS.sta z e).2⟩, RS.al, fun j a e z => ?_, RS.inj, RS.tie, RS.len, fun j e' he' => ?_⟩
      · rcases z with z | rfl
        · exact RS.dom a z
        · rw [upd_same]; intro z; cases z
      · rcases z with z | rfl
        · exact RS.na j a e z
        · exact R1.al j _ e hL
      · obtain ⟨v, hv, r⟩ := RR.sl j e' he'
        refine ⟨v, hv, ?_⟩
        have t : To H1 (upd H1 L (.lst [])) (Mo A ow) (Mo A' ow) := toA (H' := H1)
        cases e' with
        | d x => exact Rep.to t r
        | own ds =>
          obtain ⟨a, vs, h1, h2, h3, h4⟩ := r
          exact ⟨a, vs, h1, h2, same_upd hL _ _ h3, RepL.to t h4⟩
        | odk ds =>
          obtain ⟨a, vs, h1, h2, h3, h4⟩ := r
          exact ⟨a, vs, h1, h2, same_upd hL _ _ h3, RepK.to t h4⟩
        | st => exact r
    · exact s1.k.trans fun b o z n => same_upd hL b o z
    · exact s1.l.same (same_upd hL)
    · exact q1
    · rintro i m H' ⟨rfl, hi, acc, xs, hx, hxl, rx, RR, kk, tt', ll, qq⟩
      have al : ∀ a, Mo A' ow a → H' a ≠ none := fun a z => RR.alM z
      by_cases hlt : i < ds.length
      · have eD : ds[i]? = some ds[i] := List.getElem?_eq_getElem hlt
        rw [drop_get eD] at qq
        obtain ⟨go, yl⟩ := (J1 (Mo A' ow) H' tt' al i).2 _ eD
        refine .inr ⟨go, fun H2 => ∃ acc xs, H2 L = some (.lst xs) ∧ xs.length ≤ i + 1 ∧ RepL K H2 (Mo A' ow) acc xs ∧ RE K A' st ow (wipe σ vs) H2 (wipeE env vs) ∧ Keep (exs st) H H2 ∧ To H1 H2 (Mo A ow) (Mo A' ow) ∧ LSo st H2 ∧
          lcD g c e (ds.drop (i + 1)) (wipeE env vs) (fun r => Qd (acc ++ r)), fun H2 z => ⟨_, by omega, rfl, hlt, z⟩, fun x H2 y => ?_⟩
        obtain ⟨sm, rx1⟩ := yl x H2 y
        have S2 : Stp st H' H2 := .same ll sm
        have RR2 := RR.step S2
        refine hg.run RR2 rx1 qq fun env3 ow3 σ3 q3 R3 sub3 w3 => ⟨(w3 vs his).1.trans wipe_idem, ?_⟩
        have eo : ow = ow3 := funext fun j => by
          by_cases hj : j ∈ vs
          · cases e : ow3 j with
            | none => exact hno j hj
            | some a => exact sub3 j a e
          · exact ((w3 vs his).2 j hj).symm
        subst eo
        refine hc.run R3 q3 fun b H4 q4 s4 => ?_
        have R4 := R3.step s4
        have L4 : H4 L = some (.lst xs) := s4.k L _ (sm L _ hx) fun z => by
          obtain ⟨z1, e1, z2⟩ := exs_mem z
          have w := RR.sta z1 e1
          obtain ⟨kk', ns, l1, l2, l3⟩ := R1.ls z1 e1
          rcases z2 with z2 | z2
          · rw [z2, l1] at hL; cases hL
          · rw [z2, l2] at hL; cases hL
        have exL : ∀ a ∈ exs st, a ≠ L := fun a z e' => by
          subst e'
          exact R1.ls.ne _ z hL
        have S4 : Stp st H' H4 := ⟨S2.k.trans s4.k, s4.l⟩
        have RR4 := RR.step S4
        have t4 : To H' H4 (Mo A' ow) (Mo A' ow) := RR.toS S4
        have kH4 : Keep (exs st) H H4 := kk.trans S4.k
        have tH4 : To H1 H4 (Mo A ow) (Mo A' ow) := tt'.trans t4
        cases b with
        | false =>
          rw [if_neg Bool.false_ne_true] at q4 ⊢
          exact ⟨acc, xs, L4, Nat.le_succ_of_le hxl, RepL.to t4 rx, RR4, kH4, tH4, s4.l, q4⟩
        | true =>
          rw [if_pos rfl] at q4 ⊢
          refine he.run R4 q4 fun d v H5 q5 s5 r5 => ?_
          have L5 : H5 L = some (.lst xs) := s5.k L _ L4 fun z => exL L z rfl
          have S5 : Stp st H' H5 := ⟨S4.k.trans s5.k, s5.l⟩
          have RR5 := RR.step S5
          have t5 : To H' H5 (Mo A' ow) (Mo A' ow) := RR.toS S5
          have len5 : xs.length < sizeLine := Nat.lt_of_le_of_lt hxl (Nat.lt_of_lt_of_le hlt (Nat.le_trans hl (by decide)))
          have nL5 : ∀ {b : Addr} {o : HO}, H5 b = some o → ¬ Mo A' ow b → b ≠ L := fun _ n z => n (z ▸ fwL)
          have t6 : To H5 (upd H5 L (.lst (xs ++ [v]))) (Mo A' ow) (Mo A' ow) := ⟨fun b o e' n => ⟨by rw [upd_ne (nL5 e' n)]; exact e', n⟩⟩
          have l6 : LSo st (upd H5 L (.lst (xs ++ [v]))) := fun z e' => by
            obtain ⟨kk', ns, l1, l2, l3⟩ := s5.l z e'
            have m1 : z.1 ≠ L := exL _ (by subst e'; simp [exs])
            have m2 : z.2 ≠ L := exL _ (by subst e'; simp [exs])
            exact ⟨kk', ns, by rw [upd_ne m1]; exact l1, by rw [upd_ne m2]; exact l2, l3⟩
          have k6 : Keep [L] H5 (upd H5 L (.lst (xs ++ [v]))) := fun b o e' n => by
            rw [upd_ne (fun z => n (by rw [z]; simp))]
            exact e'
          refine ⟨xs, L5, len5, acc ++ [d], xs ++ [v], upd_same, by rw [List.length_append]; exact Nat.succ_le_succ hxl, RepL.to t6 ((RepL.to t5 rx).snoc r5), ?_, fun b o e' n => ?_, (tt'.trans t5).trans t6, l6, ?_⟩
          · refine RR5.keep (ex := [L]) (fun a ha => .inr (by simpa using ha)) k6 l6 fun a ha => ?_
            have : a = L := by simpa using ha
            subst this
            rw [upd_same]; intro z; cases z
          · rw [upd_ne (fun z => by rw [z, s1.none hL] at e'; cases e')]
            exact S5.k b o (kk b o e' n) n
          · have : (fun r => Qd (acc ++ [d] ++ r)) = fun r => Qd (acc ++ (d :: r)) := funext fun r => by rw [List.append_assoc]; rfl
            rw [this]
            exact q5
      · have e' : i = ds.length := by omega
        subst e'
        rw [List.drop_length] at qq
        refine .inl ⟨(J1 (Mo A' ow) H' tt' al _).1 rfl, ?_⟩
        have q9 : Qd (acc ++ []) := qq
        rw [List.append_nil] at q9
        exact k acc L xs H' q9 ⟨kk, ll⟩ (s1.none hL) hx (RepL.to (to_less fun a z => z.elim (fw a) fun y => y ▸ fwL) rx)⟩
end
/-! statements -/
structure Dd where
  nx : Ev → Prop
  rt : D → Prop
  bk : Ev → Prop := fun _ => False
  ct : Ev → Prop := fun _ => False
structure BE (K : PySem.W.Frag) (A : Addr → Prop) (st : Option (Addr × Addr)) (H0 : Hp) (ow : Nat → Option Addr) (σ : L2.St) (H : Hp) (env : Ev) : Prop where
  r : RE K A st ow σ H env
  kp : Keep (exs st) H0 H
  fr : ∀ i a, ow i = some a → H0 a = none
structure EOk (K : PySem.W.Frag) (A : Addr → Prop) (st : Option (Addr × Addr)) (H0 : Hp) (ow : Nat → Option Addr) (H : Hp) (Ed : Dd) (E : Ends) : Prop where
  nx : ∀ env' ow' σ' H', Ed.nx env' → BE K A st H0 ow' σ' H' env' → To H H' (Mo A ow) (Mo A ow') → E.nx σ' H'
  rt : ∀ d v H', Ed.rt d → Stp st H0 H' → Rep K H' A d v → E.rt v H'
  bk : ∀ env' ow' σ' H', Ed.bk env' → BE K A st H0 ow' σ' H' env' → To H H' (Mo A ow) (Mo A ow') → E.bk σ' H'
  ct : ∀ env' ow' σ' H', Ed.ct env' → BE K A st H0 ow' σ' H' env' → To H H' (Mo A ow) (Mo A ow') → E.ct σ' H'
abbrev DS := Dd → Ev → Prop
structure RfS (K : PySem.W.Frag) (t : TS) (ds : DS) : Prop where
  run : ∀ {A : Addr → Prop} {st : Option (Addr × Addr)} {H0 : Hp} {ow : Nat → Option Addr} {σ : L2.St} {H : Hp} {env : Ev} {Ed : Dd} {E : Ends},
  BE K A st H0 ow σ H env → ds Ed env → EOk K A st H0 ow H Ed E → t E σ H
section
variable {K : PySem.W.Frag}
section
variable {A : Addr → Prop} {st : Option (Addr × Addr)} {H0 H H' : Hp} {ow ow' : Nat → Option Addr} {σ : L2.St} {env : Ev} {Ed : Dd} {E : Ends}
theorem EOk.to (k : EOk K A st H0 ow H Ed E) (t : To H H' (Mo A ow) (Mo A ow')) : EOk K A st H0 ow' H' Ed E :=   ⟨fun env' ow' σ' H' q b t2 => k.nx env' ow' σ' H' q b (t.trans t2), k.rt, fun env' ow' σ' H' q b t2 => k.bk env' ow' σ' H' q b (t.trans t2), fun env' ow' σ' H' q b t2 => k.ct env' ow' σ' H' q b (t.trans t2)⟩
theorem BE.step (B : BE K A st H0 ow σ H env) (s : Stp st H H') : BE K A st H0 ow σ H' env := ⟨B.r.step s, B.kp.trans s.k, B.fr⟩
theorem to_del (H : Hp) (A : Addr → Prop) (ow : Nat → Option Addr) (i : Nat) : To H H (Mo A ow) (Mo A (owDel ow i)) := to_less fun b => Mo.sub fun j a h => (owDel_sub h).1
theorem BE.put (B : BE K A st H0 ow σ H env) (i : Nat) {d : D} {v : V} (r : Rep K H (Mo A ow) d v) : BE K A st H0 (owDel ow i) (σ.set i (some v)) H (eset env i (some (.d d))) :=   ⟨B.r.put i r, B.kp, fun j a h => B.fr j a (owDel_sub h).1⟩
end
def dNext : DS := fun Ed env => Ed.nx env
def dSeq (a b : DS) : DS := fun Ed env => a { Ed with nx := b Ed } env
def dRet (de : Ev → (D → Prop) → Prop) : DS := fun Ed env => de env Ed.rt
def dRetN : DS := fun Ed _ => Ed.rt .none
def dIf (c : Ev → (Bool → Prop) → Prop) (a b : DS) : DS := fun Ed env => c env fun k => if k = true then a Ed env else b Ed env
def dAsg (de : Ev → (D → Prop) → Prop) (g : D → Ev → (Ev → Prop) → Prop) : DS := fun Ed env => de env fun x => g x env Ed.nx
def dDrop (de : Ev → (D → Prop) → Prop) : DS := fun Ed env => de env fun _ => Ed.nx env
def dBreak : DS := fun Ed env => Ed.bk env
def dCont : DS := fun Ed env => Ed.ct env
theorem rs_next : RfS K tNext dNext := ⟨fun B q k => k.nx _ _ _ _ q B (To.refl _ _)⟩
theorem rs_break : RfS K tBreak dBreak := ⟨fun B q k => k.bk _ _ _ _ q B (To.refl _ _)⟩
theorem rs_cont : RfS K tCont dCont := ⟨fun B q k => k.ct _ _ _ _ q B (To.refl _ _)⟩
theorem rs_seq {t u : TS} {a b : DS} (h1 : RfS K t a) (h2 : RfS K u b) : RfS K (tSeq t u) (dSeq a b) := ⟨fun B q k =>
  h1.run B q ⟨fun env' ow' σ' H' q' b' t' => h2.run b' q' (k.to t'), k.rt, k.bk, k.ct⟩⟩
theorem rs_ret {t : TE} {de : Ev → (D → Prop) → Prop} (h : RfE K t de) : RfS K (tRet t) (dRet de) := ⟨fun B q k => h.run B.r q fun d v H' q' s r => k.rt d v H' q' ⟨B.kp.trans s.k, s.l⟩ (Rep.to (to_less fun _ z => .inl z) r)⟩
theorem rs_retN : RfS K tRetN dRetN := ⟨fun B q k => k.rt _ _ _ q ⟨B.kp, B.r.ls⟩ .non⟩
theorem rs_if {c : TT} {t u : TS} {dc : Ev → (Bool → Prop) → Prop} {a b : DS} (hc : RfT K c dc) (h1 : RfS K t a) (h2 : RfS K u b) : RfS K (tIfS c t u) (dIf dc a b) := ⟨fun B q k => hc.run B.r q fun c H1 q1 s1 => by
  have k1 := k.to (B.r.toS s1)
  cases c with
  | true =>
    rw [if_pos rfl] at q1 ⊢
    exact h1.run (B.step s1) q1 k1
  | false =>
    rw [if_neg Bool.false_ne_true] at q1 ⊢
    exact h2.run (B.step s1) q1 k1⟩
theorem rs_drop {t : TE} {de : Ev → (D → Prop) → Prop} (h : RfE K t de) : RfS K (tDrop t) (dDrop de) := ⟨fun B q k => h.run B.r q fun d v H' q' s r => k.nx _ _ _ _ q' (B.step s) (B.r.toS s)⟩
theorem rs_asg {is : List Nat} {t : TE} {g : TG} {de : Ev → (D → Prop) → Prop} {dg : D → Ev → (Ev → Prop) → Prop} (h : RfE K t de) (hg : RfG K is g dg) : RfS K (tAsg t g) (dAsg de dg) := ⟨fun B q k => h.run B.r q fun d v H' q' s r =>
  hg.run (B.r.step s) r q' fun env' ow' σ' q2 R2 sub _ => k.nx _ _ _ _ q2 ⟨R2, (B.step s).kp, fun j a e => B.fr j a (sub j a e)⟩ ((B.r.toS s).trans (to_less fun a => Mo.sub sub))⟩
/-! a slot that owns a list -/
def owPut (ow : Nat → Option Addr) (i : Nat) (a : Addr) : Nat → Option Addr := fun j => if j = i then some a else ow j
theorem owPut_sub {A : Addr → Prop} {ow : Nat → Option Addr} {i : Nat} {L : Addr} {b : Addr} (m : Mo A (owPut ow i L) b) : Mo A ow b ∨ b = L := by
  rcases m with m | ⟨j, m⟩
  · exact .inl (.inl m)
  · unfold owPut at m
    split at m
    · cases m; exact .inr rfl
    · exact .inl (.inr ⟨j, m⟩)
theorem own_to {A : Addr → Prop} {st : Option (Addr × Addr)} {ow : Nat → Option Addr} {σ : L2.St} {H H' : Hp} {env : Ev} (R : RE K A st ow σ H env) (s : Stp st H H') (i : Nat) {L : Addr} (n : H L = none) : To H H' (Mo A ow) (Mo A (owPut ow i L)) :=   ⟨fun b o e m => ⟨((R.toS s).h b o e m).1, fun z => (owPut_sub z).elim m fun y => by rw [y, n] at e; cases e⟩⟩
theorem RE.own {A : Addr → Prop} {st : Option (Addr × Addr)} {ow : Nat → Option Addr} {σ : L2.St} {H H' : Hp} {env : Ev} (R : RE K A st ow σ H env) (s : Stp st H H') (i : Nat) {L : Addr} {o : HO} (n : H L = none) (hL : H' L = some o) {en : En}
    (hen : SR K A st (owPut ow i L) H' i en (.ref L)) (he : (∃ ds, en = .own ds) ∨ ∃ ds, en = .odk ds) (hi : i < env.length) : RE K A st (owPut ow i L) (σ.set i (some (.ref L))) H' (eset env i (some en)) := by
  have R' := R.step s
  have t := own_to R s i n
  refine ⟨R'.ls, R'.dom, R'.sta, fun j a h => ?_, fun j a h => ?_, fun j k a h1 h2 => ?_, fun j a h => ?_, by unfold eset; rw [List.length_set, List.length_set]; exact R.len, fun j e he => ?_⟩
  · unfold owPut at h
    split at h
    · cases h; rw [hL]; intro z; cases z
    · exact R'.al j a h
  · unfold owPut at h
    split at h
    · cases h; exact fun z => R.dom _ z n
    · exact R'.na j a h
  · unfold owPut at h1 h2
    split at h1 <;> split at h2
    · simp_all
    · cases h1; exact absurd n (R.al k _ h2)
    · cases h2; exact absurd n (R.al j _ h1)
    · exact R.inj j k a h1 h2
  · unfold owPut at h
    unfold eset
    split at h
    · rename_i hj
      subst hj
      rw [List.getElem?_set_self hi]
      rcases he with ⟨ds, rfl⟩ | ⟨ds, rfl⟩
      · exact .inl ⟨ds, rfl⟩
      · exact .inr ⟨ds, rfl⟩
    · rename_i hj
      rw [List.getElem?_set_ne fun z => hj z.symm]
      exact R.tie j a h
  · unfold eset at he
    by_cases hj : i = j
    · subst hj
      rw [List.getElem?_set_self hi] at he
      cases he
      exact ⟨_, List.getElem?_set_self (by rw [R.len]; exact hi), hen⟩
    · rw [List.getElem?_set_ne hj] at he
      obtain ⟨u, hu, r⟩ := R.sl j e he
      refine ⟨u, by rw [List.getElem?_set_ne hj]; exact hu, ?_⟩
      have oj : owPut ow i L j = ow j := by unfold owPut; rw [if_neg fun z => hj z.symm]
      cases e with
      | d x => exact Rep.to t r
      | own ds =>
        obtain ⟨a, vs, h1, h2, h3, h4⟩ := r
        exact ⟨a, vs, oj.trans h1, h2, s.k a _ h3 fun z => R.na j a h1 (R.exA a z), RepL.to t h4⟩
      | odk ds =>
        obtain ⟨a, vs, h1, h2, h3, h4⟩ := r
        exact ⟨a, vs, oj.trans h1, h2, s.k a _ h3 fun z => R.na j a h1 (R.exA a z), RepK.to t h4⟩
      | st => exact r
/-- x = a new list -/
def dOwn (i : Nat) (df : Ev → (List D → Prop) → Prop) : DS := fun Ed env => df env fun ds => i < env.length ∧ Ed.nx (eset env i (some (.own ds)))
theorem rs_own (i : Nat) {t : TE} {df : Ev → (List D → Prop) → Prop} (h : RfF K t df) : RfS K (tAsg t (gName i)) (dOwn i df) := ⟨fun {A st H0 ow σ H env Ed E} B q k => h.run B.r q fun ds L vs H' ⟨hi, q'⟩ s n e r => by
  have t := own_to B.r s i n
  refine k.nx _ _ _ _ q' ⟨B.r.own s i n e (en := .own ds) ⟨L, vs, by unfold owPut; rw [if_pos rfl], rfl, e, RepL.to (to_less fun b z => owPut_sub z) r⟩ (.inl ⟨ds, rfl⟩) hi, B.kp.trans s.k, fun j a h => ?_⟩ t
  unfold owPut at h
  split at h
  · cases h
    cases z : H0 L with
    | none => rfl
    | some o =>
      by_cases hx : L ∈ exs st
      · exact absurd n (B.r.ls.ne L hx)
      · rw [B.kp L o z hx] at n; cases n
  · exact B.fr j a h⟩
/-- what a slot owns becomes another thing of its kind -/
theorem BE.mut {A : Addr → Prop} {st : Option (Addr × Addr)} {H0 H : Hp} {ow : Nat → Option Addr} {σ : L2.St} {env : Ev} (B : BE K A st H0 ow σ H env) (i : Nat) {L : Addr} {o o' : HO} (hi : ow i = some L) (hL : H L = some o) (hs : σ[i]? = some (some (.ref L))) {en : En}
    (hen : SR K A st ow (upd H L o') i en (.ref L)) (he : (∃ ds, en = .own ds) ∨ ∃ ds, en = .odk ds) : BE K A st H0 ow σ (upd H L o') (eset env i (some en)) ∧ To H (upd H L o') (Mo A ow) (Mo A ow) := by
  have R := B.r
  have mL : Mo A ow L := .inr ⟨i, hi⟩
  have t : To H (upd H L o') (Mo A ow) (Mo A ow) := ⟨fun b x e n => ⟨by rw [upd_ne (fun (z : b = L) => n (z ▸ mL))]; exact e, n⟩⟩
  have exL : ∀ a ∈ exs st, a ≠ L := fun a z e => R.na i L hi (e ▸ R.exA a z)
  have nn : ∀ {a : Addr}, H a ≠ none → upd H L o' a ≠ none := fun {a} h => by
    by_cases e : a = L
    · subst e; rw [upd_same]; intro z; cases z
    · rw [upd_ne e]; exact h
  refine ⟨⟨⟨fun z e => ?_, fun a z => nn (R.dom a z), R.sta, fun j a e => nn (R.al j a e), R.na, R.inj, fun j a e => ?_, by unfold eset; rw [List.length_set]; exact R.len, fun j e he' => ?_⟩, fun b x e n => ?_, B.fr⟩, t⟩
  · obtain ⟨kk, ns, l1, l2, l3⟩ := R.ls z e
    have m1 : z.1 ≠ L := exL _ (by subst e; simp [exs])
    have m2 : z.2 ≠ L := exL _ (by subst e; simp [exs])
    exact ⟨kk, ns, by rw [upd_ne m1]; exact l1, by rw [upd_ne m2]; exact l2, l3⟩
  · unfold eset
    by_cases hj : i = j
    · subst hj
      have hl : i < env.length := by rw [← R.len]; exact (List.getElem?_eq_some_iff.mp hs).1
      rw [List.getElem?_set_self hl]
      rcases he with ⟨ds, rfl⟩ | ⟨ds, rfl⟩
      · exact .inl ⟨ds, rfl⟩
      · exact .inr ⟨ds, rfl⟩
    · rw [List.getElem?_set_ne hj]
      exact R.tie j a e
  · unfold eset at he'
    by_cases hj : i = j
    · subst hj
      have hl : i < env.length := by rw [← R.len]; exact (List.getElem?_eq_some_iff.mp hs).1
      rw [List.getElem?_set_self hl] at he'
      cases he'
      exact ⟨_, hs, hen⟩
    · rw [List.getElem?_set_ne hj] at he'
      obtain ⟨u, hu, r⟩ := R.sl j e he'
      refine ⟨u, hu, ?_⟩
      cases e with
      | d x => exact Rep.to t r
      | own ds =>
        obtain ⟨a, vs, h1, h2, h3, h4⟩ := r
        exact ⟨a, vs, h1, h2, by rw [upd_ne (fun (z : a = L) => hj (R.inj i j L hi (z ▸ h1)))]; exact h3, RepL.to t h4⟩
      | odk ds =>
        obtain ⟨a, vs, h1, h2, h3, h4⟩ := r
        exact ⟨a, vs, h1, h2, by rw [upd_ne (fun (z : a = L) => hj (R.inj i j L hi (z ▸ h1)))]; exact h3, RepK.to t h4⟩
      | st => exact r
  · have : b ≠ L := fun z => by rw [z, B.fr i L hi] at e; cases e
    rw [upd_ne this]
    exact B.kp b x e n
/-- x.append(e) -/
def dApp (i : Nat) (de : Ev → (D → Prop) → Prop) : DS := fun Ed env => match eget env i with
  | some (.own ds) => de env fun x => ds.length ≤ 100000 ∧ Ed.nx (eset env i (some (.own (ds ++ [x]))))
  | _ => False
theorem rs_app (i : Nat) {te : TE} {de : Ev → (D → Prop) → Prop} (h : RfE K te de) : RfS K (tDrop (tBM K "list" rAppend (tVar i) (tCons te tNil))) (dApp i de) := ⟨fun {A st H0 ow σ H env Ed E} B q k => by
  unfold dApp at q
  split at q
  · rename_i ds e
    obtain ⟨v, hv, L, vs, h1, rfl, h3, h4⟩ := B.r.sl i _ (eget_some e)
    refine ⟨_, hv, .inl ⟨rfl, vs, SqL.of h3⟩, h.run B.r q fun d v H' ⟨hl, q'⟩ s r => ?_⟩
    have B1 := B.step s
    have h3' : H' L = some (.lst vs) := s.k L _ h3 fun z => B.r.na i L h1 (B.r.exA L z)
    refine ⟨L, vs, v, rfl, rfl, h3', Nat.lt_of_le_of_lt (by rw [← h4.len]; exact hl) (by decide), ?_⟩
    have mL : Mo A ow L := .inr ⟨i, h1⟩
    have t : To H' (upd H' L (.lst (vs ++ [v]))) (Mo A ow) (Mo A ow) := ⟨fun b x e n => ⟨by rw [upd_ne (fun (z : b = L) => n (z ▸ mL))]; exact e, n⟩⟩
    have := B1.mut i (o' := .lst (vs ++ [v])) h1 h3' hv (en := .own (ds ++ [d])) ⟨L, _, h1, rfl, upd_same, RepL.to t ((RepL.to (B.r.toS s) h4).snoc r)⟩ (.inl ⟨_, rfl⟩)
    exact k.nx _ _ _ _ q' this.1 ((B.r.toS s).trans this.2)
  · exact q.elim⟩
/-- x[i] = e -/
def dSetIx (i : Nat) (de di : Ev → (D → Prop) → Prop) : DS := fun Ed env => de env fun x => match eget env i with
  | some (.own ds) => di env fun y => (match y with | .int k => ∃ j, ixN ds.length k = some j ∧ Ed.nx (eset env i (some (.own (ds.set j x)))) | _ => False)
  | _ => False
theorem rs_setIx (i : Nat) {te ti : TE} {de di : Ev → (D → Prop) → Prop} (h : RfE K te de) (hi : RfE K ti di) : RfS K (tAsg te (gSub (tVar i) ti rSetL)) (dSetIx i de di) := ⟨fun {A st H0 ow σ H env Ed E} B q k => h.run B.r q fun d v H1 q1 s1 r1 => by
  have B1 := B.step s1
  split at q1
  · rename_i ds e
    obtain ⟨w, hw, L, vs, h1, rfl, h3, h4⟩ := B1.r.sl i _ (eget_some e)
    refine ⟨_, hw, hi.run B1.r q1 fun y u H2 q2 s2 r2 => ?_⟩
    have B2 := B1.step s2
    have h3' : H2 L = some (.lst vs) := s2.k L _ h3 fun z => B1.r.na i L h1 (B1.r.exA L z)
    split at q2
    · cases r2
      obtain ⟨j, ej, q3⟩ := q2
      refine ⟨L, vs, _, j, rfl, rfl, h3', by rw [← h4.len]; exact ej, ?_⟩
      have mL : Mo A ow L := .inr ⟨i, h1⟩
      have t : To H2 (upd H2 L (.lst (vs.set j v))) (Mo A ow) (Mo A ow) := ⟨fun b x e n => ⟨by rw [upd_ne (fun (z : b = L) => n (z ▸ mL))]; exact e, n⟩⟩
      have := B2.mut i (o' := .lst (vs.set j v)) h1 h3' hw (en := .own (ds.set j d)) ⟨L, _, h1, rfl, upd_same, RepL.to t ((RepL.to (B1.r.toS s2) h4).set j (Rep.to (B1.r.toS s2) r1))⟩ (.inl ⟨_, rfl⟩)
      exact k.nx _ _ _ _ q3 this.1 (((B.r.toS s1).trans (B1.r.toS s2)).trans this.2)
    · exact q2.elim
  · exact q1.elim⟩
/-- what a slot owns is not changed any more -/
def frz (env : Ev) (i : Nat) : Ev := match eget env i with
  | some (.own ds) => eset env i (some (.d (.list ds)))
  | some (.odk ds) => eset env i (some (.d (.dict ds)))
  | _ => env
def dFrz (i : Nat) (a : DS) : DS := fun Ed env => a Ed (frz env i)
theorem set_self {α : Type} {xs : List α} {i : Nat} {x : α} (h : xs[i]? = some x) : xs.set i x = xs := by
  refine List.ext_getElem? fun j => ?_
  by_cases e : i = j
  · subst e
    rw [List.getElem?_set_self (List.getElem?_eq_some_iff.mp h).1, h]
  · rw [List.getElem?_set_ne e]
theorem rs_frz (i : Nat) {t : TS} {a : DS} (h : RfS K t a) : RfS K t (dFrz i a) := ⟨fun {A st H0 ow σ H env Ed E} B q k => by
  have less : To H H (Mo A ow) (Mo A (owDel ow i)) := to_less fun b => Mo.sub fun j a e => (owDel_sub e).1
  have nm : ∀ L, ow i = some L → ¬ Mo A (owDel ow i) L := fun L e z => by
    rcases z with z | ⟨j, z⟩
    · exact B.r.na i L e z
    · obtain ⟨z1, z2⟩ := owDel_sub z
      exact z2 (B.r.inj j i L z1 e)
  have put : ∀ d v, Rep K H (Mo A (owDel ow i)) d v → σ[i]? = some (some v) → BE K A st H0 (owDel ow i) σ H (eset env i (some (.d d))) := fun d v r hv => by
    have R := B.r
    have sub : ∀ j a, owDel ow i j = some a → ow j = some a := fun j a e => (owDel_sub e).1
    refine ⟨⟨R.ls, R.dom, R.sta, fun j a e => R.al j a (sub j a e), fun j a e => R.na j a (sub j a e), fun j k a h1 h2 => R.inj j k a (sub j a h1) (sub k a h2), fun j a h => ?_, by unfold eset; rw [List.length_set]; exact R.len, fun j e he => ?_⟩, B.kp, fun j a h => B.fr j a (sub j a h)⟩
    · have hj := (owDel_sub h).2
      unfold eset
      rw [List.getElem?_set_ne fun z => hj z.symm]
      exact R.tie j a (sub j a h)
    unfold eset at he
    by_cases hj : i = j
    · subst hj
      have hl : i < env.length := by rw [← R.len]; exact (List.getElem?_eq_some_iff.mp hv).1
      rw [List.getElem?_set_self hl] at he
      cases he
      exact ⟨v, hv, r⟩
    · rw [List.getElem?_set_ne hj] at he
      obtain ⟨u, hu, s⟩ := R.sl j e he
      exact ⟨u, hu, s.less sub (by unfold owDel; rw [if_neg (fun z => hj z.symm)])⟩
  unfold dFrz frz at q
  split at q
  · rename_i ds e
    obtain ⟨v, hv, L, vs, h1, rfl, h3, h4⟩ := B.r.sl i _ (eget_some e)
    exact h.run (put _ _ (.lst h3 (nm L h1) (RepL.to less h4)) hv) q (k.to less)
  · rename_i ds e
    obtain ⟨v, hv, L, vs, h1, rfl, h3, h4⟩ := B.r.sl i _ (eget_some e)
    exact h.run (put _ _ (.dct h3 (nm L h1) (RepK.to less h4)) hv) q (k.to less)
  · exact h.run B q k⟩
/-! two names at once -/
def dPar (i j : Nat) (da : Ev → (List D → Prop) → Prop) : DS := fun Ed env => da env fun xs => match xs with
  | [x, y] => Ed.nx (eset (eset env i (some (.d x))) j (some (.d y)))
  | _ => False
theorem rs_par {n : Nat} (i j : Nat) {t : TA} {da : Ev → (List D → Prop) → Prop} (h : RfN K n t da) : RfS K (tPar i j t) (dPar i j da) := ⟨fun {A st H0 ow σ H env Ed E} B q k => h.run B.r q fun ds vs H1 q1 _ s1 r1 => by
  split at q1
  · cases r1 with | cons h1 r1 => cases r1 with | cons h2 r2 =>
    cases r2
    have B1 := B.step s1
    have B2 := B1.put i h1
    have t2 := to_del H1 A ow i
    have B3 := B2.put j (Rep.to t2 h2)
    exact ⟨_, _, rfl, k.nx _ _ _ _ q1 B3 (((B.r.toS s1).trans t2).trans (to_del _ _ _ _))⟩
  · exact q1.elim⟩
def dAug (i : Nat) (de : Ev → (D → Prop) → Prop) (g : Int → Int → Int) : DS := fun Ed env => match eget env i with
  | some (.d (.int x)) => de env fun y => (match y with | .int z => Ed.nx (eset env i (some (.d (.int (g x z))))) | _ => False)
  | _ => False
theorem rs_aug (i : Nat) {t : TE} {de : Ev → (D → Prop) → Prop} {g : Int → Int → Int} (h : RfE K t de) : RfS K (tAug i t (ipI g)) (dAug i de g) := ⟨fun B q k => by
  unfold dAug at q
  split at q
  · rename_i x e
    obtain ⟨v, hv, r⟩ := B.r.sl i _ (eget_some e)
    cases r
    refine ⟨_, hv, h.run B.r q fun d v H1 q1 s1 r1 => ?_⟩
    split at q1
    · cases r1
      have B1 := B.step s1
      exact ⟨_, _, rfl, rfl, k.nx _ _ _ _ q1 (B1.put i (.int _)) ((B.r.toS s1).trans (to_del _ _ _ _))⟩
    · exact q1.elim
  · exact q.elim⟩
/-! loops -/
def loopD (g : D → Ev → (Ev → Prop) → Prop) (body : DS) (Ed : Dd) : List D → Ev → Prop
  | [], env => Ed.nx env
  | d :: r, env => g d env fun env1 => body { nx := loopD g body Ed r, ct := loopD g body Ed r, bk := Ed.nx, rt := Ed.rt } env1
def dFor (di : Ev → (List D → Prop) → Prop) (g : D → Ev → (Ev → Prop) → Prop) (body : DS) : DS := fun Ed env => di env fun ds => loopD g body Ed ds env
theorem rs_for {is : List Nat} {wi : TI} {tg : TG} {tb : TS} {di : Ev → (List D → Prop) → Prop} {g : D → Ev → (Ev → Prop) → Prop} {body : DS} (hi : RfI K wi di) (hg : RfG K is tg g) (hb : RfS K tb body) : RfS K (tFor wi tg tb) (dFor di g body) := ⟨fun {A st H0 ow σ H env Ed E} B q k =>
  hi.run B.r q fun ds J H1 q1 s1 J1 => by
    have B1 := B.step s1
    have k1 := k.to (B.r.toS s1)
    refine ⟨fun i m σ' H' => m = ds.length - i ∧ i ≤ ds.length ∧ ∃ env' ow', BE K A st H0 ow' σ' H' env' ∧ To H1 H' (Mo A ow) (Mo A ow') ∧ loopD g body Ed (ds.drop i) env', ⟨_, rfl, Nat.zero_le _, env, ow, B1, To.refl _ _, q1⟩, ?_⟩
    rintro i m σ' H' ⟨rfl, hi, env', ow', B', t', q'⟩
    have al : ∀ a, Mo A ow' a → H' a ≠ none := fun a z => B'.r.alM z
    by_cases hlt : i < ds.length
    · have eD : ds[i]? = some ds[i] := List.getElem?_eq_getElem hlt
      rw [drop_get eD] at q'
      obtain ⟨go, yl⟩ := (J1 _ H' t' al i).2 _ eD
      refine .inr ⟨go, fun σ2 H2 => ∃ env2 ow2, BE K A st H0 ow2 σ2 H2 env2 ∧ To H1 H2 (Mo A ow) (Mo A ow2) ∧ loopD g body Ed (ds.drop (i + 1)) env2, fun σ2 H2 z => ⟨_, by omega, rfl, hlt, z⟩, fun x H2 y => ?_⟩
      obtain ⟨sm, rx⟩ := yl x H2 y
      have B2 := B'.step (.same B'.r.ls sm)
      refine hg.run B2.r rx q' fun env3 ow3 σ3 q3 R3 sub3 _ => ?_
      have B3 : BE K A st H0 ow3 σ3 H2 env3 := ⟨R3, B2.kp, fun j a e => B2.fr j a (sub3 j a e)⟩
      have t3 : To H' H2 (Mo A ow') (Mo A ow3) := (to_same sm).trans (to_less fun a => Mo.sub sub3)
      have k3 := k1.to (t'.trans t3)
      exact hb.run B3 q3 ⟨fun env' ow' σ' H' q b t => ⟨env', ow', b, (t'.trans t3).trans t, q⟩, k3.rt, k3.nx, fun env' ow' σ' H' q b t => ⟨env', ow', b, (t'.trans t3).trans t, q⟩⟩
    · have e' : i = ds.length := by omega
      subst e'
      rw [List.drop_length] at q'
      exact .inl ⟨(J1 _ H' t' al _).1 rfl, k1.nx _ _ _ _ q' B' t'⟩⟩
def dWhile (c : Ev → (Bool → Prop) → Prop) (body : DS) : DS := fun Ed env => ∃ W : Nat → Ev → Prop, (∃ m, W m env) ∧ ∀ m env, W m env → c env fun b =>
  if b = true then body { nx := fun e => ∃ m', m' < m ∧ W m' e, ct := fun e => ∃ m', m' < m ∧ W m' e, bk := Ed.nx, rt := Ed.rt } env else Ed.nx env
theorem rs_while {tc : TT} {tb : TS} {c : Ev → (Bool → Prop) → Prop} {body : DS} (hc : RfT K tc c) (hb : RfS K tb body) : RfS K (tWhile tc tb) (dWhile c body) := ⟨fun {A st H0 ow σ H env Ed E} B ⟨W, ⟨m0, w0⟩, turn⟩ k => by
  refine ⟨fun m σ' H' => ∃ env' ow', BE K A st H0 ow' σ' H' env' ∧ To H H' (Mo A ow) (Mo A ow') ∧ W m env', ⟨m0, env, ow, B, To.refl _ _, w0⟩, ?_⟩
  rintro m σ' H' ⟨env', ow', B', t', w'⟩
  refine hc.run B'.r (turn m env' w') fun b H2 q2 s2 => ?_
  have B2 := B'.step s2
  have t2 := t'.trans (B'.r.toS s2)
  have k2 := k.to t2
  cases b with
  | false =>
    rw [if_neg Bool.false_ne_true] at q2 ⊢
    exact k2.nx _ _ _ _ q2 B2 (To.refl _ _)
  | true =>
    rw [if_pos rfl] at q2 ⊢
    exact ⟨fun σ3 H3 => ∃ m', m' < m ∧ ∃ env' ow', BE K A st H0 ow' σ3 H3 env' ∧ To H H3 (Mo A ow) (Mo A ow') ∧ W m' env', fun σ3 H3 z => z,
      hb.run B2 q2 ⟨fun env' ow' σ' H' ⟨m', hm, w⟩ b t => ⟨m', hm, env', ow', b, t2.trans t, w⟩, k2.rt, k2.nx, fun env' ow' σ' H' ⟨m', hm, w⟩ b t => ⟨m', hm, env', ow', b, t2.trans t, w⟩⟩⟩⟩
/-! bodies -/
def ev0 (ds : List D) (n : Nat) : Ev := ds.map (fun d => some (.d d)) ++ List.replicate n none
theorem ev0_get {K : PySem.W.Frag} {H : Hp} {A : Addr → Prop} : ∀ {ds : List D} {vs : List V} {n i : Nat} {e : En}, RepL K H A ds vs → (ev0 ds n)[i]? = some (some e) → ∃ d v, e = .d d ∧ vs[i]? = some v ∧ Rep K H A d v := fun {ds vs n i e} r h => by
  unfold ev0 at h
  by_cases hi : i < ds.length
  · rw [List.getElem?_append_left (by rw [List.length_map]; exact hi), List.getElem?_map, List.getElem?_eq_getElem hi] at h
    cases h
    obtain ⟨v, hv, rv⟩ := r.get (List.getElem?_eq_getElem hi)
    exact ⟨_, v, rfl, hv, rv⟩
  · rw [List.getElem?_append_right (by rw [List.length_map]; omega)] at h
    have := List.mem_of_getElem? h
    rw [List.mem_replicate] at this
    cases this.2
theorem start_get {N : List Str} {vs : List V} {i : Nat} {v : V} (h : vs[i]? = some v) : (L2.start N vs)[i]? = some (some v) := by
  unfold L2.start
  have hi := (List.getElem?_eq_some_iff.mp h).1
  rw [List.getElem?_append_left (by rw [List.length_map]; exact hi), List.getElem?_map, h]
  rfl
theorem fn_pure {t : TS} {b : DS} {f : List D → (D → Prop) → Prop} {N : List Str} {vs : List V} {H : Hp} {Q : VK} {E : XK} (hb : RfS K t b) (h : spD K f vs H Q E) (hn : vs.length ≤ N.length)
    (hf : ∀ ds Qd, f ds Qd → b { nx := fun _ => Qd .none, rt := Qd } (ev0 ds (N.length - ds.length))) : t { nx := fun _ H' => Q .non H', rt := Q } (L2.start N vs) H := by
  obtain ⟨A, ds, Qd, dom, r, hq, k⟩ := h
  have hl := r.len
  refine hb.run (A := A) (st := none) (H0 := H) (ow := fun _ => none) ⟨⟨fun q e => (by cases e), dom, fun q e => (by cases e), fun i a e => (by cases e), fun i a e => (by cases e), fun i j a e => (by cases e), fun i a e => (by cases e), ?_, fun i e he => ?_⟩, Keep.refl _ _, fun i a e => (by cases e)⟩ (hf ds Qd hq) ?_
  · unfold L2.start ev0
    simp only [List.length_append, List.length_map, List.length_replicate]
    omega
  · obtain ⟨d, v, rfl, hv, rv⟩ := ev0_get r he
    exact ⟨v, start_get hv, Rep.to (to_less fun a z => z.elim id fun ⟨i, e⟩ => by cases e) rv⟩
  · exact ⟨fun env' ow' σ' H' q b t => k _ _ _ q (fun b' o e => b.kp b' o e (by simp [exs])) .non, fun d v H' q s r => k _ _ _ q (fun b' o e => s.k b' o e (by simp [exs])) r, fun _ _ _ _ q => q.elim, fun _ _ _ _ q => q.elim⟩
theorem fn_state {t : TS} {b : DS} {f : List D → (D → Prop) → Prop} {N : List Str} {vs : List V} {H : Hp} {Q : VK} {E : XK} (hb : RfS K t b) (h : spS K f vs H Q E) (hn : vs.length ≤ N.length)
    (hf : ∀ ds Qd, f ds Qd → b { nx := fun _ => Qd .none, rt := Qd } (some .st :: ev0 ds (N.length - (ds.length + 1)))) : t { nx := fun _ H' => Q .non H', rt := Q } (L2.start N vs) H := by
  obtain ⟨A, z, ds, ws, Qd, rfl, ls, a1, a2, dom, r, hq, k⟩ := h
  have hl := r.len
  refine hb.run (A := A) (st := some z) (H0 := H) (ow := fun _ => none) ⟨⟨fun q e => (by cases e; exact ls), dom, fun q e => (by cases e; exact ⟨a1, a2⟩), fun i a e => (by cases e), fun i a e => (by cases e), fun i j a e => (by cases e), fun i a e => (by cases e), ?_, fun i e he => ?_⟩, Keep.refl _ _, fun i a e => (by cases e)⟩ (hf ds Qd hq) ?_
  · unfold L2.start ev0
    simp only [List.length_append, List.length_map, List.length_replicate, List.length_cons] at hn ⊢
    omega
  · cases i with
    | zero =>
      rw [List.getElem?_cons_zero] at he
      cases he
      exact ⟨_, start_get (i := 0) rfl, z, rfl, rfl⟩
    | succ i =>
      rw [List.getElem?_cons_succ] at he
      obtain ⟨d, v, rfl, hv, rv⟩ := ev0_get r he
      exact ⟨v, start_get (i := i + 1) (by rw [List.getElem?_cons_succ]; exact hv), Rep.to (to_less fun a z => z.elim id fun ⟨i, e⟩ => by cases e) rv⟩
  · exact ⟨fun env' ow' σ' H' q b t => k _ _ _ q ⟨b.kp, b.r.ls⟩ .non, fun d v H' q s r => k _ _ _ q s r, fun _ _ _ _ q => q.elim, fun _ _ _ _ q => q.elim⟩
theorem spD_len {f : List D → (D → Prop) → Prop} {n : Nat} (hf : ∀ ds Qd, f ds Qd → ds.length = n) {vs : List V} {H : Hp} {Q : VK} {E : XK} (h : spD K f vs H Q E) : vs.length = n := by
  obtain ⟨A, ds, Qd, dom, r, hq, k⟩ := h
  rw [← r.len]
  exact hf ds Qd hq
theorem spS_len {f : List D → (D → Prop) → Prop} {n : Nat} (hf : ∀ ds Qd, f ds Qd → ds.length = n) {vs : List V} {H : Hp} {Q : VK} {E : XK} (h : spS K f vs H Q E) : vs.length = n + 1 := by
  obtain ⟨A, z, ds, ws, Qd, rfl, ls, a1, a2, dom, r, hq, k⟩ := h
  rw [List.length_cons, ← r.len, hf ds Qd hq]
end
section
variable {K : PySem.W.Frag}
def dUn (op : D → (D → Prop) → Prop) (da : Ev → (D → Prop) → Prop) : Ev → (D → Prop) → Prop := fun env Q => da env fun x => op x Q
structure RfV1 (K : PySem.W.Frag) (r : V → Hp → VK → Prop) (op : D → (D → Prop) → Prop) : Prop where
  run : ∀ {A : Addr → Prop} {st : Option (Addr × Addr)} {ow : Nat → Option Addr} {σ : L2.St} {H : Hp} {env : Ev} {a : D} {x : V} {Qd : D → Prop} {Q : VK},
  RE K A st ow σ H env → RepB K H A (Mo A ow) a x → op a Qd → (∀ d v H', Qd d → Stp st H H' → Rep K H' (Mo A ow) d v → Q v H') → r x H Q
theorem ru {r : V → Hp → VK → Prop} {op : D → (D → Prop) → Prop} {ta : TE} {da : Ev → (D → Prop) → Prop} (ho : RfV1 K r op) (ha : RfB K ta da) : RfE K (tUn r ta) (dUn op da) := ⟨fun R q k =>
  ha.run R q fun d v H1 q1 s1 r1 => ho.run (R.step s1) r1 q1 fun d v H2 q2 s2 r2 => k d v H2 q2 (s1.trans s2) r2⟩
def oNeg : D → (D → Prop) → Prop := fun x Q => match x with | .int i => Q (.int (-i)) | _ => False
theorem rv_neg : RfV1 K (rU fun i => .int (-i)) oNeg := ⟨fun R h q k => by
  unfold oNeg at q
  split at q
  · cases h.int
    exact ⟨_, rfl, k _ _ _ q (stp_refl R) (.int _)⟩
  · exact q.elim⟩
theorem rv_ninS : RfV2 K (fun x y H Q => ∃ (c : Nat) (z : Str), x = .str ⟨#[c]⟩ ∧ y = .str z ∧ Q (.bl (!decide (c ∈ z.cps.toList))) H) (oInS true) := ⟨fun R h1 h2 q k => by
  unfold oInS at q
  split at q
  · cases h1.str; cases h2.str
    obtain ⟨c, rfl, q⟩ := q
    exact ⟨_, _, rfl, rfl, k _ _ _ q (stp_refl R) (.bl _)⟩
  · exact q.elim⟩
def CDivW' (_ j : Int) : Prop := 0 < j ∧ j.natAbs < 2 ^ 64
/-! promises by their arguments -/
def F0 (P : (D → Prop) → Prop) : List D → (D → Prop) → Prop := fun ds Q => match ds with | [] => P Q | _ => False
def F1 (P : D → (D → Prop) → Prop) : List D → (D → Prop) → Prop := fun ds Q => match ds with | [a] => P a Q | _ => False
def F2 (P : D → D → (D → Prop) → Prop) : List D → (D → Prop) → Prop := fun ds Q => match ds with | [a, b] => P a b Q | _ => False
def F3 (P : D → D → D → (D → Prop) → Prop) : List D → (D → Prop) → Prop := fun ds Q => match ds with | [a, b, c] => P a b c Q | _ => False
def F4 (P : D → D → D → D → (D → Prop) → Prop) : List D → (D → Prop) → Prop := fun ds Q => match ds with | [a, b, c, d] => P a b c d Q | _ => False
def F5 (P : D → D → D → D → D → (D → Prop) → Prop) : List D → (D → Prop) → Prop := fun ds Q => match ds with | [a, b, c, d, e] => P a b c d e Q | _ => False
def F6 (P : D → D → D → D → D → D → (D → Prop) → Prop) : List D → (D → Prop) → Prop := fun ds Q => match ds with | [a, b, c, d, e, f] => P a b c d e f Q | _ => False
theorem F0_len {P} (ds : List D) (Q : D → Prop) (h : F0 P ds Q) : ds.length = 0 := by unfold F0 at h; split at h; rfl; exact h.elim
theorem F1_len {P} (ds : List D) (Q : D → Prop) (h : F1 P ds Q) : ds.length = 1 := by unfold F1 at h; split at h; rfl; exact h.elim
theorem F2_len {P} (ds : List D) (Q : D → Prop) (h : F2 P ds Q) : ds.length = 2 := by unfold F2 at h; split at h; rfl; exact h.elim
theorem F3_len {P} (ds : List D) (Q : D → Prop) (h : F3 P ds Q) : ds.length = 3 := by unfold F3 at h; split at h; rfl; exact h.elim
theorem F4_len {P} (ds : List D) (Q : D → Prop) (h : F4 P ds Q) : ds.length = 4 := by unfold F4 at h; split at h; rfl; exact h.elim
theorem F5_len {P} (ds : List D) (Q : D → Prop) (h : F5 P ds Q) : ds.length = 5 := by unfold F5 at h; split at h; rfl; exact h.elim
theorem F6_len {P} (ds : List D) (Q : D → Prop) (h : F6 P ds Q) : ds.length = 6 := by unfold F6 at h; split at h; rfl; exact h.elim
theorem F0_in {P} {G : List D → (D → Prop) → Prop} (h : ∀ Qd, P Qd → G [] Qd) : ∀ ds Qd, F0 P ds Qd → G ds Qd := fun ds Qd q => by unfold F0 at q; split at q; exact h _ q; exact q.elim
theorem F1_in {P} {G : List D → (D → Prop) → Prop} (h : ∀ a Qd, P a Qd → G [a] Qd) : ∀ ds Qd, F1 P ds Qd → G ds Qd := fun ds Qd q => by unfold F1 at q; split at q; exact h _ _ q; exact q.elim
theorem F2_in {P} {G : List D → (D → Prop) → Prop} (h : ∀ a b Qd, P a b Qd → G [a, b] Qd) : ∀ ds Qd, F2 P ds Qd → G ds Qd := fun ds Qd q => by unfold F2 at q; split at q; exact h _ _ _ q; exact q.elim
theorem F3_in {P} {G : List D → (D → Prop) → Prop} (h : ∀ a b c Qd, P a b c Qd → G [a, b, c] Qd) : ∀ ds Qd, F3 P ds Qd → G ds Qd := fun ds Qd q => by unfold F3 at q; split at q; exact h _ _ _ _ q; exact q.elim
theorem F4_in {P} {G : List D → (D → Prop) → Prop} (h : ∀ a b c d Qd, P a b c d Qd → G [a, b, c, d] Qd) : ∀ ds Qd, F4 P ds Qd → G ds Qd := fun ds Qd q => by unfold F4 at q; split at q; exact h _ _ _ _ _ q; exact q.elim
theorem F5_in {P} {G : List D → (D → Prop) → Prop} (h : ∀ a b c d e Qd, P a b c d e Qd → G [a, b, c, d, e] Qd) : ∀ ds Qd, F5 P ds Qd → G ds Qd := fun ds Qd q => by unfold F5 at q; split at q; exact h _ _ _ _ _ _ q; exact q.elim
theorem F6_in {P} {G : List D → (D → Prop) → Prop} (h : ∀ a b c d e f Qd, P a b c d e f Qd → G [a, b, c, d, e, f] Qd) : ∀ ds Qd, F6 P ds Qd → G ds Qd := fun ds Qd q => by unfold F6 at q; split at q; exact h _ _ _ _ _ _ _ q; exact q.elim
/-! the law's own run -/
def spState (K : PySem.W.Frag) : Sp := fun vs H Q _ => ∃ (a : Addr) (ns : List Int), vs = [.ref a] ∧ SqL K H a (ns.map V.int) ∧ ns.length ≤ 63 ∧
  ∀ (p c : Addr) (H' : Hp), LS H' p c → Same H H' → H p = none → H c = none → Q (.ref p) H'
def spLaw (K : PySem.W.Frag) : Sp := fun vs H Q _ => ∃ (a : Addr) (ns : List Int), vs = [.ref a] ∧ SqL K H a (ns.map V.int) ∧ ns.length ≤ 63 ∧ ∀ H', Q (.bl true) H'
theorem spLaw_len {vs : List V} {H : Hp} {Q : VK} {E : XK} (h : spLaw K vs H Q E) : vs.length = 1 := by
  obtain ⟨a, ns, rfl, _⟩ := h
  rfl
theorem law_run {i : Nat} {u : TS} {b : DS} {N : List Str} {vs : List V} {H : Hp} {Q : VK} {E E' : XK} (hb : RfS K u b) (h : spLaw K vs H Q E) (hi : 0 < i) (hN : i < N.length)
    (hf : b { nx := fun _ => False, rt := fun d => d = .bool true } ((List.replicate N.length none).set i (some .st))) :
    tSeq (tAsg (tCall (spState K) [] E' (tCons (tVar 0) tNil)) (gName i)) u { nx := fun _ H' => Q .non H', rt := Q } (L2.start N vs) H := by
  obtain ⟨a, ns, rfl, hS, hlen, q⟩ := h
  refine ⟨_, start_get (i := 0) rfl, a, ns, rfl, hS, hlen, fun p c H1 ls sm np nc => ?_⟩
  refine hb.run (A := fun x => x = p ∨ x = c) (st := some (p, c)) (H0 := H1) (ow := fun _ => none) ⟨⟨fun q e => (by cases e; exact ls), fun a ha => ?_, fun q e => (by cases e; exact ⟨.inl rfl, .inr rfl⟩), fun i a e => (by cases e), fun i a e => (by cases e), fun i j a e => (by cases e), fun i a e => (by cases e), ?_, fun j e he => ?_⟩, Keep.refl _ _, fun i a e => (by cases e)⟩ hf ?_
  · obtain ⟨k, ns, h1, h2, _⟩ := ls
    rcases ha with rfl | rfl
    · rw [h1]; intro z; cases z
    · rw [h2]; intro z; cases z
  · unfold L2.start
    simp only [List.length_set, List.length_append, List.length_map, List.length_replicate, List.length_cons, List.length_nil]
    omega
  · by_cases hj : i = j
    · subst hj
      rw [List.getElem?_set_self (by rw [List.length_replicate]; exact hN)] at he
      cases he
      refine ⟨_, List.getElem?_set_self ?_, (p, c), rfl, rfl⟩
      unfold L2.start
      simp only [List.length_append, List.length_map, List.length_replicate, List.length_cons, List.length_nil]
      omega
    · rw [List.getElem?_set_ne hj] at he
      have := List.mem_of_getElem? he
      rw [List.mem_replicate] at this
      cases this.2
  · exact ⟨fun env' ow' σ' H' q => q.elim, fun d v H' e s r => by subst e; cases r; exact q H', fun _ _ _ _ q => q.elim, fun _ _ _ _ q => q.elim⟩
/-! draws -/
def sTake : D → (D → Prop) → Prop := fun m Q => match m with | .int m => 0 < m ∧ m < 2 ^ 64 ∧ ∀ r, 0 ≤ r → r < m → Q (.int r) | _ => False
def sTake0 : D → (D → Prop) → Prop := fun m Q => match m with | .int m => m < 2 ^ 64 ∧ ∀ r, 0 ≤ r → (r < m ∨ r < 1) → Q (.int r) | _ => False
def spTake : Sp := fun vs H Q _ => ∃ (p c : Addr) (m : Int), vs = [.ref p, .int m] ∧ LS H p c ∧ 0 < m ∧ m < 2 ^ 64 ∧
  ∀ (r : Int) (H' : Hp), 0 ≤ r → r < m → LS H' p c → Keep [p, c] H H' → Q (.int r) H'
def spTake0 : Sp := fun vs H Q _ => ∃ (p c : Addr) (m : Int), vs = [.ref p, .int m] ∧ LS H p c ∧ m < 2 ^ 64 ∧
  ∀ (r : Int) (H' : Hp), 0 ≤ r → (r < m ∨ r < 1) → LS H' p c → Keep [p, c] H H' → Q (.int r) H'
theorem take_of (vs : List V) (H : Hp) (Q : VK) (E : XK) (h : spS K (F1 sTake) vs H Q E) : spTake vs H Q E := by
  obtain ⟨A, z, ds, ws, Qd, rfl, ls, a1, a2, dom, r, hq, k⟩ := h
  unfold F1 at hq
  split at hq
  · unfold sTake at hq
    split at hq
    · cases r with | cons r1 r2 =>
      cases r2
      cases r1
      exact ⟨z.1, z.2, _, rfl, ls, hq.1, hq.2.1, fun r H' h0 h1 l kk => k _ _ _ (hq.2.2 r h0 h1) ⟨kk, fun q e => by cases e; exact l⟩ (.int _)⟩
    · exact hq.elim
  · exact hq.elim
theorem take0_of (vs : List V) (H : Hp) (Q : VK) (E : XK) (h : spS K (F1 sTake0) vs H Q E) : spTake0 vs H Q E := by
  obtain ⟨A, z, ds, ws, Qd, rfl, ls, a1, a2, dom, r, hq, k⟩ := h
  unfold F1 at hq
  split at hq
  · unfold sTake0 at hq
    split at hq
    · cases r with | cons r1 r2 =>
      cases r2
      cases r1
      exact ⟨z.1, z.2, _, rfl, ls, hq.1, fun r H' h0 h1 l kk => k _ _ _ (hq.2 r h0 h1) ⟨kk, fun q e => by cases e; exact l⟩ (.int _)⟩
    · exact hq.elim
  · exact hq.elim
theorem emod_rng (x : Int) {m : Int} (h : 0 < m) : 0 ≤ x % m ∧ x % m < m := ⟨Int.emod_nonneg _ (by omega), Int.emod_lt_of_pos _ h⟩
theorem at_mod {α : Type} {xs : List α} (h : xs ≠ []) (k : Int) : ∃ (j : Nat) (v : α), k % (xs.length : Int) = (j : Int) ∧ j < xs.length ∧ xs[j]? = some v := by
  have hl : 0 < xs.length := by
    cases xs with
    | nil => exact absurd rfl h
    | cons _ _ => exact Nat.zero_lt_succ _
  have e := emod_rng k (m := (xs.length : Int)) (by omega)
  refine ⟨(k % (xs.length : Int)).toNat, xs[(k % (xs.length : Int)).toNat]'(by omega), by omega, by omega, List.getElem?_eq_getElem _⟩
theorem LS.ne {H : Hp} {p c : Addr} (h : LS H p c) : p ≠ c := by
  obtain ⟨k, ns, h1, h2, h3⟩ := h
  intro e
  subst e
  rw [h1] at h2
  cases ns with
  | nil => exact h3 rfl
  | cons x r =>
    cases r with
    | nil => cases h2
    | cons y r =>
      cases r with
      | nil => cases h2
      | cons _ _ => cases h2
theorem cut63 (xs : List V) (h : xs.length ≤ 63) : cutV xs none (some 63) = xs := by
  unfold cutV
  rw [HT.sIx_none, show HT.sIx xs.length xs.length (some 63) = min 63 xs.length from HT.sIx_nat xs.length xs.length 63]
  rw [List.drop_zero, Nat.min_eq_right h, Nat.sub_zero, List.take_length]
/-! rows that are drawn from -/
def sPick : D → (D → Prop) → Prop := fun m Q => match seqOf m with | some ds => ds ≠ [] ∧ ds.length ≤ 100000 ∧ ∀ d ∈ ds, Q d | none => False
def sNumber : D → D → (D → Prop) → Prop := fun a b Q => match a, b with | .int lo, .int hi => lo ≤ hi ∧ (-(2 ^ 63) ≤ lo ∧ hi < 2 ^ 63) ∧ ∀ r, lo ≤ r → r ≤ hi → Q (.int r) | _, _ => False
end
/-! defs that show data: no repr runs around them -/
structure FnG (P : Program) (w : World) (K : PySem.W.Frag) (mg : Str → Option Value) (base : Heap) (k : Nat) (f : Addr) (fd : FuncData) (ps : List Str) (sp : Sp) : Prop where
  len : ∀ us H Q E, sp us H Q E → us.length = ps.length
  go : ∀ (A : Around) (outer : List Env) (s : Shared) (H : Hp) (args : Args) (us : List Value) (vs : List V) (Q : VK) (E : XK), Room k A → A.guards = some [] → Env0 P w K mg base A outer s H → BindsTo s fd args (ps.zip us) → Vals vs us → sp vs H Q E →
    codeAny (model P w) A (.call (.ref f) args) (CR CX0 outer P w H s Q E) s
theorem FnG.of {P : Program} {w : World} {K : PySem.W.Frag} {mg : Str → Option Value} {base : Heap} {k : Nat} {f : Addr} {fd : FuncData} {ps : List Str} {sp : Sp} (F : FnOk P w K mg base CX0 k f fd ps sp) : FnG P w K mg base k f fd ps sp :=   ⟨F.len, fun A outer s H args us vs Q E hr _ => F.run A outer s H args us vs Q E hr⟩
section
variable {X : Cx} {k : Nat} {f : Addr} {fd : FuncData} {ps : List Str} {sp : Sp} {x : Str} {p pos : Pos} {e : Expr} {es : List Expr} {t : TA}
theorem go_fnG {pins : List (Addr × Obj)} {σ : L2.St} {H : Hp} {s : Shared} {Q : VK} {us : List Value} {vs : List V} (F : FnG X.prog X.w X.K X.mg X.base k f fd ps sp) (hr : Room k X.A) (gd : X.A.guards = some []) (hb : Binds X.K fd ps [])
    (J : Inv X pins σ H s) (r : Vals vs us) (h : sp vs H Q E0) : wpAny (model X.prog X.w) X.A (call (.ref f) us) (EP X pins σ Q) X.xe s := by
  have hl : (us ++ []).length = ps.length := by rw [List.append_nil, ← r.length]; exact F.len _ _ _ _ h
  have bb := hb s us J.kIn hl
  rw [List.append_nil] at bb
  refine wpAny_call (codeAny_mono (F.go X.A X.stack s H ⟨us, []⟩ us vs Q E0 hr gd J.env0 bb r h) fun rr s' hq => ?_)
  match rr, hq with
  | .error e, hq => exact False.elim hq
  | .ok (.ret u), hq => exact J.after hq
  | .ok .next, hq => cases hq
  | .ok .brk, hq => cases hq
  | .ok .cont, hq => cases hq
theorem pe_callG (F : FnG X.prog X.w X.K X.mg X.base k f fd ps sp) (hr : Room k X.A) (gd : X.A.guards = some []) (hg : Gl X x) (hm : X.mg x = some (.ref f)) (hk : PySem.W.keepIn X.K (.ref f) = true) (hb : Binds X.K fd ps [])
    (ha : PA X (e :: es) t) (hdb : (x == ("__debug__" : Str)) = false := by decide) (he : starEach (e :: es) X.env = (false, eval e X.env) :: starEach es X.env := by rfl) (hpl : (backTo pos (starEach es X.env)).any (·.1) = false := by rfl) :
    PE X (.Call (.Name x p) (e :: es) [] pos) (tCall sp [] E0 t) := ⟨fun pins s σ H Q J h => by
  refine wpAny_Call_Name_kw (ld_glob J hg hm ?_ hdb)
  refine PySem.W.callWith_K (h₀ := X.base) J.ok.mod.kin hk (thn (ha.run pos pins s σ H _ J h) fun us s2 ⟨vs, H2, J2, r2, q2⟩ => ⟨J2.kIn, ?_⟩) he hpl
  have q3 : sp (vs ++ []) H2 Q E0 := q2
  rw [List.append_nil] at q3
  exact go_fnG F hr gd hb J2 r2 q3⟩
end
section
variable {P : Program} {w : World} {K : PySem.W.Frag} {mg : Str → Option Value} {base : Heap}
theorem okG {x qual : Str} {st : Stmt} {f : Addr} {fd : FuncData} {N ps : List Str} {k : Nat} {sp : Sp} (F : Fun K x qual st f fd) (S : FnScope N ps (defScope st)) (len : ∀ us H Q E, sp us H Q E → us.length = ps.length)
    (hbody : ∀ (cdv : Value) (A : Around) (outer : List Env) (s : Shared) (H : Hp) (vs : List V) (Q : VK) (E : XK), Room k (A.deeper (envOfC qual (defScope st) s.heap.objs.size f cdv)) → A.guards = some [] → sp vs H Q E →
      ∃ t, PSs (cxOf CX0 P w K mg base N qual (defScope st) f cdv A outer s H E).nox (defBody st) t ∧ t { nx := fun _ H' => Q .non H', rt := Q } (L2.start N vs) H) : FnG P w K mg base (k + 1) f fd ps sp := by
  obtain ⟨oc, od, kV, doc, pm, an, cdv, ct, osl, rfl, lk, hcd⟩ := F.ex
  refine ⟨len, fun A outer s H args us vs Q E hr gd ee hb r hsp => ?_⟩
  have hl := len _ _ _ _ hsp
  have kin : K.In s.heap := ee.mod.kin.keeps fun b o e => (ee.bs b o e).1
  have nol : s.heap.NoLimit := ee.mod.nolimit.keeps fun b o e => (ee.bs b o e).1
  have kinds : ∀ y ∈ ps.zip us, (defScope st).names.lookup y.1 = some .local ∨ ((defScope st).names.lookup y.1 = some .cell ∧ ((cellsFrom (s.heap.objs.size + 1) (defScope st).names []).lookup y.1).isSome = true) := fun ⟨n, v⟩ hy => by
    rcases S.par n (List.of_mem_zip hy).1 with z | z
    · exact .inl z
    · exact .inr ⟨z, PySem.W.cellsFrom_some _ _ _ (.inl z)⟩
  refine codeAny_call_function hr.depth (kin _ _ lk) rfl S.co S.gen rfl (PySem.W.codeRec_of kin hcd) (hb _ _ _ _ ?_)
  refine wpAny_newFunctionEnv_cells S.kind kinds fun env he s2 y => ?_
  subst he
  refine ⟨nol.keeps y.toInCall.keep, codeAny_func ?_⟩
  obtain ⟨t, ht, hq⟩ := hbody cdv A outer s H vs Q E (hr.deeper _) gd hsp
  have J : Inv (cxOf CX0 P w K mg base N qual (defScope st) f cdv A outer s H E) [] (L2.start N vs) H s2 := inv_start S hr.hd ee hl r y
  refine wpAny_mono (ht.nox.run [] s2 (L2.start N vs) H _ J hq) (fun fl s' hs => ?_) fun e s' hs => hs
  match fl, hs with
  | .ret u, ⟨v, σ', H', J', rv, q⟩ => exact ⟨v, H', J'.os, J'.bare, J'.base, J'.hok, rv, q⟩
  | .next, ⟨σ', H', J', q⟩ => exact ⟨.non, H', J'.os, J'.bare, J'.base, J'.hok, rfl, q⟩
  | .brk, ⟨_, _, _, q⟩ => cases q
  | .cont, ⟨_, _, _, q⟩ => cases q
end
/-- the law's call, where no repr runs around it -/
theorem callG {P : Program} {w : World} {K : PySem.W.Frag} {mg mb : Str → Option Value} {k : Nat} {fa a : Addr} {fd : FuncData} {x : Str} {sp : Sp} {sA : Shared} {us : List Value} {zs : List Int}
    (kin : K.In sA.heap) (hns : sA.heap.Ns mainGlobals mg) (hb : sA.heap.Ns builtinsNs mb) (hbb : ∀ x : Str, x ≠ "__name__" → mb x = bootBuiltins x) (nol : sA.heap.NoLimit) (hg : sA.gens = #[])
    (ha : sA.heap.get? a = some { cls := .type "list", data := .seq us.toArray }) (hi : IntsAre us zs) (hl : zs.length ≤ sizeLine) (hr : Room k callerA)
    (F : ∀ base : Heap, K.In base → base.Ns mainGlobals mg → FnG P w K mg base k fa fd [x] sp) (bnd : ∀ (s : Shared) (u : Value), BindsTo s fd ⟨[u], []⟩ [(x, u)])
    (hsp : ∀ H : Hp, SqL K H a (zs.map V.int) → sp [.ref a] H (fun v _ => v = .bl true) E0) :
    codeAny (model P w) callerA (.call (.ref fa) ⟨[.ref a], []⟩) (fun r s' => r = .ok (.ret (.bool true)) ∧ OldK sA.heap s'.heap ∧ s'.os = sA.os ∧ AllBare s'.gens) sA := by
  have rv := vals_ints hi
  have key : ∀ Hh : Hp, Only Hh → SqL K Hh a (zs.map V.int) → HOk P w Hh sA.heap → (∀ b, Hh b ≠ none → b = a) → (Hh a ≠ none → K.lookup a = none) →
      codeAny (model P w) callerA (.call (.ref fa) ⟨[.ref a], []⟩) (fun r s' => r = .ok (.ret (.bool true)) ∧ OldK sA.heap s'.heap ∧ s'.os = sA.os ∧ AllBare s'.gens) sA := by
    intro Hh hO hS hok hA hK
    have under : ∀ {b : Addr} {o : Obj}, sA.heap.get? b = some o → Hh b = none → (hidT sA.heap Hh).get? b = some o := fun e n => hidT_get e n
    have dictN : ∀ {b : Addr} {o : Obj} {es : Array DictEntry} {ep : Nat}, sA.heap.get? b = some o → o.data = .dict es ep → Hh b = none := fun {b o es ep} e d => Decidable.byContradiction fun z => by
      have e' : b = a := hA b z
      rw [e', ha] at e
      cases e
      cases (show Data.seq us.toArray _ = Data.dict es ep from d)
    have nsU : ∀ {b : Addr} {m : Str → Option Value}, sA.heap.Ns b m → (hidT sA.heap Hh).Ns b m := fun {b m} ⟨o, es, ep, e, d, r⟩ => ⟨o, es, ep, under e (dictN e d), d, r⟩
    have kinU : K.In (hidT sA.heap Hh) := fun b o e => under (kin b o e) (Decidable.byContradiction fun z => by
      have e' : b = a := hA b z
      rw [e', hK (e' ▸ z)] at e
      cases e)
    have md : Mod K mg (hidT sA.heap Hh) := ⟨kinU, nsU hns, ⟨mb, nsU hb, hbb⟩, let ⟨mc, h1, h2⟩ := nol; ⟨mc, nsU h1, h2⟩⟩
    have ee : Env0 P w K mg (hidT sA.heap Hh) callerA [] sA Hh := ⟨rfl, md, fun b o e => of_hidT e, Nat.le_of_eq (hidT_size _ _), trivial, fun b hb => absurd hb (by simp [frs]), hok, .of_eq hg⟩
    refine codeAny_mono ((F _ kinU (nsU hns)).go callerA [] sA Hh ⟨[.ref a], []⟩ [.ref a] [.ref a] _ _ hr rfl ee (bnd sA (.ref a)) (.cons rfl .nil) (hsp Hh hS)) fun r s' h => ?_
    match r, h with
    | .error e, h => cases h
    | .ok .next, h => cases h
    | .ok .brk, h => cases h
    | .ok .cont, h => cases h
    | .ok (.ret u), ⟨v, H', os, bare, un, hok', r', q⟩ =>
      subst q
      obtain rfl : u = Value.bool true := r'
      refine ⟨rfl, OldK.of_keep fun b o e => ?_, os, bare⟩
      cases q : Hh b with
      | none => exact un.keep b o e q (by simp [frs]) (by simp)
      | some u =>
        rcases hO b with z | ⟨ob, xs, z⟩
        · rw [q] at z; cases z
        · have z2 := un.frzs b ob _ z
          obtain ⟨e1, _⟩ := hok b _ z
          obtain ⟨e2, _⟩ := hok' b _ z2
          rw [e] at e1; cases e1
          exact e2
  cases hk : K.lookup a with
  | some o =>
    have e := kin a o hk
    rw [ha] at e
    cases e
    exact key (fun _ => none) (fun _ => .inl rfl) (.inr ⟨_, us.toArray, _, hk, rfl, rfl, rfl, by rw [List.size_toArray, hi.length]; exact hl, by simpa using rv⟩) (fun b u z => by cases (show (none : Option HO) = some u from z)) (fun b z => absurd rfl z) fun z => absurd rfl z
  | none =>
    let Hs : Hp := fun b => if b = a then some (.frz { cls := .type "list", data := .seq us.toArray } (.lst (zs.map V.int))) else none
    have at_a : Hs a = some (.frz { cls := .type "list", data := .seq us.toArray } (.lst (zs.map V.int))) := if_pos rfl
    have off : ∀ {b : Addr}, b ≠ a → Hs b = none := fun h => if_neg h
    refine key Hs (fun b => ?_) (.inl (.inr ⟨_, at_a⟩)) (fun b u z => ?_) (fun b z => Decidable.byContradiction fun h => z (off h)) fun _ => hk
    · by_cases h : b = a
      · exact .inr ⟨_, _, by rw [h]; exact at_a⟩
      · exact .inl (off h)
    · by_cases h : b = a
      · subst h
        rw [at_a] at z
        cases z
        exact ⟨ha, by rw [List.length_map]; exact hl, us, _, rv, ha⟩
      · rw [off h] at z
        cases z
theorem walkG {l : PySem.W.OpenLaw} {k : Nat} {q : Program} {loose : List Str} {XP : (Str → Option Value) → Heap → Prop} {YP : World → Heap → Prop} {d : DefRec} {K : Params → PySem.W.Frag} {x : Str}
    (hn : l.most = some 63) (hdf : d.params.defaults = []) (hr : Room k callerA)
    (hY : ∀ (w : World) (h : Heap), YP w h → (K w.params).In h)
    (F : ∀ (w : World) (mg : Str → Option Value) (fa : Addr) (h : Heap), (K w.params).In h → h.Ns mainGlobals mg → mg d.name = some (.ref fa) →
      ∃ fd : FuncData, (∀ (s : Shared) (u : Value), BindsTo s fd ⟨[u], []⟩ [(x, u)]) ∧
        ∀ base : Heap, (K w.params).In base → base.Ns mainGlobals mg → FnG l.prog w (K w.params) mg base k fa fd [x] (spLaw (K w.params))) :
    PySem.W.WalkO q loose XP YP l.row.toRowW d [] (fun f vs => PySem.call f vs) := by
  refine Att.attach_call hn hdf fun w s0 sA mg mb fa o pm cd doc a us zs G Y ho hd hcd hmg hobj hints hlen hg => ?_
  have kin := hY w _ Y
  obtain ⟨fd, hb, hF⟩ := F w mg fa _ kin G.T.g hmg
  exact callG kin G.T.g G.T.b G.T.builtins G.T.nolimit hg hobj hints (Nat.le_trans hlen (by decide)) hr hF hb fun H hS => ⟨a, zs, rfl, hS, hlen, fun _ => rfl⟩

/-! repr -/
def rRepr (K : PySem.W.Frag) : List V → Hp → VK → Prop := fun xs H Q => ∃ x d, xs = [x] ∧ Dp K H x d ∧ d.showable = true ∧ d.hasDict = false ∧ d.depth ≤ 60 ∧ d.shown.length ≤ sizeLine ∧ Q (.str d.shown) H
theorem cr_repr {X : Cx} (gd : X.A.guards = some []) (hu : X.A.units + 64 < cLine) : CallR X (.builtin "repr") (rRepr X.K) := fun pins s σ H xs us Q J r h => by
  obtain ⟨x, d, rfl, hd, hs, hn, hdep, hsz, q⟩ := h
  obtain ⟨u, rfl, ru⟩ := vals1 r
  have hd' := hd
  cases hd with
  | non => cases (show u = Value.none from ru); exact P.repr_of_none ⟨.str PyData.none.shown, H, J.tok _, ⟨_, rfl⟩, q⟩
  | bl b => cases (show u = Value.bool b from ru); exact P.repr_of_bool ⟨.str (PyData.bool b).shown, H, J.tok _, ⟨_, by cases b <;> rfl⟩, q⟩
  | int i =>
    obtain ⟨t, rfl⟩ := ru
    exact P.repr_of_int (by simpa [PyData.showable] using hs) ⟨.str (PyData.int i).shown, H, J.tok _, ⟨_, rfl⟩, q⟩
  | str z =>
    obtain ⟨t, rfl⟩ := ru
    exact P.repr_of_str ⟨.str (PyData.str z).shown, H, J.tok _, ⟨_, rfl⟩, q⟩ hsz
  | @lst a xs ds hq ha =>
    obtain ⟨as, rd⟩ := Dp.reads J _ _ u hd' ru
    cases (show u = Value.ref a from ru)
    exact repr_of_reads' rd hs (fun z => by rw [hn] at z; cases z) gd (by omega) (fun b o e => e) (fun h' u tk k => ⟨.str (PyData.list ds).shown, H, J.kept k, ⟨_, rfl⟩, q⟩) hsz
  | @tup a xs ds hq ha =>
    obtain ⟨as, rd⟩ := Dp.reads J _ _ u hd' ru
    cases (show u = Value.ref a from ru)
    exact repr_of_reads' rd hs (fun z => by rw [hn] at z; cases z) gd (by omega) (fun b o e => e) (fun h' u tk k => ⟨.str (PyData.tuple ds).shown, H, J.kept k, ⟨_, rfl⟩, q⟩) hsz
/-! the size of data -/
structure Sz (d : D) (k w : Nat) : Prop where
  lay : d.canLay0 = true
  sml : d.intsShort 13 = true
  shw : d.showable = true
  dep : d.depth ≤ k
  wt : d.weight ≤ w
theorem Sz.mono {d : D} {k w k' w' : Nat} (h : Sz d k w) (hk : k ≤ k') (hw : w ≤ w') : Sz d k' w' := ⟨h.lay, h.sml, h.shw, Nat.le_trans h.dep hk, Nat.le_trans h.wt hw⟩
theorem Sz.none : Sz .none 0 0 := ⟨rfl, rfl, rfl, Nat.le_refl _, Nat.le_refl _⟩
theorem Sz.bool (b : Bool) : Sz (.bool b) 0 0 := ⟨rfl, rfl, rfl, Nat.le_refl _, Nat.le_refl _⟩
theorem log2_small {n : Nat} (h : n < 10 ^ 12) : n.log2 < 40 := by
  by_cases hz : n = 0
  · subst hz; decide
  · exact (Nat.log2_lt hz).mpr (Nat.lt_of_lt_of_le h (by decide))
theorem Sz.int {i : Int} (h : i.natAbs < 10 ^ 12) : Sz (.int i) 0 40 := by
  have l := log2_small h
  refine ⟨rfl, by simp only [PyData.intsShort, decide_eq_true_eq]; exact PyData.shown_int_le h, by simp only [PyData.showable, decide_eq_true_eq]; omega, Nat.le_refl _, ?_⟩
  simp only [PyData.weight]
  split <;> omega
theorem Sz.str {z : Str} {n : Nat} (h : PyData.strOk z = true) (hn : z.cps.size ≤ n) : Sz (.str z) 0 n := ⟨by simpa only [PyData.canLay0] using h, rfl, rfl, Nat.le_refl _, by simpa only [PyData.weight] using hn⟩
theorem Sz.all {k w : Nat} : ∀ {ds : List D}, (∀ d ∈ ds, Sz d k w) → PyData.canLayAll0 ds = true ∧ PyData.intsShortAll 13 ds = true ∧ PyData.showableAll ds = true ∧ PyData.depthAll ds ≤ k ∧ PyData.weightAll ds ≤ ds.length * (w + 1)
  | [], _ => ⟨rfl, rfl, rfl, Nat.zero_le _, Nat.zero_le _⟩
  | d :: r, h => by
    obtain ⟨a1, a2, a3, a4, a5⟩ := h d List.mem_cons_self
    obtain ⟨b1, b2, b3, b4, b5⟩ := Sz.all (ds := r) fun e he => h e (List.mem_cons_of_mem _ he)
    refine ⟨by simp only [PyData.canLayAll0, a1, b1, Bool.and_self], by simp only [PyData.intsShortAll, a2, b2, Bool.and_self], by simp only [PyData.showableAll, a3, b3, Bool.and_self], ?_, ?_⟩
    · simp only [PyData.depthAll]; omega
    · simp only [PyData.weightAll, List.length_cons, Nat.add_mul]; omega
theorem Sz.tup {k w n : Nat} {ds : List D} (h : ∀ d ∈ ds, Sz d k w) (hn : ds.length ≤ n) : Sz (.tuple ds) (k + 1) (n * (w + 1)) := by
  obtain ⟨b1, b2, b3, b4, b5⟩ := Sz.all h
  exact ⟨by simpa only [PyData.canLay0] using b1, by simpa only [PyData.intsShort] using b2, by simpa only [PyData.showable] using b3, by simp only [PyData.depth]; omega, by simp only [PyData.weight]; exact Nat.le_trans b5 (Nat.mul_le_mul_right _ hn)⟩
theorem Sz.list {k w n : Nat} {ds : List D} (h : ∀ d ∈ ds, Sz d k w) (hn : ds.length ≤ n) : Sz (.list ds) (k + 1) (n * (w + 1)) := by
  obtain ⟨b1, b2, b3, b4, b5⟩ := Sz.all h
  exact ⟨by simpa only [PyData.canLay0] using b1, by simpa only [PyData.intsShort] using b2, by simpa only [PyData.showable] using b3, by simp only [PyData.depth]; omega, by simp only [PyData.weight]; exact Nat.le_trans b5 (Nat.mul_le_mul_right _ hn)⟩
theorem Sz.ok {d : D} {k w : Nat} (h : Sz d k w) (hk : k ≤ 60 := by decide) : okD d = true := by
  unfold okD SeqAt.shaped
  rw [h.lay, decide_eq_true (show d.depth ≤ 64 from Nat.le_trans h.dep (by omega))]
  rfl
def repOK (d : D) : Prop := ∃ k w, Sz d k w ∧ k ≤ 60 ∧ w ≤ 1048576
theorem Sz.rep {d : D} {k w : Nat} (h : Sz d k w) (hk : k ≤ 60 := by decide) (hw : w ≤ 1048576 := by decide) : repOK d := ⟨k, w, h, hk, hw⟩
theorem repOK.short {d : D} (h : repOK d) : d.shown.length ≤ sizeLine := by
  obtain ⟨k, w, h, hk, hw⟩ := h
  refine PyData.shown_fits_of_layable0 (B := 13) (by decide) (by decide) ?_ h.sml
  show (PyData.canLay0 d && decide (PyData.depth d ≤ 64) && decide (PyData.weight d ≤ 2 ^ 20)) = true
  rw [h.lay, decide_eq_true (show PyData.depth d ≤ 64 from Nat.le_trans h.dep (by omega)), decide_eq_true (show PyData.weight d ≤ 2 ^ 20 from Nat.le_trans h.wt (by omega))]
  rfl
/-- what is shown of data -/
def oRepr : List D → (D → Prop) → Prop := fun xs Q => match xs with | [d] => repOK d ∧ Q (.str d.shown) | _ => False
theorem ro_repr {K : PySem.W.Frag} : RfVL K (rRepr K) oRepr := ⟨fun R h q k => by
  unfold oRepr at q
  split at q
  · rename_i d
    obtain ⟨v, rfl, z⟩ := h.one
    obtain ⟨r, q⟩ := q
    have sh := r.short
    obtain ⟨dp, w, hz, hk, hw⟩ := r
    exact ⟨v, d, rfl, z.dp hz.lay, hz.shw, PyData.hasDict_of_canLay d hz.lay, Nat.le_trans hz.dep hk, sh, k _ _ _ q (stp_refl R) (.str _)⟩
  · exact q.elim⟩
theorem eqv_same {d : D} (h : okD d = true) : PyData.eqv d d = true := SeqAt.eqv_refl d (okD_lay h)
/-! how comprehensions and loops go -/
/-- one turn of a comprehension gives T -/
def Turns (g : D → Ev → (Ev → Prop) → Prop) (c : Ev → (Bool → Prop) → Prop) (e : Ev → (D → Prop) → Prop) (env : Ev) (d : D) (T : Option D → Prop) : Prop :=
  ∀ R : Option D → Prop, (∀ o, T o → R o) → g d env fun env1 => c env1 fun b => if b = true then e env1 fun x => R (some x) else R none
theorem lc_any {g : D → Ev → (Ev → Prop) → Prop} {c : Ev → (Bool → Prop) → Prop} {e : Ev → (D → Prop) → Prop} {env : Ev} (T : D → Option D → Prop) : ∀ {ds : List D} {Q : List D → Prop}, (∀ d ∈ ds, Turns g c e env d (T d)) →
    (∀ os : List (Option D), Paired T ds os → Q (os.filterMap id)) → lcD g c e ds env Q
  | [], Q, _, q => q [] .nil
  | d :: r, Q, h, q => h d List.mem_cons_self (fun o => match o with | some x => lcD g c e r env fun xs => Q (x :: xs) | none => lcD g c e r env Q) fun o t => by
    have ih : ∀ {Q' : List D → Prop}, (∀ os : List (Option D), Paired T r os → Q' (os.filterMap id)) → lcD g c e r env Q' := fun {Q'} q' => lc_any T (fun d' h' => h d' (List.mem_cons_of_mem _ h')) q'
    cases o with
    | some x => exact ih fun os hp => q (some x :: os) (.cons t hp)
    | none => exact ih fun os hp => q (none :: os) (.cons t hp)
theorem lc_fun {α : Type} {g : D → Ev → (Ev → Prop) → Prop} {c : Ev → (Bool → Prop) → Prop} {e : Ev → (D → Prop) → Prop} {env : Ev} (enc : α → D) (f : α → Option D) : ∀ {as : List α} {Q : List D → Prop},
    (∀ a ∈ as, ∀ R : Option D → Prop, R (f a) → g (enc a) env fun env1 => c env1 fun b => if b = true then e env1 fun x => R (some x) else R none) → Q (as.filterMap f) → lcD g c e (as.map enc) env Q
  | [], Q, _, q => q
  | a :: r, Q, h, q => h a List.mem_cons_self (fun o => match o with | some x => lcD g c e (r.map enc) env fun xs => Q (x :: xs) | none => lcD g c e (r.map enc) env Q) (by
    have ih : ∀ {Q' : List D → Prop}, Q' (r.filterMap f) → lcD g c e (r.map enc) env Q' := fun {Q'} q' => lc_fun enc f (fun d' h' => h d' (List.mem_cons_of_mem _ h')) q'
    cases hf : f a with
    | some x =>
      rw [List.filterMap_cons, hf] at q
      exact ih q
    | none =>
      rw [List.filterMap_cons, hf] at q
      exact ih q)
/-- a loop by what holds ahead of each turn -/
theorem loop_by {g : D → Ev → (Ev → Prop) → Prop} {body : DS} {Ed : Dd} (I : List D → Ev → Prop) (hd : ∀ env, I [] env → Ed.nx env)
    (hs : ∀ d r env (N : Ev → Prop), I (d :: r) env → (∀ env', I r env' → N env') → g d env fun env1 => body { nx := N, ct := N, bk := Ed.nx, rt := Ed.rt } env1) : ∀ ds env, I ds env → loopD g body Ed ds env
  | [], env, h => hd env h
  | d :: r, env, h => hs d r env _ h fun env' h' => loop_by I hd hs r env' h'
theorem zip_map {α β : Type} (f : α → D) (h : β → D) : ∀ (as : List α) (bs : List β), zipD (as.map f) (bs.map h) = (as.zip bs).map fun p => PyData.tuple [f p.1, h p.2]
  | [], _ => by simp [zipD]
  | _ :: _, [] => by simp [zipD]
  | a :: r, b :: s => by
    rw [List.map_cons, List.map_cons, List.zip_cons_cons, List.map_cons, zipD, zip_map f h r s]
theorem bools_map {α : Type} (f : α → Bool) : ∀ as : List α, boolsOf (as.map fun a => PyData.bool (f a)) = some (as.map f)
  | [] => rfl
  | a :: r => by
    rw [List.map_cons, boolsOf, bools_map f r]
    rfl
theorem ints_map {α : Type} (f : α → Int) : ∀ as : List α, intsOf (as.map fun a => PyData.int (f a)) = some (as.map f)
  | [] => rfl
  | a :: r => by
    rw [List.map_cons, intsOf, ints_map f r]
    rfl
theorem fm_some {α β : Type} (f : α → β) : ∀ as : List α, as.filterMap (fun a => some (f a)) = as.map f
  | [] => rfl
  | a :: r => by rw [List.filterMap_cons, List.map_cons, fm_some f r]
/-! enumerate of a tuple -/
def IteT (K : PySem.W.Frag) (a : Addr) : It :=
  ⟨fun i H => ∃ (zs : List V) (x : V), SqT K H a zs ∧ zs[i]? = some x, fun i H v H' => ∃ T x, v = .ref T ∧ H T = none ∧ H' = upd H T (.tup [.int (i : Nat), x]) ∧ ∀ zs, SqT K H a zs → zs[i]? = some x, fun i H => ∃ zs : List V, SqT K H a zs ∧ i = zs.length⟩
theorem tupne {h : Heap} {a it : Addr} {i : Nat} {us : Array Value} (p : h.IsTuple a us) (q : h.IsTupleIter it a i) : a ≠ it := by
  rintro rfl
  obtain ⟨o, e1, c1, _⟩ := p
  obtain ⟨o', e2, c2, _⟩ := q
  rw [e1] at e2
  cases e2
  rw [c1] at c2
  exact absurd c2 (by decide +kernel)
theorem enumne {h : Heap} {a e it : Addr} {k : Int} {old : Value} {us : Array Value} (p : h.IsTuple a us) (q : IsEnum h e it k old) : e ≠ a := by
  rintro rfl
  obtain ⟨o, e1, c1, _⟩ := p
  rw [show h.get? e = _ from q] at e1
  cases e1
  exact absurd (show (Value.type "enumerate") = Value.type "tuple" from c1) (by decide +kernel)
theorem turn_enumT {P : Program} {w : World} {K : PySem.W.Frag} {elts : List Expr} {kk : Nat} {tpos : Pos} (a e it : Addr) :
    Turn P w K (.Tuple elts kk tpos) (IteT K a) [e, it] e (fun i h => (∃ old, IsEnum h e it ((i : Nat) : Int) old) ∧ h.IsTupleIter it a i ∧ e ≠ it) where
  mem := List.mem_cons_self
  obj := fun i h st b hb => by
    obtain ⟨⟨old, he⟩, ⟨o, ho, _, hd⟩, _⟩ := st
    simp only [List.mem_cons, List.not_mem_nil, or_false] at hb
    rcases hb with rfl | rfl
    · exact ⟨_, he, fun v z => nomatch z⟩
    · exact ⟨o, ho, fun v z => by rw [hd] at z; cases z⟩
  keep := fun i h h' ⟨⟨old, he⟩, hi, hne⟩ k => ⟨⟨old, k e (by simp) _ he⟩, hi.at fun o z => k it (by simp) o z, hne⟩
  item := by
    intro X hP hw hK hc i pins s σ H E J hf ⟨⟨old, he⟩, hit, hne⟩ ⟨zs, x, hq, hx⟩
    subst hP hw hK
    obtain ⟨its, rv, p, hz⟩ := J.tuple hq
    have p' : s.heap.IsTuple a its.toArray := p
    obtain ⟨u, hu, ru⟩ := rv.get hx
    have hil : i < its.toArray.size := by rw [List.size_toArray]; exact (List.getElem?_eq_some_iff.mp hu).1
    have lt_e : e < s.heap.objs.size := Heap.lt_size he
    have lt_it : it < s.heap.objs.size := by obtain ⟨_, z, _⟩ := hit; exact Heap.lt_size z
    refine wpAny_pyNext_enum_itemD (PySem.Draws.tuple (prog := X.prog) (w := X.w) (A := X.A.in1) (J.ok.hd hc) it a (tupne p' hit) its.toArray) he ⟨hit, p'⟩ hil hne (by simp only [List.mem_cons, List.not_mem_nil, or_false]; exact fun z => z.elim hne (enumne p' he)) fun x' h1 tk px ho st1 hT hsz hk => ?_
    rw [List.getElem?_toArray, hu] at px
    cases px
    refine ⟨_, rfl, wpAny_letOwnedTupleGo_enum (s := { s with heap := h1, toks := tk + 1 }) ho fun h2 he2 sb => ?_⟩
    have hT2 : h2.get? s.heap.objs.size = some { cls := .type "tuple", data := .seq #[.int i tk, u] } := (sb.2 _ (Nat.ne_of_gt lt_e)).trans hT
    have new : ObjOk X.prog X.w (upd H s.heap.objs.size (.tup [.int (i : Nat), x])) h2 s.heap.objs.size (.tup [.int (i : Nat), x]) := ⟨by show 2 ≤ sizeLine; decide, [.int i tk, u], .cons ⟨_, rfl⟩ (.cons ru .nil), ⟨_, hT2, rfl, _, rfl⟩⟩
    have J2 : Inv X pins σ (upd H s.heap.objs.size (.tup [.int (i : Nat), x])) { s with heap := h2, toks := tk + 1 } :=
      J.turnedNew (ch := [e, it]) (fun b ob hb z => (sb.2 b (fun y => hb (by simp [y]))).trans (hk b ob (fun y => hb (by simp [y])) (fun y => hb (by simp [y])) z)) hf (Nat.le_refl _) new
    refine ⟨.ref s.heap.objs.size, _, J2, rfl, ⟨_, x, rfl, J.hok.fresh (Nat.le_refl _), rfl, fun ys hy => by rw [J.tuple_inj hy hq]; exact hx⟩, ⟨⟨u, ?_⟩, st1.1.at fun o z => (sb.2 it (Ne.symm hne)).trans z, hne⟩, fun b hb => ?_⟩
    · rw [show ((i + 1 : Nat) : Int) = (i : Int) + 1 by omega]
      exact he2
    · have lb : b < s.heap.objs.size := by
        simp only [List.mem_cons, List.not_mem_nil, or_false] at hb
        rcases hb with rfl | rfl
        · exact lt_e
        · exact lt_it
      rw [upd_ne (Nat.ne_of_lt lb)]
      exact (hf b hb).1
  done := by
    intro X hP hw hK hc i pins s σ H E J hf ⟨⟨old, he⟩, hit, hne⟩ ⟨zs, hq, hx⟩
    subst hP hw hK
    obtain ⟨its, rv, p, hz⟩ := J.tuple hq
    have p' : s.heap.IsTuple a its.toArray := p
    obtain ⟨f0, f1, f2, f3, f4, f5⟩ := hf it (by simp)
    have hl := rv.length
    obtain rfl : i = its.toArray.size := by rw [List.size_toArray]; omega
    exact wpAny_pyNext_enum_endD (PySem.Draws.tuple (prog := X.prog) (w := X.w) (A := X.A.in1) (J.ok.hd hc) it a (tupne p' hit) its.toArray) he ⟨hit, p'⟩ fun h1 eb => ⟨rfl, J.turned (t' := s.toks) (fun b o hb z => eb b o hb z) f0 f1 f3 f4 f5⟩
  self := fun A i s Q E st h => let ⟨⟨_, he⟩, _⟩ := st; wpAny_pyIter_enum he h
set_option maxHeartbeats 4000000 in
theorem meets_enumT (a : Addr) (us : Array Value) (o : Obj) (hc : o.cls = .type "tuple") (n : Nat) (hd : o.data = .seq us n) :
    Meets (Builtin.«enumerate.__new__» ⟨[.type "enumerate", .ref a], []⟩) (fun _ R s => s.heap.get? a = some o ∧
      R (.ok (.ret (.ref (s.heap.push { cls := .type "tuple_iterator", data := .fields #[.ref a, .int 0 0] }).objs.size)))
        { s with heap := (s.heap.push { cls := .type "tuple_iterator", data := .fields #[.ref a, .int 0 0] }).push { cls := .type "enumerate", data := .fields #[.none, .bool false, .ref s.heap.objs.size, rawInt 0, .none, .none] } }) :=   .of_wp fun prog w A R s ⟨hl, h⟩ => by
    obtain ⟨hp, g, d, tk, os⟩ := s
    obtain ⟨c, dct, dt, sl⟩ := o
    replace hc : c = .type "tuple" := hc
    replace hd : dt = .seq us n := hd
    subst hc hd
    have hsub := sub_enumerate
    have tp : Heap.IsTuple (Shared.heap ⟨hp, g, d, tk, os⟩) a us := ⟨_, hl, rfl, n, rfl⟩
    wp_walk using AutoSeq1.wpAny_loadPart' hl
    refine wpAny_stack_any fun st => wpAny_pure ?_
    split
    · rename_i c2 _ _ _ _ _
      cases (c2 == Value.type "enumerate") <;> (wp_walk using AutoSeq1.wpAny_loadPart' hl, wpAny_pyIter_tuple tp; exact ⟨_, rfl, h⟩)
    · wp_walk using AutoSeq1.wpAny_loadPart' hl, wpAny_pyIter_tuple tp
      exact ⟨_, rfl, h⟩
theorem call_enumT {prog : Program} {w : World} {A : Around} {E : Value → Shared → Prop} {s : Shared} {a : Addr} {us : Array Value} {Q : Value → Shared → Prop} (hT : s.heap.IsTuple a us)
    (h : ∀ h1, IsEnum h1 (s.heap.objs.size + 1) s.heap.objs.size 0 .none → h1.IsTupleIter s.heap.objs.size a 0 → h1.objs.size = s.heap.objs.size + 2 → (∀ b o, s.heap.get? b = some o → h1.get? b = some o) → Q (.ref (s.heap.objs.size + 1)) { s with heap := h1 }) :
    wpAny (model prog w) A (call (.type "enumerate") [.ref a]) Q E s := by
  obtain ⟨o, hl, hc, n, hd⟩ := hT
  refine callType_new F.called_enumerate (by decide) (F.typeCall_enumerate_1 _) (F.newCall_enumerate_1 _) (fun obj => F.args_object_init_2 obj _) F.entry_enumerate_new (meets_enumT a us o hc n hd) ⟨hl, ?_⟩
  have sz : (s.heap.push { cls := .type "tuple_iterator", data := .fields #[.ref a, .int 0 0] }).objs.size = s.heap.objs.size + 1 := Heap.size_push ..
  show _ ∧ _
  rw [sz]
  have new : IsEnum ((s.heap.push { cls := .type "tuple_iterator", data := .fields #[.ref a, .int 0 0] }).push { cls := .type "enumerate", data := .fields #[.none, .bool false, .ref s.heap.objs.size, rawInt 0, .none, .none] }) (s.heap.objs.size + 1) s.heap.objs.size 0 .none := by
    have z := Heap.get?_push_size (s.heap.push { cls := .type "tuple_iterator", data := .fields #[.ref a, .int 0 0] }) (o := { cls := .type "enumerate", data := .fields #[.none, .bool false, .ref s.heap.objs.size, rawInt 0, .none, .none] }) rfl
    rw [sz] at z
    exact z
  exact ⟨⟨_, new, rfl⟩, h _ new ⟨_, Heap.get?_push_of_some _ (Heap.get?_push_size _ rfl), rfl, rfl⟩ (by rw [Heap.size_push, sz]) fun b o z => Heap.get?_push_of_some _ (Heap.get?_push_of_some _ z)⟩
def iEnumT (K : PySem.W.Frag) (ta : TA) : TI := fun σ H R => ta σ H fun vs H1 => ∃ a zs, vs = [.ref a] ∧ SqT K H1 a zs ∧ R (IteT K a) H1
theorem pi_enumT {X : Cx} {e : Expr} {ta : TA} {p pos tpos : Pos} {elts : List Expr} {kk : Nat} (hg : Gl X "enumerate") (hm : X.mg "enumerate" = none) (ha : PA X [e] ta) (hs : starEach [e] X.env = [(false, eval e X.env)] := by rfl) :
    PI X (.Tuple elts kk tpos) (.Call (.Name "enumerate" p) [e] [] pos) (iEnumT X.K ta) := ⟨fun pins s σ H R J h => by
  refine Call_ (ld_blt J hg hm boot_enumerate (PyProof.Rows.callWith_type1 (thn (ha.run pos pins s σ H _ J h) fun us s2 ⟨vs, H2, J2, r2, a, zs, ex, hq, q⟩ => ?_) hs rfl))
  subst ex
  cases r2 with
  | cons r rr =>
    cases rr
    cases r
    obtain ⟨its, rv, p', hz⟩ := J2.tuple hq
    refine call_enumT p' fun h1 he hit hsz hk => wpAny_pyIter_enum he ?_
    have J3 : Inv X pins σ H2 { s2 with heap := h1 } := J2.kept (t' := s2.toks) hk
    refine ⟨s2.heap.objs.size + 1, [s2.heap.objs.size + 1, s2.heap.objs.size], _, _, H2, rfl, J3, turn_enumT a (s2.heap.objs.size + 1) s2.heap.objs.size, ⟨⟨.none, he⟩, hit, Nat.succ_ne_self _⟩, fun b hb => ?_, q⟩
    have hle : s2.heap.objs.size ≤ b := by
      simp only [List.mem_cons, List.not_mem_nil, or_false] at hb
      rcases hb with rfl | rfl
      · exact Nat.le_succ _
      · exact Nat.le_refl _
    exact J2.fpOk hle (J2.hok.fresh hle)⟩
section
variable {K : PySem.W.Frag}
theorem iteT_ok {a : Addr} {xs : List V} {ds : List D} {M : Addr → Prop} {H : Hp} (h : TupAt K H M a xs) (r : RepL K H M ds xs) : ItOk K (IteT K a) (enumD 0 ds) M H := fun M' H' t al i => by
  have g1 := (h.to t).sq
  refine ⟨fun l => ⟨xs, g1, by rw [enumD_len, r.len] at l; exact l⟩, fun d e => ?_⟩
  obtain ⟨x, e1, rfl⟩ := enumD_get e
  obtain ⟨v, ev, rv⟩ := r.get e1
  refine ⟨⟨xs, v, g1, ev⟩, fun x' H2 ⟨T, x1, z1, z2, z3, z4⟩ => ?_⟩
  subst z1 z3
  have w1 := z4 xs g1
  rw [ev] at w1
  cases w1
  rw [Nat.zero_add]
  exact ⟨same_upd z2, pair_rep z2 al (.int _) (Rep.to t rv)⟩
def dEnumT (da : Ev → (List D → Prop) → Prop) : Ev → (List D → Prop) → Prop := fun env Q => da env fun xs => match xs with | [.tuple a] => Q (enumD 0 a) | _ => False
theorem ri_enumT {n : Nat} {t : TA} {da : Ev → (List D → Prop) → Prop} (h : RfN K n t da) : RfI K (iEnumT K t) (dEnumT da) := ⟨fun R q k => h.run R q fun ds vs H1 q1 _ s1 r1 => by
  split at q1
  · cases r1 with | cons h1 r1 =>
    cases r1
    cases h1 with | tup h1 r1 =>
    exact ⟨_, _, rfl, h1.sq, k _ _ _ q1 s1 (iteT_ok h1 r1)⟩
  · exact q1.elim⟩
/-! two names at once, one of them owning a new list -/
def dParO1 (i j : Nat) (df : Ev → (List D → Prop) → Prop) (de : Ev → (D → Prop) → Prop) : DS := fun Ed env => i < env.length ∧ i ≠ j ∧ df env fun ds => de env fun x => Ed.nx (eset (eset env i (some (.own ds))) j (some (.d x)))
/-- a new list is shut while more is made -/
theorem RE.shut {A : Addr → Prop} {st : Option (Addr × Addr)} {ow : Nat → Option Addr} {σ : L2.St} {H H1 : Hp} {env : Ev} (R : RE K A st ow σ H env) (s1 : Stp st H H1) {L : Addr} {vs : List V} (n : H L = none) (e : H1 L = some (.lst vs)) : RE K (fun b => A b ∨ b = L) st ow σ H1 env := by
  have R1 := R.step s1
  refine ⟨R1.ls, fun a z => z.elim (R1.dom a) fun y => (by rw [y, e]; intro z; cases z), fun q z => ⟨.inl (R1.sta q z).1, .inl (R1.sta q z).2⟩, R1.al, fun j a z y => y.elim (R1.na j a z) fun w => R.al j a z (w ▸ n), R1.inj, R1.tie, R1.len, fun j' e' he' => ?_⟩
  obtain ⟨u, hu, rr⟩ := R.sl j' e' he'
  have t : To H H1 (Mo A ow) (Mo (fun b => A b ∨ b = L) ow) := ⟨fun b o x m => ⟨((R.toS s1).h b o x m).1, fun z => by
    rcases z with (z | z) | z
    · exact m (.inl z)
    · rw [z, n] at x; cases x
    · exact m (.inr z)⟩⟩
  refine ⟨u, hu, ?_⟩
  cases e' with
  | d x => exact Rep.to t rr
  | own ds =>
    obtain ⟨a, vs, h1, h2, h3, h4⟩ := rr
    exact ⟨a, vs, h1, h2, s1.k a _ h3 fun z => R.na j' a h1 (R.exA a z), RepL.to t h4⟩
  | odk ds =>
    obtain ⟨a, vs, h1, h2, h3, h4⟩ := rr
    exact ⟨a, vs, h1, h2, s1.k a _ h3 fun z => R.na j' a h1 (R.exA a z), RepK.to t h4⟩
  | st => exact rr
theorem owPut_fr {A : Addr → Prop} {st : Option (Addr × Addr)} {H0 H : Hp} {ow : Nat → Option Addr} {σ : L2.St} {env : Ev} (B : BE K A st H0 ow σ H env) {i : Nat} {L : Addr} (n : H L = none) : ∀ j a, owPut ow i L j = some a → H0 a = none := fun j a h => by
  unfold owPut at h
  split at h
  · cases h
    cases z : H0 L with
    | none => rfl
    | some o => rw [B.kp L o z fun y => B.r.ls.ne L y n] at n; cases n
  · exact B.fr j a h
theorem rs_parO1 (i j : Nat) {ta tb : TE} {df : Ev → (List D → Prop) → Prop} {de : Ev → (D → Prop) → Prop} (h : RfF K ta df) (hb : RfE K tb de) : RfS K (tPar i j (tCons ta (tCons tb tNil))) (dParO1 i j df de) := ⟨fun {A st H0 ow σ H env Ed E} B ⟨hi, hij, q⟩ k =>
  h.run B.r q fun ds L vs H1 q1 s1 n e r => by
    have nL : L ∉ exs st := fun z => B.r.ls.ne L z n
    have SH := B.r.shut s1 n e
    refine hb.run SH q1 fun x v H2 q2 s2 r2 => ?_
    have e2 : H2 L = some (.lst vs) := s2.k L _ e nL
    have s12 := s1.trans s2
    have t1 := own_to B.r s12 i n
    have sub : ∀ b, Mo A (owPut ow i L) b → Mo (fun b => A b ∨ b = L) ow b := fun b z => (owPut_sub z).elim (fun y => y.elim (fun y => .inl (.inl y)) .inr) fun y => .inl (.inr y)
    have r3 : RepL K H2 (Mo A (owPut ow i L)) ds vs := RepL.to ((to_less (M' := Mo (fun b => A b ∨ b = L) ow) fun b z => by
      rcases z with (z | z) | z
      · exact .inl (.inl z)
      · exact .inr z
      · exact .inl (.inr z)).trans ((SH.toS s2).trans (to_less sub))) r
    have B1 : BE K A st H0 (owPut ow i L) (σ.set i (some (.ref L))) H2 (eset env i (some (.own ds))) :=
      ⟨B.r.own s12 i n e2 (en := .own ds) ⟨L, vs, by unfold owPut; rw [if_pos rfl], rfl, e2, r3⟩ (.inl ⟨ds, rfl⟩) hi, B.kp.trans s12.k, owPut_fr B n⟩
    exact ⟨_, _, rfl, k.nx _ _ _ _ q2 (B1.put j (Rep.to (to_less sub) r2)) (t1.trans (to_del _ _ _ _))⟩⟩
def dParO2 (i j : Nat) (de : Ev → (D → Prop) → Prop) (df : Ev → (List D → Prop) → Prop) : DS := fun Ed env => j < env.length ∧ de env fun x => df env fun ds => Ed.nx (eset (eset env i (some (.d x))) j (some (.own ds)))
theorem rs_parO2 (i j : Nat) {ta tb : TE} {df : Ev → (List D → Prop) → Prop} {de : Ev → (D → Prop) → Prop} (h : RfE K ta de) (hb : RfF K tb df) : RfS K (tPar i j (tCons ta (tCons tb tNil))) (dParO2 i j de df) := ⟨fun {A st H0 ow σ H env Ed E} B ⟨hj, q⟩ k =>
  h.run B.r q fun x v H1 q1 s1 r1 => hb.run (B.r.step s1) q1 fun ds L vs H2 q2 s2 n e r => by
    have s12 := s1.trans s2
    have n0 := s1.none n
    have r1' : Rep K H2 (Mo A ow) x v := Rep.to ((B.r.step s1).toS s2) r1
    -- the slot i first
    have B1 := (B.step s1).put i r1
    have t0 : To H H1 (Mo A ow) (Mo A (owDel ow i)) := (B.r.toS s1).trans (to_del _ _ _ _)
    have t1 := own_to B1.r s2 j n
    have subD : ∀ b, Mo A (owDel ow i) b → Mo A ow b := fun b => Mo.sub fun j a e => (owDel_sub e).1
    refine ⟨_, _, rfl, k.nx _ _ _ _ q2 ⟨B1.r.own s2 j n e (en := .own ds) ⟨L, vs, by unfold owPut; rw [if_pos rfl], rfl, e, RepL.to (to_less fun b z => (owPut_sub z).imp (subD b) id) r⟩ (.inl ⟨ds, rfl⟩) (by unfold eset; rw [List.length_set]; exact hj), B1.kp.trans s2.k, owPut_fr B1 n⟩ (t0.trans t1)⟩⟩
end
theorem enum_map {α : Type} (f : α → D) : ∀ (as : List α) (k : Nat), enumD k (as.map f) = (as.zipIdx k).map fun p => PyData.tuple [.int (p.2 : Nat), f p.1]
  | [], _ => rfl
  | a :: r, k => by
    rw [List.map_cons, List.zipIdx_cons, List.map_cons, enumD, enum_map f r (k + 1)]
section
variable {K : PySem.W.Frag}
/-- a written dict of the top, asked by a text -/
def dKd (tab : List (Str × D)) (db : Ev → (D → Prop) → Prop) : Ev → (D → Prop) → Prop := fun env Q => db env fun y => match y with
  | .str z => (match tab.lookup z with | some d => Q d | none => False)
  | _ => False
theorem look_mem {α : Type} : ∀ {tab : List (Str × α)} {z : Str} {d : α}, tab.lookup z = some d → (z, d) ∈ tab
  | [], _, _, h => by cases h
  | (k, e) :: r, z, d, h => by
    rw [List.lookup_cons] at h
    by_cases c : z = k
    · subst c
      simp at h
      subst h
      exact List.mem_cons_self
    · have : (z == k) = false := by simpa using c
      rw [this] at h
      exact List.mem_cons_of_mem _ (look_mem h)
theorem re_kd {w : World} {a : Addr} {tb : TE} {db : Ev → (D → Prop) → Prop} (tab : List (Str × D)) (ht : ∀ p ∈ tab, ∃ v, KDct K w a p.1 v ∧ Sc p.2 v) (hb : RfB K tb db) : RfE K (tOp (rIxD K w) (tC (.ref a)) tb) (dKd tab db) := ⟨fun R q k =>
  hb.run R q fun y u H1 q1 s1 r1 => by
    split at q1
    · rename_i z
      cases r1.str
      split at q1
      · rename_i d e
        obtain ⟨v, h1, h2⟩ := ht _ (look_mem e)
        exact ⟨a, z, v, rfl, rfl, h1, k d v H1 q1 s1 h2.rep⟩
      · exact q1.elim
    · exact q1.elim⟩
end
theorem cut_lo {α : Type} (xs : List α) {i : Int} (h : 0 ≤ i) : cutD xs none (some i) = xs.take i.toNat := by
  obtain ⟨n, rfl⟩ := Int.eq_ofNat_of_zero_le h
  unfold cutD
  rw [HT.sIx_none, HT.sIx_nat, List.drop_zero, Nat.sub_zero]
  by_cases h2 : n ≤ xs.length
  · rw [Nat.min_eq_left h2]; rfl
  · rw [Nat.min_eq_right (by omega), List.take_length]
    exact (List.take_of_length_le (by omega)).symm
theorem cut_hi {α : Type} (xs : List α) {i : Int} (h : 0 ≤ i) : cutD xs (some i) none = xs.drop i.toNat := by
  obtain ⟨n, rfl⟩ := Int.eq_ofNat_of_zero_le h
  unfold cutD
  rw [HT.sIx_none, HT.sIx_nat]
  by_cases h2 : n ≤ xs.length
  · rw [Nat.min_eq_left h2]
    exact List.take_of_length_le (by rw [List.length_drop]; exact Nat.le_refl _)
  · rw [Nat.min_eq_right (by omega), List.drop_length, Nat.sub_self, List.take_zero]
    exact (List.drop_of_length_le (by omega)).symm
theorem set_cut {α : Type} {xs : List α} {n : Nat} {x : α} (h : n < xs.length) : xs.take n ++ [x] ++ xs.drop (n + 1) = xs.set n x := by
  rw [List.set_eq_take_append_cons_drop, if_pos h, List.append_assoc]
  rfl
theorem decT {p : Prop} [Decidable p] (h : p) : decide p = true := decide_eq_true h
/-- a draw -/
theorem rng_eq (n : Nat) : rng 0 n = (List.range n).map fun i => PyData.int (i : Nat) := by
  unfold rng
  simp
theorem rng_1 : rng 0 (Int.toNat 1) = [.int 0] := rfl
theorem rng_2 : rng 0 (Int.toNat 2) = [.int 0, .int 1] := rfl
theorem rng_3 : rng 0 (Int.toNat 3) = [.int 0, .int 1, .int 2] := rfl
theorem rng_4 : rng 0 (Int.toNat 4) = [.int 0, .int 1, .int 2, .int 3] := rfl
theorem rng_6 : rng 0 (Int.toNat 6) = [.int 0, .int 1, .int 2, .int 3, .int 4, .int 5] := rfl
theorem rng_len (n : Nat) : (rng 0 n).length = n := by unfold rng; rw [List.length_map, List.length_range]
/-- one of a written row -/
theorem dix_all {ds : List D} {r : Int} {Q : D → Prop} (h0 : 0 ≤ r) (h1 : r < ds.length) (h : ∀ d ∈ ds, Q d) : match dix ds r with | some d => Q d | none => False := by
  have hl : r.toNat < ds.length := by omega
  rw [dix_nn h0 (List.getElem?_eq_getElem hl)]
  exact h _ (List.getElem_mem hl)
theorem dix_two {a b : D} {r : Int} {Q : D → Prop} (h0 : 0 ≤ r) (h1 : r < 2) (ha : Q a) (hb : Q b) : match dix [a, b] r with | some d => Q d | none => False :=   dix_all h0 h1 fun d h => by simp at h; rcases h with rfl | rfl <;> assumption
theorem dix_three {a b c : D} {r : Int} {Q : D → Prop} (h0 : 0 ≤ r) (h1 : r < 3) (ha : Q a) (hb : Q b) (hc : Q c) : match dix [a, b, c] r with | some d => Q d | none => False :=   dix_all h0 h1 fun d h => by simp at h; rcases h with rfl | rfl | rfl <;> assumption
/-- one of a written row of numbers -/
theorem dix_ints {ns : List Int} {r : Int} {Q : D → Prop} (h0 : 0 ≤ r) (h1 : r < ns.length) (h : ∀ n ∈ ns, Q (.int n)) : match dix (ns.map PyData.int) r with | some d => Q d | none => False :=   dix_all h0 (by rw [List.length_map]; exact h1) fun d hd => by
    obtain ⟨n, hn, rfl⟩ := List.mem_map.mp hd
    exact h n hn
/-- a row that is drawn item by item -/
theorem lc_draws {g : D → Ev → (Ev → Prop) → Prop} {c : Ev → (Bool → Prop) → Prop} {e : Ev → (D → Prop) → Prop} {env : Ev} (T : D → Prop) {ds : List D} {Q : List D → Prop}
    (h : ∀ d ∈ ds, ∀ R : Option D → Prop, (∀ x, T x → R (some x)) → g d env fun env1 => c env1 fun b => if b = true then e env1 fun x => R (some x) else R none)
    (q : ∀ xs : List D, xs.length = ds.length → (∀ x ∈ xs, T x) → Q xs) : lcD g c e ds env Q := by
  refine lc_any (fun _ o => ∃ x, T x ∧ o = some x) (fun d hd R hR => h d hd R fun x tx => hR _ ⟨x, tx, rfl⟩) fun os hp => ?_
  have key : ∀ {ds : List D} {os : List (Option D)}, Paired (fun (_ : D) o => ∃ x, T x ∧ o = some x) ds os → (os.filterMap id).length = ds.length ∧ ∀ x ∈ os.filterMap id, T x := by
    intro ds os hp
    induction hp with
    | nil => exact ⟨rfl, fun _ h => nomatch h⟩
    | cons t _ ih =>
      obtain ⟨x, tx, rfl⟩ := t
      rw [List.filterMap_cons]
      exact ⟨congrArg (· + 1) ih.1, fun y hy => (List.mem_cons.mp hy).elim (fun z => z ▸ tx) (ih.2 y)⟩
  exact q _ (key hp).1 (key hp).2
/-! sizes of written rows -/
theorem szn {k w : Nat} : ∀ d ∈ ([] : List D), Sz d k w := fun _ h => nomatch h
theorem szc {d : D} {ds : List D} {k w : Nat} (h : Sz d k w) (hs : ∀ d ∈ ds, Sz d k w) : ∀ e ∈ d :: ds, Sz e k w := fun e he => (List.mem_cons.mp he).elim (fun z => z ▸ h) (hs e)
theorem sI {i : Int} {k w : Nat} (h1 : -1000000000000 < i) (h2 : i < 1000000000000) (hw : 40 ≤ w := by decide) : Sz (.int i) k w := (Sz.int (by omega)).mono (Nat.zero_le _) hw
theorem sBl {b : Bool} {k w : Nat} : Sz (.bool b) k w := (Sz.bool b).mono (Nat.zero_le _) (Nat.zero_le _)
theorem sNo {k w : Nat} : Sz .none k w := Sz.none.mono (Nat.zero_le _) (Nat.zero_le _)
theorem sS {z : Str} {k w : Nat} (h : (PyData.strOk z && decide (z.cps.size ≤ 40)) = true) (hw : 40 ≤ w := by decide) : Sz (.str z) k w := by
  rw [Bool.and_eq_true] at h
  exact (Sz.str h.1 (of_decide_eq_true h.2)).mono (Nat.zero_le _) hw
theorem sT {ds : List D} {k w n k' w' : Nat} (h : ∀ d ∈ ds, Sz d k w) (hn : ds.length ≤ n) (hk : k + 1 ≤ k' := by decide) (hw : n * (w + 1) ≤ w' := by decide) : Sz (.tuple ds) k' w' := (Sz.tup h hn).mono hk hw
theorem sL {ds : List D} {k w n k' w' : Nat} (h : ∀ d ∈ ds, Sz d k w) (hn : ds.length ≤ n) (hk : k + 1 ≤ k' := by decide) (hw : n * (w + 1) ≤ w' := by decide) : Sz (.list ds) k' w' := (Sz.list h hn).mono hk hw
/-! isinstance of each kind -/
theorem it_bool_none  : isTy "bool" .none = false := by simp [isTy]
theorem it_bool_bool {x : Bool} : isTy "bool" (.bool x) = true := by simp [isTy]
theorem it_bool_int {x : Int} : isTy "bool" (.int x) = false := by simp [isTy]
theorem it_bool_str {x : Str} : isTy "bool" (.str x) = false := by simp [isTy]
theorem it_bool_list {x : List D} : isTy "bool" (.list x) = false := by simp [isTy]
theorem it_bool_tuple {x : List D} : isTy "bool" (.tuple x) = false := by simp [isTy]
theorem it_bool_dict {x : List (D × D)} : isTy "bool" (.dict x) = false := by simp [isTy]
theorem it_int_none  : isTy "int" .none = false := by simp [isTy]
theorem it_int_bool {x : Bool} : isTy "int" (.bool x) = true := by simp [isTy]
theorem it_int_int {x : Int} : isTy "int" (.int x) = true := by simp [isTy]
theorem it_int_str {x : Str} : isTy "int" (.str x) = false := by simp [isTy]
theorem it_int_list {x : List D} : isTy "int" (.list x) = false := by simp [isTy]
theorem it_int_tuple {x : List D} : isTy "int" (.tuple x) = false := by simp [isTy]
theorem it_int_dict {x : List (D × D)} : isTy "int" (.dict x) = false := by simp [isTy]
theorem it_str_none  : isTy "str" .none = false := by simp [isTy]
theorem it_str_bool {x : Bool} : isTy "str" (.bool x) = false := by simp [isTy]
theorem it_str_int {x : Int} : isTy "str" (.int x) = false := by simp [isTy]
theorem it_str_str {x : Str} : isTy "str" (.str x) = true := by simp [isTy]
theorem it_str_list {x : List D} : isTy "str" (.list x) = false := by simp [isTy]
theorem it_str_tuple {x : List D} : isTy "str" (.tuple x) = false := by simp [isTy]
theorem it_str_dict {x : List (D × D)} : isTy "str" (.dict x) = false := by simp [isTy]
theorem it_list_none  : isTy "list" .none = false := by simp [isTy]
theorem it_list_bool {x : Bool} : isTy "list" (.bool x) = false := by simp [isTy]
theorem it_list_int {x : Int} : isTy "list" (.int x) = false := by simp [isTy]
theorem it_list_str {x : Str} : isTy "list" (.str x) = false := by simp [isTy]
theorem it_list_list {x : List D} : isTy "list" (.list x) = true := by simp [isTy]
theorem it_list_tuple {x : List D} : isTy "list" (.tuple x) = false := by simp [isTy]
theorem it_list_dict {x : List (D × D)} : isTy "list" (.dict x) = false := by simp [isTy]
theorem it_tuple_none  : isTy "tuple" .none = false := by simp [isTy]
theorem it_tuple_bool {x : Bool} : isTy "tuple" (.bool x) = false := by simp [isTy]
theorem it_tuple_int {x : Int} : isTy "tuple" (.int x) = false := by simp [isTy]
theorem it_tuple_str {x : Str} : isTy "tuple" (.str x) = false := by simp [isTy]
theorem it_tuple_list {x : List D} : isTy "tuple" (.list x) = false := by simp [isTy]
theorem it_tuple_tuple {x : List D} : isTy "tuple" (.tuple x) = true := by simp [isTy]
theorem it_tuple_dict {x : List (D × D)} : isTy "tuple" (.dict x) = false := by simp [isTy]
theorem it_dict_none  : isTy "dict" .none = false := by simp [isTy]
theorem it_dict_bool {x : Bool} : isTy "dict" (.bool x) = false := by simp [isTy]
theorem it_dict_int {x : Int} : isTy "dict" (.int x) = false := by simp [isTy]
theorem it_dict_str {x : Str} : isTy "dict" (.str x) = false := by simp [isTy]
theorem it_dict_list {x : List D} : isTy "dict" (.list x) = false := by simp [isTy]
theorem it_dict_tuple {x : List D} : isTy "dict" (.tuple x) = false := by simp [isTy]
theorem it_dict_dict {x : List (D × D)} : isTy "dict" (.dict x) = true := by simp [isTy]
theorem eqv_nf {a b : D} (hb : okD b = true) (e : a = b) : ¬ PyData.eqv a b = false := by
  subst e
  rw [eqv_same hb]
  exact Bool.noConfusion
theorem ite_nf {a b : D} {X Y : Prop} (hb : okD b = true) (e : a = b) (h : Y) : if PyData.eqv a b = false then X else Y := by
  rw [if_neg (eqv_nf hb e)]
  exact h
theorem bool_eqv {a b : D} (hb : okD b = true) (e : a = b) : PyData.bool (PyData.eqv a b) = PyData.bool true := by
  subst e
  rw [eqv_same hb]
/-! a list of two new lists, each of which is changed once, at one place -/
def dTwo (i k f : Nat) (dt : Ev → (D → Prop) → Prop) (b : DS) : DS := fun Ed env => isOwn env i = false ∧ i < env.length ∧ k ≠ i ∧ f ≠ i ∧ (match eget env k, eget env f with
  | some (.d x), some (.d (.int n)) => (match seqOf x with
    | some ds => dt (eset env i none) fun y => (match y with
      | .tuple [p, q] => ∃ j, ixN ds.length n = some j ∧ b Ed (eset env i (some (.d (.list [.list (ds.set j p), .list (ds.set j q)]))))
      | _ => False)
    | none => False)
  | _, _ => False)
section
variable {K : PySem.W.Frag}
theorem rs_two (i k f : Nat) {tt : TE} {u : TS} {dt : Ev → (D → Prop) → Prop} {b : DS} (ht : RfE K tt dt) (hu : RfS K u b) :
    RfS K (tSeq (tAsg (tLst (tCons (tCB (fun xs H Q => ∃ p ys, xs = [.ref p] ∧ (SqL K H p ys ∨ SqT K H p ys) ∧ ∀ l, H l = none → Q (.ref l) (upd H l (.lst ys))) (tCons (tVar k) tNil)) (tCons (tCB (fun xs H Q => ∃ p ys, xs = [.ref p] ∧ (SqL K H p ys ∨ SqT K H p ys) ∧ ∀ l, H l = none → Q (.ref l) (upd H l (.lst ys))) (tCons (tVar k) tNil)) tNil))) (gName i))
      (tSeq (tAsg tt (gTup K 2 (gCons (gSub (tOp (rIx K) (tVar i) (tC (.int 0))) (tVar f) rSetL) (gCons (gSub (tOp (rIx K) (tVar i) (tC (.int 1))) (tVar f) rSetL) gNil)))) u)) (dTwo i k f dt b) := ⟨fun {A st H0 ow σ H env Ed E} B q kk => by
  obtain ⟨q0, qi, qk, qf, q⟩ := q
  have R := B.r
  split at q
  · rename_i x n ek ef
    split at q
    · rename_i ds es
      obtain ⟨v, hv, rk⟩ := R.sl k _ (eget_some ek)
      obtain ⟨w, hw, rf⟩ := R.sl f _ (eget_some ef)
      cases rf
      obtain ⟨a, xs, rfl, hs, rl⟩ := (RepB.r (A := A) rk).seq es
      refine ⟨_, hv, a, xs, rfl, hs, fun L0 n0 => ?_⟩
      have s0 : Same H (upd H L0 (.lst xs)) := same_upd n0
      have hs1 : SqL K (upd H L0 (.lst xs)) a xs ∨ SqT K (upd H L0 (.lst xs)) a xs := by
        rcases hs with (h | h) | (h | h)
        · exact .inl (.inl (h.imp (s0 _ _) fun ⟨o, z⟩ => ⟨o, s0 _ _ z⟩))
        · exact .inl (.inr h)
        · exact .inr (.inl (h.imp (s0 _ _) fun ⟨o, z⟩ => ⟨o, s0 _ _ z⟩))
        · exact .inr (.inr h)
      refine ⟨_, hv, a, xs, rfl, hs1, fun L1 n1 => ?_⟩
      have s1 : Same H (upd (upd H L0 (.lst xs)) L1 (.lst xs)) := fun b o e => same_upd n1 b o (s0 b o e)
      have e01 : L1 ≠ L0 := fun z => by rw [z, upd_same] at n1; cases n1
      have n1' : H L1 = none := by rw [upd_ne e01] at n1; exact n1
      refine ⟨Nat.le_of_ble_eq_true rfl, fun L nL => ?_⟩
      have e0L : L ≠ L1 := fun z => by rw [z, upd_same] at nL; cases nL
      have e1L : L ≠ L0 := fun z => by rw [z, upd_ne e01.symm, upd_same] at nL; cases nL
      have nL' : H L = none := by rw [upd_ne e0L, upd_ne e1L] at nL; exact nL
      have s3 : Same H (upd (upd (upd H L0 (.lst xs)) L1 (.lst xs)) L (.lst [.ref L0, .ref L1])) := fun b o e => same_upd nL b o (s1 b o e)
      have hL3 : (upd (upd (upd H L0 (.lst xs)) L1 (.lst xs)) L (.lst [.ref L0, .ref L1])) L = some (.lst [.ref L0, .ref L1]) := upd_same
      have hA3 : (upd (upd (upd H L0 (.lst xs)) L1 (.lst xs)) L (.lst [.ref L0, .ref L1])) L0 = some (.lst xs) := by rw [upd_ne e1L.symm, upd_ne e01.symm, upd_same]
      have hB3 : (upd (upd (upd H L0 (.lst xs)) L1 (.lst xs)) L (.lst [.ref L0, .ref L1])) L1 = some (.lst xs) := by rw [upd_ne e0L.symm, upd_same]
      generalize upd (upd (upd H L0 (.lst xs)) L1 (.lst xs)) L (.lst [.ref L0, .ref L1]) = H3 at s3 hL3 hA3 hB3
      have st3 : Stp st H H3 := .same R.ls s3
      have owi : ow i = none := by
        cases z : ow i with
        | none => rfl
        | some p =>
          unfold isOwn at q0
          rcases R.tie i p z with ⟨ds, e⟩ | ⟨ds, e⟩ <;> (rw [some_eget e] at q0; cases q0)
      have nx : ∀ c, (c = L0 ∨ c = L1 ∨ c = L) → H c = none := by
        rintro c (rfl | rfl | rfl) <;> assumption
      have tA : To H H3 (Mo A ow) (Mo (fun c => A c ∨ (c = L0 ∨ c = L1 ∨ c = L)) ow) := ⟨fun c o e m => ⟨s3 c o e, fun z => by
        rcases z with (z | z) | z
        · exact m (.inl z)
        · rw [nx c z] at e; cases e
        · exact m (.inr z)⟩⟩
      have R3 : RE K (fun c => A c ∨ (c = L0 ∨ c = L1 ∨ c = L)) st ow (σ.set i (some (.ref L))) H3 (eset env i none) := by
        have Rs := R.step st3
        refine ⟨st3.l, fun c hc => ?_, fun z e => ⟨.inl (R.sta z e).1, .inl (R.sta z e).2⟩, Rs.al, fun j c e hc => ?_, R.inj, fun j c e => ?_, by unfold eset; rw [List.length_set, List.length_set]; exact R.len, fun j e he => ?_⟩
        · rcases hc with hc | rfl | rfl | rfl
          · exact Rs.dom c hc
          · rw [hA3]; intro z; cases z
          · rw [hB3]; intro z; cases z
          · rw [hL3]; intro z; cases z
        · rcases hc with hc | hc
          · exact R.na j c e hc
          · exact R.al j c e (nx c hc)
        · have hj : i ≠ j := fun z => by rw [← z, owi] at e; cases e
          unfold eset
          rw [List.getElem?_set_ne hj]
          exact R.tie j c e
        · unfold eset at he
          by_cases hj : i = j
          · subst hj
            rw [List.getElem?_set_self qi] at he
            cases he
          · rw [List.getElem?_set_ne hj] at he
            obtain ⟨y, hy, r⟩ := R.sl j e he
            refine ⟨y, by rw [List.getElem?_set_ne hj]; exact hy, ?_⟩
            cases e with
            | d x => exact Rep.to tA r
            | own es =>
              obtain ⟨c, vs, h1, h2, h3, h4⟩ := r
              exact ⟨c, vs, h1, h2, s3 c _ h3, RepL.to tA h4⟩
            | odk es =>
              obtain ⟨c, vs, h1, h2, h3, h4⟩ := r
              exact ⟨c, vs, h1, h2, s3 c _ h3, RepK.to tA h4⟩
            | st => exact r
      refine ht.run R3 q fun d v H4 q4 s4 r4 => ?_
      split at q4
      · rename_i y p pq
        obtain ⟨j, ej, q5⟩ := q4
        have ex : ∀ c, H c = none → c ∉ exs st := fun c z m => R.ls.ne c m z
        have hL4 : H4 L = some (.lst [.ref L0, .ref L1]) := s4.k _ _ hL3 (ex _ nL')
        have hA4 : H4 L0 = some (.lst xs) := s4.k _ _ hA3 (ex _ n0)
        have hB4 : H4 L1 = some (.lst xs) := s4.k _ _ hB3 (ex _ n1')
        have ilen : i < σ.length := by rw [R.len]; exact qi
        have vi : (σ.set i (some (V.ref L)))[i]? = some (some (.ref L)) := List.getElem?_set_self ilen
        have vf : (σ.set i (some (V.ref L)))[f]? = some (some (.int n)) := by rw [List.getElem?_set_ne qf.symm]; exact hw
        have ej' : ixN xs.length n = some j := by rw [← rl.len]; exact ej
        cases r4 with
        | tup h r =>
        cases r with | cons rp r =>
        cases r with | cons rq r =>
        cases r
        rename_i c vp vq
        refine ⟨c, _, rfl, h.sq, rfl, vp, _, rfl, ?_⟩
        refine ⟨_, vi, .inl ⟨L, _, 0, .ref L0, rfl, rfl, SqL.of hL4, rfl, ?_⟩⟩
        refine ⟨_, vf, L0, xs, n, j, rfl, rfl, hA4, ej', vq, _, rfl, ?_⟩
        have hL5 : (upd H4 L0 (.lst (xs.set j vp))) L = some (.lst [.ref L0, .ref L1]) := by rw [upd_ne e1L]; exact hL4
        have hB5 : (upd H4 L0 (.lst (xs.set j vp))) L1 = some (.lst xs) := by rw [upd_ne e01]; exact hB4
        refine ⟨_, vi, .inl ⟨L, _, 1, .ref L1, rfl, rfl, SqL.of hL5, rfl, ?_⟩⟩
        refine ⟨_, vf, L1, xs, n, j, rfl, rfl, hB5, ej', rfl, ?_⟩
        have hLf : (upd (upd H4 L0 (.lst (xs.set j vp))) L1 (.lst (xs.set j vq))) L = some (.lst [.ref L0, .ref L1]) := by rw [upd_ne e0L]; exact hL5
        have hAf : (upd (upd H4 L0 (.lst (xs.set j vp))) L1 (.lst (xs.set j vq))) L0 = some (.lst (xs.set j vp)) := by rw [upd_ne e01.symm, upd_same]
        have hBf : (upd (upd H4 L0 (.lst (xs.set j vp))) L1 (.lst (xs.set j vq))) L1 = some (.lst (xs.set j vq)) := upd_same
        have oth : ∀ c, c ≠ L0 → c ≠ L1 → (upd (upd H4 L0 (.lst (xs.set j vp))) L1 (.lst (xs.set j vq))) c = H4 c := fun c h0 h1 => by rw [upd_ne h1, upd_ne h0]
        generalize upd (upd H4 L0 (.lst (xs.set j vp))) L1 (.lst (xs.set j vq)) = Hf at hLf hAf hBf oth
        have st4 : Stp st H H4 := st3.trans s4
        have stf : Stp st H Hf := by
          refine ⟨fun c o e m => ?_, fun z e => ?_⟩
          · rw [oth c (fun w => by rw [w, n0] at e; cases e) (fun w => by rw [w, n1'] at e; cases e)]
            exact st4.k c o e m
          · obtain ⟨kk, ns, l1, l2, l3⟩ := st4.l z e
            have d1 : H z.1 ≠ none := R.ls.ne _ (by subst e; simp [exs])
            have d2 : H z.2 ≠ none := R.ls.ne _ (by subst e; simp [exs])
            exact ⟨kk, ns, by rw [oth _ (fun w => d1 (by rw [w]; exact n0)) (fun w => d1 (by rw [w]; exact n1'))]; exact l1, by rw [oth _ (fun w => d2 (by rw [w]; exact n0)) (fun w => d2 (by rw [w]; exact n1'))]; exact l2, l3⟩
        have t4 : To H4 Hf (Mo (fun c => A c ∨ (c = L0 ∨ c = L1 ∨ c = L)) ow) (Mo A ow) := ⟨fun c o e m => by
          have h0 : c ≠ L0 := fun z => m (.inl (.inr (.inl z)))
          have h1 : c ≠ L1 := fun z => m (.inl (.inr (.inr (.inl z))))
          refine ⟨by rw [oth c h0 h1]; exact e, fun z => ?_⟩
          rcases z with z | z
          · exact m (.inl (.inl z))
          · exact m (.inr z)⟩
        have ra : RepL K Hf (Mo A ow) ds xs := RepL.to (R.toS stf) rl
        have rep : Rep K Hf (Mo A ow) (.list [.list (ds.set j p), .list (ds.set j pq)]) (.ref L) :=
          .lst hLf (R.newM nL') (.cons (.lst hAf (R.newM n0) (ra.set j (Rep.to t4 rp))) (.cons (.lst hBf (R.newM n1') (ra.set j (Rep.to t4 rq))) .nil))
        have Bf := (B.step stf).put i rep
        exact hu.run Bf q5 (kk.to ((R.toS stf).trans (to_del Hf A ow i)))
      · exact q4.elim
    · exact q.elim
  · exact q.elim⟩
end
/-! dicts whose keys are ints and texts -/
def keyOf : D → Option Key
  | .int i => some (.inl i)
  | .str s => some (.inr s)
  | _ => none
theorem KeyD.of {k : D} {q : Key} (h : KeyD k q) : keyOf k = some q := by cases h <;> rfl
theorem keyD_of {k : D} {q : Key} (h : keyOf k = some q) : KeyD k q := by
  unfold keyOf at h
  split at h
  · cases h; exact .int _
  · cases h; exact .str _
  · cases h
def lookD : List (D × D) → Key → Option D
  | [], _ => none
  | (k, d) :: r, q => if keyOf k = some q then some d else lookD r q
def anyD (kvs : List (D × D)) (q : Option Key) : Bool := kvs.any fun p => decide (keyOf p.1 = q)
def putD (kvs : List (D × D)) (k d : D) : List (D × D) := if anyD kvs (keyOf k) = true then kvs.map (fun p => if keyOf p.1 = keyOf k then (p.1, d) else p) else kvs ++ [(k, d)]
section
variable {K : PySem.W.Frag} {H : Hp} {A : Addr → Prop}
theorem RepK.len : ∀ {ds : List (D × D)} {us : List (Key × V)}, RepK K H A ds us → ds.length = us.length
  | _, _, .nil => rfl
  | _, _, .cons _ _ r => congrArg (· + 1) r.len
theorem RepK.app : ∀ {ds es : List (D × D)} {us ws : List (Key × V)}, RepK K H A ds us → RepK K H A es ws → RepK K H A (ds ++ es) (us ++ ws)
  | _, _, _, _, .nil, h => h
  | _, _, _, _, .cons k h r, g => .cons k h (r.app g)
theorem RepK.any : ∀ {ds : List (D × D)} {us : List (Key × V)} (q : Key), RepK K H A ds us → anyD ds (some q) = us.any fun kv => decide (kv.1 = q)
  | _, _, _, .nil => rfl
  | _, _, q, .cons (k := k) (q := q') hk _ r => by
    have ih := r.any q
    unfold anyD at ih ⊢
    rw [List.any_cons, List.any_cons, ih, hk.of]
    congr 1
    simp
theorem RepK.setAll : ∀ {ds : List (D × D)} {us : List (Key × V)} {q : Key} {d : D} {v : V}, RepK K H A ds us → Rep K H A d v →
    RepK K H A (ds.map fun p => if keyOf p.1 = some q then (p.1, d) else p) (us.map fun kv => if kv.1 = q then (kv.1, v) else kv)
  | _, _, _, _, _, .nil, _ => .nil
  | _, _, q, d, v, .cons (k := k) (q := q') hk h r, g => by
    have ih := r.setAll (q := q) g
    rw [List.map_cons, List.map_cons]
    by_cases e : q' = q
    · rw [if_pos (by rw [hk.of, e]), if_pos e]
      exact .cons hk g ih
    · rw [if_neg (by rw [hk.of]; exact fun z => e (Option.some.inj z)), if_neg e]
      exact .cons hk h ih
theorem RepK.put {ds : List (D × D)} {us : List (Key × V)} {k d : D} {q : Key} {v : V} (r : RepK K H A ds us) (hk : KeyD k q) (h : Rep K H A d v) : RepK K H A (putD ds k d) (putK us q v) := by
  unfold putD putK
  rw [hk.of, r.any q]
  split
  · exact r.setAll h
  · exact r.app (.cons hk h .nil)
theorem RepK.look : ∀ {ds : List (D × D)} {us : List (Key × V)} (q : Key), RepK K H A ds us → (∀ d, lookD ds q = some d → ∃ v, valV us q = some v ∧ Rep K H A d v) ∧ (lookD ds q = none → valV us q = none)
  | _, _, _, .nil => ⟨fun _ h => (nomatch h), fun _ => rfl⟩
  | _, _, q, .cons (k := k) (d := d0) (q := q') (v := v0) (ds := ds) (us := us) hk h r => by
    have ih := r.look q
    by_cases e : q' = q
    · have e1 : lookD ((k, d0) :: ds) q = some d0 := by unfold lookD; rw [if_pos (by rw [hk.of, e])]
      rw [e1]
      exact ⟨fun d z => ⟨v0, valV_pos e, (Option.some.inj z) ▸ h⟩, fun z => by cases z⟩
    · have e1 : lookD ((k, d0) :: ds) q = lookD ds q := by rw [lookD, if_neg (by rw [hk.of]; exact fun z => e (Option.some.inj z))]
      rw [e1, valV_neg e]
      exact ih
end
theorem putD_len (kvs : List (D × D)) (k d : D) : (putD kvs k d).length ≤ kvs.length + 1 := by
  unfold putD
  split
  · rw [List.length_map]; omega
  · rw [List.length_append]; exact Nat.le_refl _
/-- a term that makes a new dict -/
structure RfK (K : PySem.W.Frag) (t : TE) (df : Ev → (List (D × D) → Prop) → Prop) : Prop where
  run : ∀ {A : Addr → Prop} {st : Option (Addr × Addr)} {ow : Nat → Option Addr} {σ : L2.St} {H : Hp} {env : Ev} {Qd : List (D × D) → Prop} {Q : VK},
  RE K A st ow σ H env → df env Qd → (∀ ds a us H', Qd ds → Stp st H H' → H a = none → H' a = some (.dK us) → RepK K H' (fun b => Mo A ow b ∨ b = a) ds us → Q (.ref a) H') → t σ H Q
def dK (df : Ev → (List (D × D) → Prop) → Prop) : Ev → (D → Prop) → Prop := fun env Q => df env fun ds => Q (.dict ds)
def dcD (g : D → Ev → (Ev → Prop) → Prop) (c : Ev → (Bool → Prop) → Prop) (ek ev : Ev → (D → Prop) → Prop) : List D → Ev → List (D × D) → (List (D × D) → Prop) → Prop
  | [], _, acc, Q => Q acc
  | d :: r, env, acc, Q => g d env fun env1 => c env1 fun b => if b = true then ek env1 fun kd => (keyOf kd).isSome = true ∧ ev env1 fun x => dcD g c ek ev r env (putD acc kd x) Q else dcD g c ek ev r env acc Q
def dDc (vs : List Nat) (di : Ev → (List D → Prop) → Prop) (g : D → Ev → (Ev → Prop) → Prop) (c : Ev → (Bool → Prop) → Prop) (ek ev : Ev → (D → Prop) → Prop) : Ev → (List (D × D) → Prop) → Prop :=
  fun env Q => noOwn vs env = true ∧ di env fun ds => ds.length ≤ 100000 ∧ dcD g c ek ev ds (wipeE env vs) [] Q
section
variable {K : PySem.W.Frag}
theorem RfK.e {t : TE} {df : Ev → (List (D × D) → Prop) → Prop} (h : RfK K t df) : RfE K t (dK df) := ⟨fun R q k => h.run R q fun ds a us H' q' s n e r => k _ _ _ q' s (.dct e (R.newM n) (RepK.to ⟨fun b o x y => ⟨x, fun z => y (.inl z)⟩⟩ r))⟩
theorem rk_dc {vs is : List Nat} {wi : TI} {tg : TG} {tt : TT} {tk tv : TE} {di : Ev → (List D → Prop) → Prop} {g : D → Ev → (Ev → Prop) → Prop} {c : Ev → (Bool → Prop) → Prop} {ek ev : Ev → (D → Prop) → Prop}
    (hi : RfI K wi di) (hg : RfG K is tg g) (hc : RfT K tt c) (hk : RfE K tk ek) (he : RfE K tv ev) (his : ∀ i ∈ is, i ∈ vs := by decide) : RfK K (tDc wi tg tt tk tv vs) (dDc vs di g c ek ev) := ⟨fun {A st ow σ H env Qd Q} R q0 k =>
  hi.run R q0.2 fun ds J H1 ⟨hl, q1⟩ s1 J1 L hL => by
    have hno := R.noOwn q0.1
    have R1 := R.step s1
    have nM := R1.newM hL
    let A' : Addr → Prop := fun a => A a ∨ a = L
    have toA : ∀ {H' : Hp}, To H1 (upd H1 L (.dK [])) (Mo A ow) (Mo A' ow) := new_to hL fun a z => by
      rcases z with (z | z) | z
      · exact .inl (.inl z)
      · exact .inr z
      · exact .inl (.inr z)
    have fw : ∀ a, Mo A ow a → Mo A' ow a := fun a z => z.elim (fun z => .inl (.inl z)) .inr
    have fwL : Mo A' ow L := .inl (.inr rfl)
    refine ⟨fun i m H' => m = ds.length - i ∧ i ≤ ds.length ∧ ∃ acc xs, H' L = some (.dK xs) ∧ xs.length ≤ i ∧ RepK K H' (Mo A' ow) acc xs ∧ RE K A' st ow (wipe σ vs) H' (wipeE env vs) ∧ Keep (exs st) H H' ∧ To H1 H' (Mo A ow) (Mo A' ow) ∧ LSo st H' ∧
      dcD g c ek ev (ds.drop i) (wipeE env vs) acc Qd, ⟨_, rfl, Nat.zero_le _, [], [], upd_same, Nat.zero_le _, .nil, ?_, ?_, toA (H' := H1), ?_, ?_⟩, ?_⟩
    · have RR := (R1.wipes vs hno)
      have S1 : Stp st H1 (upd H1 L (.dK [])) := R1.new hL
      have RS := RR.step S1
      refine ⟨RS.ls, fun a z => ?_, fun z e => ⟨.inl (RS.sta z e).1, .inl (RS.sta z e).2⟩, RS.al, fun j a e z => ?_, RS.inj, RS.tie, RS.len, fun j e' he' => ?_⟩
      · rcases z with z | rfl
        · exact RS.dom a z
        · rw [upd_same]; intro z; cases z
      · rcases z with z | rfl
        · exact RS.na j a e z
        · exact R1.al j _ e hL
      · obtain ⟨v, hv, r⟩ := RR.sl j e' he'
        refine ⟨v, hv, ?_⟩
        have t : To H1 (upd H1 L (.dK [])) (Mo A ow) (Mo A' ow) := toA (H' := H1)
        cases e' with
        | d x => exact Rep.to t r
        | own ds =>
          obtain ⟨a, vs, h1, h2, h3, h4⟩ := r
          exact ⟨a, vs, h1, h2, same_upd hL _ _ h3, RepL.to t h4⟩
        | odk ds =>
          obtain ⟨a, vs, h1, h2, h3, h4⟩ := r
          exact ⟨a, vs, h1, h2, same_upd hL _ _ h3, RepK.to t h4⟩
        | st => exact r
    · exact s1.k.trans fun b o z n => same_upd hL b o z
    · exact s1.l.same (same_upd hL)
    · exact q1
    · rintro i m H' ⟨rfl, hi, acc, xs, hx, hxl, rx, RR, kk, tt', ll, qq⟩
      have al : ∀ a, Mo A' ow a → H' a ≠ none := fun a z => RR.alM z
      by_cases hlt : i < ds.length
      · have eD : ds[i]? = some ds[i] := List.getElem?_eq_getElem hlt
        rw [drop_get eD] at qq
        obtain ⟨go, yl⟩ := (J1 (Mo A' ow) H' tt' al i).2 _ eD
        refine .inr ⟨go, fun H2 => ∃ acc xs, H2 L = some (.dK xs) ∧ xs.length ≤ i + 1 ∧ RepK K H2 (Mo A' ow) acc xs ∧ RE K A' st ow (wipe σ vs) H2 (wipeE env vs) ∧ Keep (exs st) H H2 ∧ To H1 H2 (Mo A ow) (Mo A' ow) ∧ LSo st H2 ∧
          dcD g c ek ev (ds.drop (i + 1)) (wipeE env vs) acc Qd, fun H2 z => ⟨_, by omega, rfl, hlt, z⟩, fun x H2 y => ?_⟩
        obtain ⟨sm, rx1⟩ := yl x H2 y
        have S2 : Stp st H' H2 := .same ll sm
        have RR2 := RR.step S2
        refine hg.run RR2 rx1 qq fun env3 ow3 σ3 q3 R3 sub3 w3 => ⟨(w3 vs his).1.trans wipe_idem, ?_⟩
        have eo : ow = ow3 := funext fun j => by
          by_cases hj : j ∈ vs
          · cases e : ow3 j with
            | none => exact hno j hj
            | some a => exact sub3 j a e
          · exact ((w3 vs his).2 j hj).symm
        subst eo
        refine hc.run R3 q3 fun b H4 q4 s4 => ?_
        have R4 := R3.step s4
        have exL : ∀ a ∈ exs st, a ≠ L := fun a z e' => by
          subst e'
          exact R1.ls.ne _ z hL
        have L4 : H4 L = some (.dK xs) := s4.k L _ (sm L _ hx) fun z => exL L z rfl
        have S4 : Stp st H' H4 := ⟨S2.k.trans s4.k, s4.l⟩
        have RR4 := RR.step S4
        have t4 : To H' H4 (Mo A' ow) (Mo A' ow) := RR.toS S4
        have kH4 : Keep (exs st) H H4 := kk.trans S4.k
        have tH4 : To H1 H4 (Mo A ow) (Mo A' ow) := tt'.trans t4
        cases b with
        | false =>
          rw [if_neg Bool.false_ne_true] at q4 ⊢
          exact ⟨acc, xs, L4, Nat.le_succ_of_le hxl, RepK.to t4 rx, RR4, kH4, tH4, s4.l, q4⟩
        | true =>
          rw [if_pos rfl] at q4 ⊢
          refine hk.run R4 q4 fun kd vk H5 q5 s5 r5 => ?_
          obtain ⟨qk, q5⟩ := q5
          have R5 := R4.step s5
          refine he.run R5 q5 fun d v H6 q6 s6 r6 => ?_
          have L5 : H6 L = some (.dK xs) := s6.k L _ (s5.k L _ L4 fun z => exL L z rfl) fun z => exL L z rfl
          have S5 : Stp st H' H6 := ⟨S4.k.trans (s5.k.trans s6.k), s6.l⟩
          have RR5 := RR.step S5
          have t5 : To H' H6 (Mo A' ow) (Mo A' ow) := RR.toS S5
          have len5 : xs.length < sizeLine := Nat.lt_of_le_of_lt hxl (Nat.lt_of_lt_of_le hlt (Nat.le_trans hl (by decide)))
          have nL5 : ∀ {b : Addr} {o : HO}, H6 b = some o → ¬ Mo A' ow b → b ≠ L := fun _ n z => n (z ▸ fwL)
          obtain ⟨kq, ekq⟩ := Option.isSome_iff_exists.mp qk
          have hkd := keyD_of ekq
          have evk : vk = kV kq := by
            cases hkd with
            | int i => cases r5; rfl
            | str i => cases r5; rfl
          have t6 : To H6 (upd H6 L (.dK (putK xs kq v))) (Mo A' ow) (Mo A' ow) := ⟨fun b o e' n => ⟨by rw [upd_ne (nL5 e' n)]; exact e', n⟩⟩
          have l6 : LSo st (upd H6 L (.dK (putK xs kq v))) := fun z e' => by
            obtain ⟨kk', ns, l1, l2, l3⟩ := s6.l z e'
            have m1 : z.1 ≠ L := exL _ (by subst e'; simp [exs])
            have m2 : z.2 ≠ L := exL _ (by subst e'; simp [exs])
            exact ⟨kk', ns, by rw [upd_ne m1]; exact l1, by rw [upd_ne m2]; exact l2, l3⟩
          have k6 : Keep [L] H6 (upd H6 L (.dK (putK xs kq v))) := fun b o e' n => by
            rw [upd_ne (fun z => n (by rw [z]; simp))]
            exact e'
          refine ⟨xs, kq, evk, L5, len5, putD acc kd d, putK xs kq v, upd_same, Nat.le_trans (length_putK _ _ _) (Nat.succ_le_succ hxl), RepK.to t6 ((RepK.to t5 rx).put hkd r6), ?_, fun b o e' n => ?_, (tt'.trans t5).trans t6, l6, q6⟩
          · refine RR5.keep (ex := [L]) (fun a ha => .inr (by simpa using ha)) k6 l6 fun a ha => ?_
            have : a = L := by simpa using ha
            subst this
            rw [upd_same]; intro z; cases z
          · rw [upd_ne (fun z => by rw [z, s1.none hL] at e'; cases e')]
            exact S5.k b o (kk b o e' n) n
      · have e' : i = ds.length := by omega
        subst e'
        rw [List.drop_length] at qq
        refine .inl ⟨(J1 (Mo A' ow) H' tt' al _).1 rfl, ?_⟩
        exact k acc L xs H' qq ⟨kk, ll⟩ (s1.none hL) hx (RepK.to (to_less fun a z => z.elim (fw a) fun y => y ▸ fwL) rx)⟩
def oLenD : List D → (D → Prop) → Prop := fun xs Q => match xs with | [.dict kvs] => Q (.int kvs.length) | _ => False
theorem ro_lenD : RfVL K (fun xs H Q => ∃ a kvs, xs = [V.ref a] ∧ H a = some (.dK kvs) ∧ Q (.int kvs.length) H) oLenD := ⟨fun R h q k => by
  unfold oLenD at q
  split at q
  · rename_i kvs
    obtain ⟨v, rfl, z⟩ := h.one
    cases z with
    | r z => cases z with | dct e n r => exact ⟨_, _, rfl, e, by rw [← r.len]; exact k _ _ _ q (stp_refl R) (.int _)⟩
    | k e n r => exact ⟨_, _, rfl, e, by rw [← r.len]; exact k _ _ _ q (stp_refl R) (.int _)⟩
  · exact q.elim⟩
end
/-! what a comprehension of a dict tells -/
theorem dc_fun {α : Type} {g : D → Ev → (Ev → Prop) → Prop} {c : Ev → (Bool → Prop) → Prop} {ek ev : Ev → (D → Prop) → Prop} {env : Ev} (enc : α → D) (f : α → Option (D × D)) : ∀ {as : List α} {acc : List (D × D)} {Q : List (D × D) → Prop},
    (∀ a ∈ as, ∀ R : Option (D × D) → Prop, R (f a) → g (enc a) env fun env1 => c env1 fun b => if b = true then ek env1 fun kd => (keyOf kd).isSome = true ∧ ev env1 fun x => R (some (kd, x)) else R none) →
    Q (as.foldl (fun acc a => match f a with | some p => putD acc p.1 p.2 | none => acc) acc) → dcD g c ek ev (as.map enc) env acc Q
  | [], _, _, _, q => q
  | a :: r, acc, Q, h, q => h a List.mem_cons_self (fun o => match o with | some p => dcD g c ek ev (r.map enc) env (putD acc p.1 p.2) Q | none => dcD g c ek ev (r.map enc) env acc Q) (by
    have ih : ∀ {acc' : List (D × D)} {Q' : List (D × D) → Prop}, Q' (r.foldl (fun acc a => match f a with | some p => putD acc p.1 p.2 | none => acc) acc') → dcD g c ek ev (r.map enc) env acc' Q' := fun {acc' Q'} q' => dc_fun enc f (fun d' h' => h d' (List.mem_cons_of_mem _ h')) q'
    rw [List.foldl_cons] at q
    cases hf : f a with
    | some x =>
      rw [hf] at q
      exact ih q
    | none =>
      rw [hf] at q
      exact ih q)
def dkeys (ks : List D) (acc : List (D × D)) : List (D × D) := ks.foldl (fun acc k => putD acc k (.bool true)) acc
theorem anyD_snoc {acc : List (D × D)} {k d : D} {q : Option Key} : anyD (acc ++ [(k, d)]) q = (anyD acc q || decide (keyOf k = q)) := by
  unfold anyD
  rw [List.any_append, List.any_cons, List.any_nil, Bool.or_false]
theorem dkeys_le : ∀ {ks : List D} {acc : List (D × D)}, (dkeys ks acc).length ≤ acc.length + ks.length
  | [], _ => Nat.le_refl _
  | k :: r, acc => by
    have := dkeys_le (ks := r) (acc := putD acc k (.bool true))
    have := putD_len acc k (.bool true)
    rw [List.length_cons]
    show (dkeys r (putD acc k (.bool true))).length ≤ _
    omega
theorem dkeys_nd : ∀ {ks : List D} {acc : List (D × D)}, (dkeys ks acc).length = acc.length + ks.length ↔ (ks.map keyOf).Nodup ∧ ∀ k ∈ ks, anyD acc (keyOf k) = false
  | [], acc => ⟨fun _ => ⟨List.nodup_nil, fun _ h => nomatch h⟩, fun _ => rfl⟩
  | k :: r, acc => by
    show (dkeys r (putD acc k (.bool true))).length = _ ↔ _
    rw [List.length_cons, List.map_cons, List.nodup_cons]
    cases e : anyD acc (keyOf k) with
    | true =>
      have hl : (putD acc k (.bool true)).length = acc.length := by unfold putD; rw [if_pos e, List.length_map]
      have := dkeys_le (ks := r) (acc := putD acc k (.bool true))
      exact ⟨fun z => by omega, fun z => by rw [z.2 k List.mem_cons_self] at e; cases e⟩
    | false =>
      have hp : putD acc k (.bool true) = acc ++ [(k, .bool true)] := by unfold putD; rw [if_neg (by rw [e]; decide)]
      rw [hp]
      have ih := dkeys_nd (ks := r) (acc := acc ++ [(k, .bool true)])
      rw [List.length_append, List.length_singleton, Nat.add_assoc, Nat.add_comm 1] at ih
      rw [ih]
      refine ⟨fun ⟨h1, h2⟩ => ⟨⟨fun z => ?_, h1⟩, fun x hx => ?_⟩, fun ⟨⟨h1, h2⟩, h3⟩ => ⟨h2, fun x hx => ?_⟩⟩
      · obtain ⟨x, hx, ex⟩ := List.mem_map.mp z
        have := h2 x hx
        rw [anyD_snoc, ex, decide_eq_true rfl, Bool.or_true] at this
        cases this
      · rcases List.mem_cons.mp hx with rfl | hx
        · exact e
        · have := h2 x hx
          rw [anyD_snoc, Bool.or_eq_false_iff] at this
          exact this.1
      · rw [anyD_snoc, h3 x (List.mem_cons_of_mem _ hx), Bool.false_or]
        exact decide_eq_false fun z => h1 (List.mem_map.mpr ⟨x, hx, z.symm⟩)
/-- how many keys stand in the dict of some names -/
theorem dkeys_all {ks : List D} : decide (((dkeys ks []).length : Int) = (ks.length : Int)) = decide ((ks.map keyOf).Nodup) := by
  have h := dkeys_nd (ks := ks) (acc := [])
  rw [List.length_nil, Nat.zero_add] at h
  refine decide_eq_decide.mpr ⟨fun z => (h.mp (by omega)).1, fun z => ?_⟩
  have := h.mpr ⟨z, fun _ _ => rfl⟩
  omega
theorem all_id {α : Type} (f : α → Bool) (as : List α) : (as.map f).all id = as.all f := by rw [List.all_map]; rfl
theorem any_id {α : Type} (f : α → Bool) (as : List α) : (as.map f).any id = as.any f := by rw [List.any_map]; rfl
theorem lc_raw {g : D → Ev → (Ev → Prop) → Prop} {c : Ev → (Bool → Prop) → Prop} {e : Ev → (D → Prop) → Prop} {env : Ev} (f : D → Option D) {ds : List D} {Q : List D → Prop}
    (h : ∀ a ∈ ds, ∀ R : Option D → Prop, R (f a) → g a env fun env1 => c env1 fun b => if b = true then e env1 fun x => R (some x) else R none) (q : Q (ds.filterMap f)) : lcD g c e ds env Q := by
  have := lc_fun (g := g) (c := c) (e := e) (env := env) id f (as := ds) (Q := Q) h q
  rw [List.map_id] at this
  exact this
theorem dc_raw {g : D → Ev → (Ev → Prop) → Prop} {c : Ev → (Bool → Prop) → Prop} {ek ev : Ev → (D → Prop) → Prop} {env : Ev} (f : D → Option (D × D)) {ds : List D} {acc : List (D × D)} {Q : List (D × D) → Prop}
    (h : ∀ a ∈ ds, ∀ R : Option (D × D) → Prop, R (f a) → g a env fun env1 => c env1 fun b => if b = true then ek env1 fun kd => (keyOf kd).isSome = true ∧ ev env1 fun x => R (some (kd, x)) else R none)
    (q : Q (ds.foldl (fun acc a => match f a with | some p => putD acc p.1 p.2 | none => acc) acc)) : dcD g c ek ev ds env acc Q := by
  have := dc_fun (g := g) (c := c) (ek := ek) (ev := ev) (env := env) id f (as := ds) (acc := acc) (Q := Q) h q
  rw [List.map_id] at this
  exact this
theorem enum_raw (as : List D) (k : Nat) : enumD k as = (as.zipIdx k).map fun p => PyData.tuple [.int (p.2 : Nat), p.1] := by
  have := enum_map id as k
  rw [List.map_id] at this
  exact this
theorem bT {b : Bool} (h : ¬ b = false) : b = true := by cases b <;> simp_all
theorem bF {b : Bool} (h : ¬ b = true) : b = false := by cases b <;> simp_all
def ix6 (i : Nat) : List D := ((List.range 6).drop i).map fun j => PyData.int (j : Nat)
theorem ix6_0 : [PyData.int 0, PyData.int 1, PyData.int 2, PyData.int 3, PyData.int 4, PyData.int 5] = ix6 0 := rfl
theorem ix6_cons {i : Nat} {d : D} {r : List D} (h : d :: r = ix6 i) : i < 6 ∧ d = .int (i : Nat) ∧ r = ix6 (i + 1) := by
  unfold ix6 at h
  by_cases c : i < 6
  · rw [List.drop_eq_getElem_cons (by rw [List.length_range]; exact c), List.map_cons, List.getElem_range] at h
    cases h
    exact ⟨c, rfl, rfl⟩
  · rw [List.drop_of_length_le (by rw [List.length_range]; omega)] at h
    cases h
theorem ix6_nil {i : Nat} (hi : i ≤ 6) (h : [] = ix6 i) : i = 6 := by
  have := congrArg List.length h
  unfold ix6 at this
  rw [List.length_map, List.length_drop, List.length_range, List.length_nil] at this
  omega
def ixn (n i : Nat) : List D := ((List.range n).drop i).map fun j => PyData.int (j : Nat)
theorem ixn_cons {n i : Nat} {d : D} {r : List D} (h : d :: r = ixn n i) : i < n ∧ d = .int (i : Nat) ∧ r = ixn n (i + 1) := by
  unfold ixn at h
  by_cases c : i < n
  · rw [List.drop_eq_getElem_cons (by rw [List.length_range]; exact c), List.map_cons, List.getElem_range] at h
    cases h
    exact ⟨c, rfl, rfl⟩
  · rw [List.drop_of_length_le (by rw [List.length_range]; omega)] at h
    cases h
theorem ixn_nil {n i : Nat} (hi : i ≤ n) (h : [] = ixn n i) : i = n := by
  have := congrArg List.length h
  unfold ixn at this
  rw [List.length_map, List.length_drop, List.length_range, List.length_nil] at this
  omega
theorem count6 {α : Type} {p : α → Bool} {xs : List α} (h : xs.length = 6) : decide (((((xs.take 6).countP p) : Nat) : Int) = 6) = xs.all p := by
  rw [List.take_of_length_le (by omega), Bool.eq_iff_iff, decide_eq_true_eq, List.all_eq_true]
  have := List.countP_eq_length (p := p) (l := xs)
  rw [h] at this
  rw [← this]
  omega
theorem zip_get {α β : Type} {as : List α} {bs : List β} {i : Nat} {a : α} {b : β} (h1 : as[i]? = some a) (h2 : bs[i]? = some b) : (as.zip bs)[i]? = some (a, b) := by
  rw [List.getElem?_zip_eq_some]
  exact ⟨h1, h2⟩
theorem countP_next {α : Type} {p : α → Bool} {xs : List α} {i : Nat} {x : α} (h : xs[i]? = some x) : (xs.take (i + 1)).countP p = (xs.take i).countP p + (if p x = true then 1 else 0) := by
  rw [List.take_add_one, h, List.countP_append]
  simp only [Option.toList, List.countP_cons, List.countP_nil]
  omega
/-- a written list -/
def dCL (xs : List D) : Ev → (List D → Prop) → Prop := fun _ Q => Q xs
/-! the readings' equations, told so that the kernel goes step by step -/
def q_sTake := fun a0 a1 => propext (Iff.of_eq (@sTake.eq_1 a0 a1))
def q_sTake0 := fun a0 a1 => propext (Iff.of_eq (@sTake0.eq_1 a0 a1))
def q_sPick := fun a0 a1 => propext (Iff.of_eq (@sPick.eq_1 a0 a1))
def q_sNumber := fun a0 a1 a2 => propext (Iff.of_eq (@sNumber.eq_1 a0 a1 a2))
def q_dKd := fun a0 a1 a2 a3 => propext (Iff.of_eq (@dKd.eq_1 a0 a1 a2 a3))
def q_F0 := fun a0 a1 => propext (Iff.of_eq (@F0.eq_1 a0 a1))
def q_F1 := fun a0 a1 a2 => propext (Iff.of_eq (@F1.eq_1 a0 a1 a2))
def q_F2 := fun a0 a1 a2 a3 => propext (Iff.of_eq (@F2.eq_1 a0 a1 a2 a3))
def q_F3 := fun a0 a1 a2 a3 a4 => propext (Iff.of_eq (@F3.eq_1 a0 a1 a2 a3 a4))
def q_F4 := fun a0 a1 a2 a3 a4 a5 => propext (Iff.of_eq (@F4.eq_1 a0 a1 a2 a3 a4 a5))
def q_F5 := fun a0 a1 a2 a3 a4 a5 a6 => propext (Iff.of_eq (@F5.eq_1 a0 a1 a2 a3 a4 a5 a6))
def q_F6 := fun a0 a1 a2 a3 a4 a5 a6 a7 => propext (Iff.of_eq (@F6.eq_1 a0 a1 a2 a3 a4 a5 a6 a7))
def q_dParO1 := fun a0 a1 a2 a3 a4 a5 => propext (Iff.of_eq (@dParO1.eq_1 a0 a1 a2 a3 a4 a5))
def q_dParO2 := fun a0 a1 a2 a3 a4 a5 => propext (Iff.of_eq (@dParO2.eq_1 a0 a1 a2 a3 a4 a5))
def q_dEnumT := fun a0 a1 a2 => propext (Iff.of_eq (@dEnumT.eq_1 a0 a1 a2))
def q_oRepr := fun a0 a1 => propext (Iff.of_eq (@oRepr.eq_1 a0 a1))
def q_dUn := fun a0 a1 a2 a3 => propext (Iff.of_eq (@dUn.eq_1 a0 a1 a2 a3))
def q_oNeg := fun a0 a1 => propext (Iff.of_eq (@oNeg.eq_1 a0 a1))
def q_dSeq := fun a0 a1 a2 a3 => propext (Iff.of_eq (@dSeq.eq_1 a0 a1 a2 a3))
def q_dRet := fun a0 a1 a2 => propext (Iff.of_eq (@dRet.eq_1 a0 a1 a2))
def q_dRetN := fun a0 a1 => propext (Iff.of_eq (@dRetN.eq_1 a0 a1))
def q_dIf := fun a0 a1 a2 a3 a4 => propext (Iff.of_eq (@dIf.eq_1 a0 a1 a2 a3 a4))
def q_dAsg := fun a0 a1 a2 a3 => propext (Iff.of_eq (@dAsg.eq_1 a0 a1 a2 a3))
def q_dDrop := fun a0 a1 a2 => propext (Iff.of_eq (@dDrop.eq_1 a0 a1 a2))
def q_dBreak := fun a0 a1 => propext (Iff.of_eq (@dBreak.eq_1 a0 a1))
def q_dCont := fun a0 a1 => propext (Iff.of_eq (@dCont.eq_1 a0 a1))
def q_dNext := fun a0 a1 => propext (Iff.of_eq (@dNext.eq_1 a0 a1))
def q_dOwn := fun a0 a1 a2 a3 => propext (Iff.of_eq (@dOwn.eq_1 a0 a1 a2 a3))
def q_dApp := fun a0 a1 a2 a3 => propext (Iff.of_eq (@dApp.eq_1 a0 a1 a2 a3))
def q_dSetIx := fun a0 a1 a2 a3 a4 => propext (Iff.of_eq (@dSetIx.eq_1 a0 a1 a2 a3 a4))
def q_dFrz := fun a0 a1 a2 a3 => propext (Iff.of_eq (@dFrz.eq_1 a0 a1 a2 a3))
def q_dPar := fun a0 a1 a2 a3 a4 => propext (Iff.of_eq (@dPar.eq_1 a0 a1 a2 a3 a4))
def q_dAug := fun a0 a1 a2 a3 a4 => propext (Iff.of_eq (@dAug.eq_1 a0 a1 a2 a3 a4))
def q_dFor := fun a0 a1 a2 a3 a4 => propext (Iff.of_eq (@dFor.eq_1 a0 a1 a2 a3 a4))
def q_dN := fun a0 a1 a2 => propext (Iff.of_eq (@dN.eq_1 a0 a1 a2))
def q_dNB := fun a0 a1 a2 => propext (Iff.of_eq (@dNB.eq_1 a0 a1 a2))
def q_dC := fun a0 a1 a2 => propext (Iff.of_eq (@dC.eq_1 a0 a1 a2))
def q_dOp := fun a0 a1 a2 a3 a4 => propext (Iff.of_eq (@dOp.eq_1 a0 a1 a2 a3 a4))
def q_oI := fun a0 a1 a2 a3 a4 => propext (Iff.of_eq (@oI.eq_1 a0 a1 a2 a3 a4))
def q_oI0 := fun a0 a1 a2 a3 => propext (Iff.of_eq (@oI0.eq_1 a0 a1 a2 a3))
def q_oB := fun a0 a1 a2 a3 => propext (Iff.of_eq (@oB.eq_1 a0 a1 a2 a3))
def q_oEq := fun a0 a1 a2 a3 => propext (Iff.of_eq (@oEq.eq_1 a0 a1 a2 a3))
def q_oEqS := fun a0 a1 a2 a3 => propext (Iff.of_eq (@oEqS.eq_1 a0 a1 a2 a3))
def q_oIsN := fun a0 a1 a2 => propext (Iff.of_eq (@oIsN.eq_1 a0 a1 a2))
def q_oIxS := fun a0 a1 a2 => propext (Iff.of_eq (@oIxS.eq_1 a0 a1 a2))
def q_oCat := fun a0 a1 a2 => propext (Iff.of_eq (@oCat.eq_1 a0 a1 a2))
def q_oCatT := fun a0 a1 a2 => propext (Iff.of_eq (@oCatT.eq_1 a0 a1 a2))
def q_oCatS := fun a0 a1 a2 => propext (Iff.of_eq (@oCatS.eq_1 a0 a1 a2))
def q_oIn := fun a0 a1 a2 a3 => propext (Iff.of_eq (@oIn.eq_1 a0 a1 a2 a3))
def q_oInS := fun a0 a1 a2 a3 => propext (Iff.of_eq (@oInS.eq_1 a0 a1 a2 a3))
def q_dTb := fun a0 a1 a2 => propext (Iff.of_eq (@dTb.eq_1 a0 a1 a2))
def q_dAnd := fun a0 a1 a2 a3 => propext (Iff.of_eq (@dAnd.eq_1 a0 a1 a2 a3))
def q_dOr := fun a0 a1 a2 a3 => propext (Iff.of_eq (@dOr.eq_1 a0 a1 a2 a3))
def q_dNot := fun a0 a1 a2 => propext (Iff.of_eq (@dNot.eq_1 a0 a1 a2))
def q_dYes := fun a0 a1 => propext (Iff.of_eq (@dYes.eq_1 a0 a1))
def q_dAndV := fun a0 a1 a2 a3 => propext (Iff.of_eq (@dAndV.eq_1 a0 a1 a2 a3))
def q_dOrV := fun a0 a1 a2 a3 => propext (Iff.of_eq (@dOrV.eq_1 a0 a1 a2 a3))
def q_dNotV := fun a0 a1 a2 => propext (Iff.of_eq (@dNotV.eq_1 a0 a1 a2))
def q_dIfV := fun a0 a1 a2 a3 a4 => propext (Iff.of_eq (@dIfV.eq_1 a0 a1 a2 a3 a4))
def q_dChain := fun a0 a1 a2 a3 a4 a5 a6 => propext (Iff.of_eq (@dChain.eq_1 a0 a1 a2 a3 a4 a5 a6))
def q_dNil := fun a0 a1 => propext (Iff.of_eq (@dNil.eq_1 a0 a1))
def q_dCons := fun a0 a1 a2 a3 => propext (Iff.of_eq (@dCons.eq_1 a0 a1 a2 a3))
def q_dL := fun a0 a1 a2 => propext (Iff.of_eq (@dL.eq_1 a0 a1 a2))
def q_dTup := fun a0 a1 a2 => propext (Iff.of_eq (@dTup.eq_1 a0 a1 a2))
def q_dCB := fun a0 a1 a2 a3 => propext (Iff.of_eq (@dCB.eq_1 a0 a1 a2 a3))
def q_oAbs := fun a0 a1 => propext (Iff.of_eq (@oAbs.eq_1 a0 a1))
def q_oI2 := fun a0 a1 a2 a3 => propext (Iff.of_eq (@oI2.eq_1 a0 a1 a2 a3))
def q_oLen := fun a0 a1 => propext (Iff.of_eq (@oLen.eq_1 a0 a1))
def q_oLenS := fun a0 a1 => propext (Iff.of_eq (@oLenS.eq_1 a0 a1))
def q_oInt := fun a0 a1 => propext (Iff.of_eq (@oInt.eq_1 a0 a1))
def q_oInt_1 := fun a0 a1 => propext (Iff.of_eq (@oInt.eq_2 a0 a1))
def q_oSum := fun a0 a1 => propext (Iff.of_eq (@oSum.eq_1 a0 a1))
def q_oBs := fun a0 a1 a2 => propext (Iff.of_eq (@oBs.eq_1 a0 a1 a2))
def q_oTupOf := fun a0 a1 => propext (Iff.of_eq (@oTupOf.eq_1 a0 a1))
def q_dSeqOf := fun a0 a1 a2 => propext (Iff.of_eq (@dSeqOf.eq_1 a0 a1 a2))
def q_dIsi := fun a0 a1 a2 a3 => propext (Iff.of_eq (@dIsi.eq_1 a0 a1 a2 a3))
def q_dNoP := fun a0 a1 => propext (Iff.of_eq (@dNoP.eq_1 a0 a1))
def q_dPart := fun a0 a1 a2 => propext (Iff.of_eq (@dPart.eq_1 a0 a1 a2))
def q_dSlT := fun a0 a1 a2 a3 a4 => propext (Iff.of_eq (@dSlT.eq_1 a0 a1 a2 a3 a4))
def q_dSlL := fun a0 a1 a2 a3 a4 => propext (Iff.of_eq (@dSlL.eq_1 a0 a1 a2 a3 a4))
def q_dSlS := fun a0 a1 a2 a3 a4 => propext (Iff.of_eq (@dSlS.eq_1 a0 a1 a2 a3 a4))
def q_dCall := fun a0 a1 a2 a3 => propext (Iff.of_eq (@dCall.eq_1 a0 a1 a2 a3))
def q_dCallS := fun a0 a1 a2 a3 a4 => propext (Iff.of_eq (@dCallS.eq_1 a0 a1 a2 a3 a4))
def q_dItL := fun a0 a1 a2 => propext (Iff.of_eq (@dItL.eq_1 a0 a1 a2))
def q_dItT := fun a0 a1 a2 => propext (Iff.of_eq (@dItT.eq_1 a0 a1 a2))
def q_dItS := fun a0 a1 a2 => propext (Iff.of_eq (@dItS.eq_1 a0 a1 a2))
def q_dR1 := fun a0 a1 a2 => propext (Iff.of_eq (@dR1.eq_1 a0 a1 a2))
def q_dR2 := fun a0 a1 a2 => propext (Iff.of_eq (@dR2.eq_1 a0 a1 a2))
def q_dZip := fun a0 a1 a2 => propext (Iff.of_eq (@dZip.eq_1 a0 a1 a2))
def q_dEnum := fun a0 a1 a2 => propext (Iff.of_eq (@dEnum.eq_1 a0 a1 a2))
def q_gN := fun a0 a1 a2 a3 => propext (Iff.of_eq (@gN.eq_1 a0 a1 a2 a3))
def q_gNi := fun a0 a1 => propext (Iff.of_eq (@gNi.eq_1 a0 a1))
def q_gCo := fun a0 a1 a2 a3 a4 a5 => propext (Iff.of_eq (@gCo.eq_1 a0 a1 a2 a3 a4 a5))
def q_gCo_1 := fun a0 a1 a2 a3 => propext (Iff.of_eq (@gCo.eq_2 a0 a1 a2 a3))
def q_gT := fun a0 a1 a2 a3 a4 => propext (Iff.of_eq (@gT.eq_1 a0 a1 a2 a3 a4))
def q_dLc := fun a0 a1 a2 a3 a4 a5 a6 => propext (Iff.of_eq (@dLc.eq_1 a0 a1 a2 a3 a4 a5 a6))
def q_dDc := fun a0 a1 a2 a3 a4 a5 a6 a7 => propext (Iff.of_eq (@dDc.eq_1 a0 a1 a2 a3 a4 a5 a6 a7))
def q_dK := fun a0 a1 a2 => propext (Iff.of_eq (@dK.eq_1 a0 a1 a2))
def q_oLenD := fun a0 a1 => propext (Iff.of_eq (@oLenD.eq_1 a0 a1))
def q_dCL := fun a0 a1 a2 => propext (Iff.of_eq (@dCL.eq_1 a0 a1 a2))
theorem ix_l (ds : List D) (i : Int) (Q : D → Prop) : oIx (.list ds) (.int i) Q = (match dix ds i with | some d => Q d | none => False) := rfl
theorem ix_t (ds : List D) (i : Int) (Q : D → Prop) : oIx (.tuple ds) (.int i) Q = (match dix ds i with | some d => Q d | none => False) := rfl
def q_oIx := fun ds i Q => propext (Iff.of_eq (ix_l ds i Q))
def q_oIx_1 := fun ds i Q => propext (Iff.of_eq (ix_t ds i Q))
theorem tuple_mul1 (l : Addr) (items : Array Value) (n : Nat) (dd : Option Addr) (sl : Array (Option Value)) (u : Tok) :
    Meets (Builtin.«tuple.__mul__» ⟨[.ref l, .int 1 u], []⟩) (fun _ R s => s.heap.get? l = some { cls := .type "tuple", dict := dd, data := .seq items n, slots := sl } ∧ R (.ok (.ret (Value.ref l))) s) :=
  .of_wp fun prog w A R s h => by
    obtain ⟨hp, g, d, tk, os⟩ := s
    obtain ⟨hl, h⟩ := h
    have f1 := AutoSeq1.idx_int
    have c1 : (items.isEmpty || ((1 : Int) == 1)) = true := by cases items.isEmpty <;> rfl
    wp_walk using wpAny_loadPart' hl
    repeat (first
      | (refine wpAny_ite_true (decide_eq_true (by rw [c1])) ?_; wp_walk using wpAny_loadPart' hl)
      | (refine wpAny_ite_false (decide_eq_false (by decide)) ?_; wp_walk using wpAny_loadPart' hl))
    exact ⟨_, rfl, h⟩
theorem tuple_mul0 (l : Addr) (items : Array Value) (n : Nat) (dd : Option Addr) (sl : Array (Option Value)) (u : Tok) (hi : items.isEmpty = false) :
    Meets (Builtin.«tuple.__mul__» ⟨[.ref l, .int 0 u], []⟩) (fun _ R s => s.heap.get? l = some { cls := .type "tuple", dict := dd, data := .seq items n, slots := sl } ∧
      R (.ok (.ret (Value.ref s.heap.objs.size))) { s with heap := s.heap.push { cls := Value.type "tuple", data := Data.seq #[] }, toks := s.toks }) :=
  .of_wp fun prog w A R s h => by
    obtain ⟨hp, g, d, tk, os⟩ := s
    obtain ⟨hl, h⟩ := h
    have f1 := AutoSeq1.idx_int
    have c1 : (items.isEmpty || ((0 : Int) == 1)) = false := by rw [hi]; rfl
    wp_walk using wpAny_loadPart' hl
    exact ⟨_, rfl, h⟩
/-- t * k, any k up to 10000 -/
def rRep2 (K : PySem.W.Frag) : R2 := fun x y H Q => ∃ l k xs, x = .ref l ∧ y = .int k ∧ SqT K H l xs ∧ xs ≠ [] ∧ 0 ≤ k ∧ k ≤ 10000 ∧ xs.length ≤ 100 ∧
  ((k = 1 ∧ Q (.ref l) H) ∨ (k ≠ 1 ∧ ∀ p, H p = none → Q (.ref p) (upd H p (.tup (List.replicate k.toNat xs).flatten))))
theorem op_rep2 {X : Cx} : OpR X (binaryOp .Mult) (rRep2 X.K) := by
  intro pins s σ H x y v u Q I rx ry h
  obtain ⟨l, k, xs, rfl, rfl, hT, hne, h1, h2, hz, q⟩ := h
  cases rx
  obtain ⟨t, rfl⟩ := ry
  obtain ⟨its, r, ⟨⟨cls, dd, data, sl⟩, ho, hc, n, hd⟩, hs⟩ := I.tuple hT
  simp only at hc hd
  subst hc hd
  have hle : its.length = xs.length := r.length.symm
  have hn : its ≠ [] := fun e => hne (by
    rw [e] at hle
    exact List.eq_nil_of_length_eq_zero hle.symm)
  have hi : its.toArray.isEmpty = false := by
    cases its with
    | nil => exact absurd rfl hn
    | cons a b => rfl
  have hsz0 : its.toArray.size = xs.length := by rw [List.size_toArray, hle]
  have hm : ((its.toArray.size : Nat) : Int) * k ≤ 1000000 := by
    rw [hsz0]
    have a1 : ((xs.length : Nat) : Int) * k ≤ 100 * k := Int.mul_le_mul_of_nonneg_right (by omega) (by omega)
    omega
  have flen : (List.replicate k.toNat its).flatten.length ≤ sizeLine := by
    rw [PyProof.Rows.lm_len_rep_flat, hle, sizeLine_eq]
    have a1 : k.toNat * xs.length ≤ 10000 * 100 := Nat.mul_le_mul (by omega) hz
    omega
  have flen2 : (List.replicate k.toNat xs).flatten.length ≤ sizeLine := by
    rw [PyProof.Rows.lm_len_rep_flat, sizeLine_eq]
    have a1 : k.toNat * xs.length ≤ 10000 * 100 := Nat.mul_le_mul (by omega) hz
    omega
  have road : ∀ {C : Value → Shared → Prop} , wpAny (model X.prog X.w) X.A (call (.builtin "tuple.__mul__") [.ref l, .int k t]) C X.xe s → wpAny (model X.prog X.w) X.A (binaryOp .Mult (.ref l) (.int k t)) C X.xe s := fun hw =>
    wpAny_binaryOp_repeat_ref (T := "tuple") (U := "int") (by decide) ⟨_, ho, rfl⟩ (fun s' => typeIs_int s' k t) noFill_tuple_mul F.fills_int_mul F.slot_int_rmul repeat_tuple F.slot_int_index.lookup
      (call_meets F.slot_int_rmul (typeIs_int s k t) F.entry_int_rmul (F.args_int_rmul_2 _ _) (int_rmul_tuple k t l its.toArray n dd sl) ⟨ho, rfl, ⟨_, ho, rfl⟩, hw⟩)
  rcases q with ⟨rfl, q⟩ | ⟨k1, q⟩
  · exact road (call_meets F.slot_tuple_mul ⟨_, ho, rfl⟩ F.entry_tuple_mul (F.args_tuple_mul_2 _ _) (tuple_mul1 l its.toArray n dd sl t) ⟨ho, .ref l, H, I, rfl, q⟩)
  · by_cases k0 : k = 0
    · subst k0
      refine road (call_meets F.slot_tuple_mul ⟨_, ho, rfl⟩ F.entry_tuple_mul (F.args_tuple_mul_2 _ _) (tuple_mul0 l its.toArray n dd sl t hi) ⟨ho, ?_⟩)
      refine ⟨.ref s.heap.objs.size, _, I.laid (t' := s.toks) (o := .tup []) (fun b ob q => Heap.get?_push_of_some _ q) (Nat.le_refl _) ?_, rfl, q _ (I.hok.fresh (Nat.le_refl _))⟩
      exact ⟨Nat.zero_le _, [], .nil, IsTup.new _ _⟩
    · have c0 : (decide (k < -(2 ^ 63)) || decide (k ≥ 2 ^ 63)) = false := by
        rw [decide_eq_false (by omega), decide_eq_false (by omega)] <;> rfl
      have c1 : (its.toArray.isEmpty || k == 1) = false := by
        rw [hi, Bool.false_or]
        exact beq_eq_false_iff_ne.mpr (by omega)
      have c2 : (decide (k ≤ 0) || its.toArray.isEmpty) = false := by
        rw [hi, Bool.or_false]
        exact decide_eq_false (by omega)
      have c4 : Builtin.Tuple.tupleTooMany (((its.toArray.size : Nat) : Int) * k) = false := by
        unfold Builtin.Tuple.tupleTooMany
        rw [sizeLine_eq]
        exact decide_eq_false (by omega)
      refine road (call_meets F.slot_tuple_mul ⟨_, ho, rfl⟩ F.entry_tuple_mul (F.args_tuple_mul_2 _ _) (tuple_mulW l its.toArray n dd sl k t c0 c1 c2 (by omega) c4 (by rw [size_rep, List.size_toArray]; exact flen)) ⟨ho, ?_⟩)
      rw [size_rep]
      refine ⟨.ref s.heap.objs.size, _, I.laid (t' := s.toks) (o := .tup (List.replicate k.toNat xs).flatten) (fun b ob q => Heap.get?_push_of_some _ q) (Nat.le_refl _) ?_, rfl, q _ (I.hok.fresh (Nat.le_refl _))⟩
      exact ⟨flen2, _, r.rep k.toNat, IsTup.new _ _⟩
section
variable {K : PySem.W.Frag}
theorem RepL.rep {H : Hp} {A : Addr → Prop} {ds : List D} {vs : List V} (r : RepL K H A ds vs) : ∀ k : Nat, RepL K H A (List.replicate k ds).flatten (List.replicate k vs).flatten
  | 0 => .nil
  | k + 1 => by
    rw [List.replicate_succ, List.replicate_succ, List.flatten_cons, List.flatten_cons]
    exact r.app (r.rep k)
def oRep : D → D → (D → Prop) → Prop := fun x y Q => match x, y with
  | .list a, .int k => (-(2 ^ 63) ≤ k ∧ k < 2 ^ 63) ∧ a.length * k.toNat ≤ 16777216 ∧ Q (.list (List.replicate k.toNat a).flatten)
  | _, _ => False
theorem rv_rep : RfV2 K rRep oRep := ⟨fun R h1 h2 q k => by
  unfold oRep at q
  split at q
  · obtain ⟨a, xs, rfl, h3, r3⟩ := h1.lst
    cases h2.int
    exact ⟨a, _, xs, rfl, rfl, h3, q.1.1, q.1.2, by rw [← r3.len]; exact Nat.le_trans q.2.1 (by rw [sizeLine_eq]; exact Nat.le_refl _), fun p n => k _ _ _ q.2.2 (R.new n) (R.mkL n (r3.rep _))⟩
  · exact q.elim⟩
def oRepT : D → D → (D → Prop) → Prop := fun x y Q => match x, y with
  | .tuple a, .int k => a ≠ [] ∧ (0 ≤ k ∧ k ≤ 10000) ∧ a.length ≤ 100 ∧ Q (.tuple (List.replicate k.toNat a).flatten)
  | _, _ => False
theorem rv_repT : RfV2 K (rRep2 K) oRepT := ⟨fun {A st ow σ H env x y v u Qd Q} R h1 h2 q k => by
  unfold oRepT at q
  split at q
  · rename_i ds n
    obtain ⟨a, xs, rfl, h3, r3⟩ := h1.tup
    cases h2.int
    obtain ⟨q1, q2, q3, q4⟩ := q
    refine ⟨a, n, xs, rfl, rfl, h3.sq, fun e => q1 (r3.nil_iff e), q2.1, q2.2, by rw [← r3.len]; exact q3, ?_⟩
    by_cases e : n = 1
    · subst e
      refine .inl ⟨rfl, k _ _ _ q4 (stp_refl R) (.tup h3 ?_)⟩
      show RepL K H (Mo A ow) (ds ++ []) xs
      rw [List.append_nil]
      exact r3
    · exact .inr ⟨e, fun p n => k _ _ _ q4 (R.new n) (R.mkT n (r3.rep _))⟩
  · exact q.elim⟩
end
theorem oRep_l (a : List D) (k : Int) (Q : D → Prop) : oRep (.list a) (.int k) Q = ((-(2 ^ 63) ≤ k ∧ k < 2 ^ 63) ∧ a.length * k.toNat ≤ 16777216 ∧ Q (.list (List.replicate k.toNat a).flatten)) := rfl
theorem oRep_t (a : List D) (k : Int) (Q : D → Prop) : oRepT (.tuple a) (.int k) Q = (a ≠ [] ∧ (0 ≤ k ∧ k ≤ 10000) ∧ a.length ≤ 100 ∧ Q (.tuple (List.replicate k.toNat a).flatten)) := rfl
def q_oRep := fun a k Q => propext (Iff.of_eq (oRep_l a k Q))
def q_oRepT := fun a k Q => propext (Iff.of_eq (oRep_t a k Q))
/-! a part of a block, and what holds behind it -/
theorem seq_mid1 {a r : DS} {Ed : Dd} {env : Ev} (I : Ev → Prop) (h1 : ∀ N : Ev → Prop, (∀ e, I e → N e) → a { Ed with nx := N } env) (h2 : ∀ e, I e → r Ed e) : dSeq a r Ed env := h1 _ h2
theorem seq_mid2 {a b r : DS} {Ed : Dd} {env : Ev} (I : Ev → Prop) (h1 : ∀ N : Ev → Prop, (∀ e, I e → N e) → dSeq a b { Ed with nx := N } env) (h2 : ∀ e, I e → r Ed e) : dSeq a (dSeq b r) Ed env := h1 _ h2
theorem seq_mid3 {a b c r : DS} {Ed : Dd} {env : Ev} (I : Ev → Prop) (h1 : ∀ N : Ev → Prop, (∀ e, I e → N e) → dSeq a (dSeq b c) { Ed with nx := N } env) (h2 : ∀ e, I e → r Ed e) : dSeq a (dSeq b (dSeq c r)) Ed env := h1 _ h2
theorem seq_mid4 {a b c d r : DS} {Ed : Dd} {env : Ev} (I : Ev → Prop) (h1 : ∀ N : Ev → Prop, (∀ e, I e → N e) → dSeq a (dSeq b (dSeq c d)) { Ed with nx := N } env) (h2 : ∀ e, I e → r Ed e) : dSeq a (dSeq b (dSeq c (dSeq d r))) Ed env := h1 _ h2
theorem seq_mid5 {a b c d f r : DS} {Ed : Dd} {env : Ev} (I : Ev → Prop) (h1 : ∀ N : Ev → Prop, (∀ e, I e → N e) → dSeq a (dSeq b (dSeq c (dSeq d f))) { Ed with nx := N } env) (h2 : ∀ e, I e → r Ed e) : dSeq a (dSeq b (dSeq c (dSeq d (dSeq f r)))) Ed env := h1 _ h2
theorem ints_of : ∀ {ds : List D}, (∀ d ∈ ds, ∃ n : Int, d = .int n) → ∃ ns : List Int, ds = ns.map PyData.int
  | [], _ => ⟨[], rfl⟩
  | d :: r, h => by
    obtain ⟨n, rfl⟩ := h d List.mem_cons_self
    obtain ⟨ns, rfl⟩ := ints_of (ds := r) fun e he => h e (List.mem_cons_of_mem _ he)
    exact ⟨n :: ns, rfl⟩
theorem ixN_nat {n i : Nat} (h : i < n) : ixN n (i : Int) = some i := by
  unfold ixN
  rw [if_pos (by omega), if_pos (by omega), Int.toNat_natCast]
/-- None, truths, numbers, texts -/
def flt1 : V → Bool
  | .non => true | .bl _ => true | .int _ => true | .str z => PyData.strOk z | _ => false
/-- x and y are the same data, at most n deep -/
def Sm (K : PySem.W.Frag) (H : Hp) : Nat → V → V → Prop
  | 0, x, y => x = y ∧ flt1 x = true
  | n + 1, x, y => (x = y ∧ flt1 x = true) ∨ ∃ (a b : Addr) (xs ys : List V), x = .ref a ∧ y = .ref b ∧ ((SqL K H a xs ∧ SqL K H b ys) ∨ (SqT K H a xs ∧ SqT K H b ys)) ∧ xs.length = ys.length ∧ xs.length ≤ 100000 ∧
      ∀ (i : Nat) (u v : V), xs[i]? = some u → ys[i]? = some v → Sm K H n u v
theorem sqT_same {K : PySem.W.Frag} {H H' : Hp} {a : Addr} {xs : List V} (e : Same H H') (h : SqT K H a xs) : SqT K H' a xs := by
  rcases h with (h | ⟨o, h⟩) | h
  · exact .inl (.inl (e _ _ h))
  · exact .inl (.inr ⟨o, e _ _ h⟩)
  · exact .inr h
theorem Sm.same {K : PySem.W.Frag} {H H' : Hp} (e : Same H H') : ∀ {n : Nat} {x y : V}, Sm K H n x y → Sm K H' n x y
  | 0, _, _, h => h
  | n + 1, _, _, .inl h => .inl h
  | n + 1, _, _, .inr ⟨a, b, xs, ys, h1, h2, h3, h4, h5, h6⟩ => .inr ⟨a, b, xs, ys, h1, h2, (match h3 with
      | .inl z => .inl ⟨e.seq z.1, e.seq z.2⟩
      | .inr z => .inr ⟨sqT_same e z.1, sqT_same e z.2⟩), h4, h5, fun i u v hu hv => Sm.same e (h6 i u v hu hv)⟩
theorem Sm.flat {K : PySem.W.Frag} {H : Hp} {n : Nat} {x : V} (h : flt1 x = true) : Sm K H n x x := by
  cases n with
  | zero => exact ⟨rfl, h⟩
  | succ n => exact .inl ⟨rfl, h⟩
theorem tyx_L {K : PySem.W.Frag} {H : Hp} {a : Addr} {xs : List V} (h : SqL K H a xs) : TyX K H (.ref a) (.type "list") := by
  rcases h with (h | ⟨o, h⟩) | ⟨o, its, n, h1, h2, h3⟩
  · exact .base (.lst h)
  · exact .base (.frz h)
  · exact .kList h1 h2
theorem tyx_T {K : PySem.W.Frag} {H : Hp} {a : Addr} {xs : List V} (h : SqT K H a xs) : TyX K H (.ref a) (.type "tuple") := by
  rcases h with (h | ⟨o, h⟩) | ⟨o, its, n, h1, h2, h3⟩
  · exact .base (.tup h)
  · exact .fTuple h
  · exact .kTuple h1 h2
theorem kt {K : PySem.W.Frag} (a b : String) {r : Bool} (h : kitB a b = some r) : PySem.W.kitOne K (.type a) (.type b) = some r := h
theorem k_ib {K : PySem.W.Frag} : PySem.W.kitOne K (.type "int") (.type "bool") = some false := kt _ _ (by decide +kernel)
theorem k_is {K : PySem.W.Frag} : PySem.W.kitOne K (.type "int") (.type "str") = some false := kt _ _ (by decide +kernel)
theorem k_ii {K : PySem.W.Frag} : PySem.W.kitOne K (.type "int") (.type "int") = some true := kt _ _ (by decide +kernel)
theorem k_bb {K : PySem.W.Frag} : PySem.W.kitOne K (.type "bool") (.type "bool") = some true := kt _ _ (by decide +kernel)
theorem k_bs {K : PySem.W.Frag} : PySem.W.kitOne K (.type "bool") (.type "str") = some false := kt _ _ (by decide +kernel)
theorem k_sb {K : PySem.W.Frag} : PySem.W.kitOne K (.type "str") (.type "bool") = some false := kt _ _ (by decide +kernel)
theorem k_ss {K : PySem.W.Frag} : PySem.W.kitOne K (.type "str") (.type "str") = some true := kt _ _ (by decide +kernel)
theorem k_lb {K : PySem.W.Frag} : PySem.W.kitOne K (.type "list") (.type "bool") = some false := kt _ _ (by decide +kernel)
theorem k_ls {K : PySem.W.Frag} : PySem.W.kitOne K (.type "list") (.type "str") = some false := kt _ _ (by decide +kernel)
theorem k_li {K : PySem.W.Frag} : PySem.W.kitOne K (.type "list") (.type "int") = some false := kt _ _ (by decide +kernel)
theorem k_ld {K : PySem.W.Frag} : PySem.W.kitOne K (.type "list") (.type "dict") = some false := kt _ _ (by decide +kernel)
theorem k_lt {K : PySem.W.Frag} : PySem.W.kitOne K (.type "list") (.type "tuple") = some false := kt _ _ (by decide +kernel)
theorem k_ll {K : PySem.W.Frag} : PySem.W.kitOne K (.type "list") (.type "list") = some true := kt _ _ (by decide +kernel)
theorem k_tb {K : PySem.W.Frag} : PySem.W.kitOne K (.type "tuple") (.type "bool") = some false := kt _ _ (by decide +kernel)
theorem k_ts {K : PySem.W.Frag} : PySem.W.kitOne K (.type "tuple") (.type "str") = some false := kt _ _ (by decide +kernel)
theorem k_ti {K : PySem.W.Frag} : PySem.W.kitOne K (.type "tuple") (.type "int") = some false := kt _ _ (by decide +kernel)
theorem k_td {K : PySem.W.Frag} : PySem.W.kitOne K (.type "tuple") (.type "dict") = some false := kt _ _ (by decide +kernel)
theorem k_tt {K : PySem.W.Frag} : PySem.W.kitOne K (.type "tuple") (.type "tuple") = some true := kt _ _ (by decide +kernel)
theorem k_tl {K : PySem.W.Frag} : PySem.W.kitOne K (.type "tuple") (.type "list") = some false := kt _ _ (by decide +kernel)
theorem ka2 {K : PySem.W.Frag} {t c d : Value} {x y : Bool} (h1 : PySem.W.kitOne K t c = some x) (h2 : PySem.W.kitOne K t d = some y) : PySem.W.kitAny K t [c, d] = some (x || y) := by
  unfold PySem.W.kitAny
  rw [h1]
  cases x with
  | true => rfl
  | false =>
    show PySem.W.kitAny K t [d] = _
    unfold PySem.W.kitAny
    rw [h2]
    cases y <;> rfl
def spSame (K : PySem.W.Frag) (n : Nat) : Sp := fun vs H Q _ => ∃ (x y : V), vs = [x, y] ∧ Sm K H n x y ∧ ∀ (H' : Hp), Same H H' → Q (.bl true) H'
theorem Sm.eq {K : PySem.W.Frag} {H : Hp} {n : Nat} {x y : V} (e : x = y) (h : flt1 x = true) : Sm K H n x y := e ▸ Sm.flat h
theorem Sm.lst {K : PySem.W.Frag} {H : Hp} {n : Nat} {a b : Addr} {xs : List V} (ha : SqL K H a xs) (hb : SqL K H b xs) (hf : ∀ x ∈ xs, flt1 x = true) (hl : xs.length ≤ 100000) : Sm K H (n + 1) (.ref a) (.ref b) :=
  .inr ⟨a, b, xs, xs, rfl, rfl, .inl ⟨ha, hb⟩, rfl, hl, fun i u v hu hv => by
    rw [hu] at hv
    cases hv
    exact Sm.flat (hf u (List.mem_of_getElem? hu))⟩
theorem Sm.tup {K : PySem.W.Frag} {H : Hp} {n : Nat} {a b : Addr} {xs : List V} (ha : SqT K H a xs) (hb : SqT K H b xs) (hf : ∀ x ∈ xs, flt1 x = true) (hl : xs.length ≤ 100000) : Sm K H (n + 1) (.ref a) (.ref b) :=
  .inr ⟨a, b, xs, xs, rfl, rfl, .inr ⟨ha, hb⟩, rfl, hl, fun i u v hu hv => by
    rw [hu] at hv
    cases hv
    exact Sm.flat (hf u (List.mem_of_getElem? hu))⟩
theorem ix_sq {K : PySem.W.Frag} {H : Hp} {a : Addr} {xs : List V} {i : Int} {v : V} {Q : VK} (h : SqL K H a xs ∨ SqT K H a xs) (hi : atI xs i = some v) (q : Q v H) : rIx K (.ref a) (.int i) H Q := by
  rcases h with h | h
  · exact .inl ⟨a, xs, i, v, rfl, rfl, h, hi, q⟩
  · exact .inr (.inl ⟨a, xs, i, v, rfl, rfl, h, hi, q⟩)
/-- two lists, or two tuples, of the same data -/
def spSeq (K : PySem.W.Frag) (n : Nat) : Sp := fun vs H Q _ => ∃ (a b : Addr) (xs ys : List V), vs = [.ref a, .ref b] ∧ ((SqL K H a xs ∧ SqL K H b ys) ∨ (SqT K H a xs ∧ SqT K H b ys)) ∧ xs.length = ys.length ∧ xs.length ≤ 100000 ∧
  (∀ (i : Nat) (u v : V), xs[i]? = some u → ys[i]? = some v → Sm K H n u v) ∧ ∀ (H' : Hp), Same H H' → Q (.bl true) H'
/-- an empty set, as it is laid -/
abbrev eSet (w : World) : Obj := { cls := .type "set", dict := none, data := .set #[] 0 (.fresh 0 0 (!w.params.followText "set-order")) }
section
variable {P : Program} {w : World} {A : Around} {E : Value → Shared → Prop} {s : Shared}
/-- a set of the ints of a list, with its order -/
theorem set_of_list {l : Addr} {vs : Array Value} (ks : List Int) {Q : Value → Shared → Prop} (nh : A.handled = none) (isl : s.heap.IsList l vs) (hint : IntsAre vs.toList ks) (few : ks.length + 1 < scanBound)
    (fin : ∀ (g : Heap) (tk c : Nat), SetR w g s.heap.objs.size (fun j => decide (j ∈ ks)) c → c ≤ ks.length → (∀ b o, s.heap.get? b = some o → g.get? b = some o) → Q (.ref s.heap.objs.size) { s with heap := g, toks := tk }) :
    wpAny (model P w) A (call (.type "set") [.ref l]) Q E s := by
  have sz : vs.size = ks.length := by have := IntsAre.length hint; rw [Array.length_toList] at this; exact this
  obtain ⟨_, _, m1⟩ := F.called_set.mro
  have m2 := F.called_set.made
  have m3 := F.called_set.sub
  refine wpAny_call (codeAny_of_tree (?_ : wpAny _ _ (callAny (.type "set") _) _ _ _))
  refine wpAny_pure ⟨Code.quiet_builtin _ (by decide +kernel), codeAny_builtin F.entry_type_call (?_ : wpAny _ _ _ _ _ _)⟩
  rw [Around.under_plain (weight_type_call_type "set" [.ref l] []) rfl]
  have m4 := F.called_set.notType
  have m5 := F.called_set.canCreate
  have m6 := F.typeCall_set_1 (.ref l)
  repeat (any_goals (first | assumption | wp_step))
  refine codeAny_mono (code_set_led1 (.ref l) (E := E) (Q₁ := fun u t => u = .ref s.heap.objs.size ∧ t = { s with heap := s.heap.push (eSet w) }) ⟨rfl, rfl⟩) fun r t1 hr => ?_
  match r, hr with
  | .error _, hr => exact hr
  | .ok (.ret _), hr =>
    obtain ⟨rfl, rfl⟩ := hr
    have gS : (s.heap.push (eSet w)).get? s.heap.objs.size = some (eSet w) := Heap.get?_push_size _ rfl
    have tS : Shared.TypeIs { s with heap := s.heap.push (eSet w) } (.ref s.heap.objs.size) "set" := ⟨_, gS, rfl⟩
    have i1 := F.called_set.init.lookup
    have i2 := F.called_set.init.bind (.ref s.heap.objs.size)
    repeat (any_goals (first | assumption | wp_step))
    refine codeAny_mono (codeAny_call_builtin (R := wants (fun r t => r = .none ∧ ∃ g tk c, t = { s with heap := g, toks := tk } ∧ SetR w g s.heap.objs.size (fun j => decide (j ∈ ks)) c ∧ c ≤ ks.length ∧ ∀ b o, s.heap.get? b = some o → g.get? b = some o) E)
      F.called_set.init.plain F.entry_set_init (check_set_init_1 tS ?_)) fun r2 t2 hr2 => ?_
    · obtain ⟨⟨c1, c2, c3, c4⟩, ho, hc, nl, hd⟩ := isl
      simp only at hc hd
      subst hc hd
      have ho2 : (s.heap.push (eSet w)).get? l = some { cls := .type "list", dict := c2, data := .seq vs nl, slots := c4 } := Heap.get?_push_of_some _ ho
      have n1 := F.sub_list_set
      have n2 := F.sub_list_frozenset
      have n3 : (Value.type "list" == Value.type "dict") = false := by decide
      have li : (s.heap.push (eSet w)).IsList l vs := ⟨_, ho2, rfl, nl, rfl⟩
      unfold Builtin.«set.__init__» noKeywords Builtin.Frozenset.updateFrom
      generalize hPI : pyIter = PI
      wp_walk
      subst hPI
      refine wpAny_pyIter_list li (wpAny_bind (wpAny_runValue ?_))
      have lt : l < s.heap.objs.size := Heap.lt_size ho
      have ne1 : l ≠ (s.heap.push (eSet w)).objs.size := by rw [Heap.size_push]; exact Nat.ne_of_lt (Nat.lt_succ_of_lt lt)
      have ne2 : s.heap.objs.size ∉ [(s.heap.push (eSet w)).objs.size, l] := by
        rw [Heap.size_push]
        simp only [List.mem_cons, List.not_mem_nil, or_false, not_or]
        exact ⟨Nat.ne_of_lt (Nat.lt_succ_self _), (Nat.ne_of_lt lt).symm⟩
      refine set_update_ints ((Walks.list (by simp [nh]) _ l ne1 vs).toS) s.heap.objs.size ne2 ks sz few (fun i v hv => ?_) (vs.size - 0) 0 _ (by omega) (Nat.zero_le _) ⟨⟨_, Heap.get?_push_size _ rfl, rfl, rfl⟩, li.push _⟩ ?_ ?_
      · have hi : i < ks.length := by rw [← sz]; exact (Array.getElem?_eq_some_iff.mp hv).1
        obtain ⟨t, e⟩ := PyProof.Rows.IntsAre.int_at hint i v (by rw [Array.getElem?_toList]; exact hv)
        refine ⟨ks[i], t, List.getElem?_eq_getElem hi, ?_⟩
        rw [e, List.getD_eq_getElem?_getD, List.getElem?_eq_getElem hi]
        rfl
      · exact ⟨0, Nat.le_refl 0, setR_new_at (Heap.get?_push_of_some _ gS)⟩
      · rintro ⟨g, g2, d2, tk, o2⟩ c mv hc2 hR
        have q1 : g2 = s.gens := mv.gens
        have q2 : d2 = s.drawn := mv.drawn
        have q3 : o2 = s.os := mv.os
        subst q1 q2 q3
        change wpAny _ _ _ _ _ _
        refine wpAny_pure ?_
        change wpAny _ _ (ret .none) _ _ _
        rw [sz] at hc2
        refine wpAny_pure ⟨rfl, g, tk, c, rfl, hR, hc2, fun b o e => ?_⟩
        have b0 : b < s.heap.objs.size := Heap.lt_size e
        refine mv.heap b o ?_ (Heap.get?_push_of_some _ (Heap.get?_push_of_some _ e))
        rw [Heap.size_push]
        simp only [List.mem_cons, List.not_mem_nil, or_false, not_or]
        exact ⟨Nat.ne_of_lt b0, Nat.ne_of_lt (Nat.lt_succ_of_lt b0)⟩
    · match r2, hr2 with
      | .error _, hr2 => exact hr2
      | .ok (.ret _), hr2 =>
        obtain ⟨rfl, g, tk, c, rfl, hR, hc2, k⟩ := hr2
        repeat (any_goals (first | assumption | wp_step))
        exact fin g tk c hR hc2 k
end
/-- set(xs), xs a list of ints -/
def rSetL1 (K : PySem.W.Frag) (w : World) : List V → Hp → VK → Prop := fun xs H Q => ∃ (p : Addr) (ns : List Int), xs = [.ref p] ∧ SqL K H p (ns.map V.int) ∧ ns.length ≤ 1000 ∧
  ∀ (q : Addr) (c : Nat), H q = none → c ≤ ns.length → Q (.ref q) (upd H q (SetO w q (fun j => decide (j ∈ ns)) c))
theorem cr_set1 {X : Cx} (hc : X.calm = true) : CallR X (.type "set") (rSetL1 X.K X.w) := by
  intro pins s σ H xs us Q I r h
  obtain ⟨p, ns, rfl, hq, hl, q⟩ := h
  rw [Vals.ref1 r]
  obtain ⟨its, rv, pl, hz⟩ := I.list hq
  refine set_of_list ns (I.ok.hd hc) pl.isList (by simpa using intsAre_of rv) (by unfold scanBound; omega) fun g tk c R hcn k => ?_
  exact ⟨.ref s.heap.objs.size, upd H s.heap.objs.size (SetO X.w s.heap.objs.size (fun j => decide (j ∈ ns)) c), I.laid (t' := tk) k (Nat.le_refl _) (setO_new R), rfl, q _ c (I.hok.fresh (Nat.le_refl _)) hcn⟩

/-! the same data -/
/-- data that _law_same walks: at most n deep -/
def smD : Nat → D → Bool
  | _, .none => true
  | _, .bool _ => true
  | _, .int _ => true
  | _, .str z => PyData.strOk z
  | n + 1, .list ds => decide (ds.length ≤ 100000) && ds.all (smD n)
  | n + 1, .tuple ds => decide (ds.length ≤ 100000) && ds.all (smD n)
  | _, _ => false
section
variable {K : PySem.W.Frag}
theorem rep_sm {H : Hp} {A : Addr → Prop} : ∀ {n : Nat} {d : D} {v u : V}, Rep K H A d v → Rep K H A d u → smD n d = true → Sm K H n v u := by
  intro n
  induction n with
  | zero =>
    intro d v u h1 h2 hd
    cases h1 with
    | non => cases h2; exact Sm.flat rfl
    | bl b => cases h2; exact Sm.flat rfl
    | int i => cases h2; exact Sm.flat rfl
    | str z => cases h2; exact Sm.flat (show PyData.strOk z = true by simpa [smD] using hd)
    | lst _ _ _ => cases hd
    | tup _ _ => cases hd
    | dct _ _ _ => cases hd
  | succ n ih =>
    intro d v u h1 h2 hd
    have kids : ∀ {ds : List D} {xs ys : List V}, ds.all (smD n) = true → RepL K H A ds xs → RepL K H A ds ys → ∀ (i : Nat) (a b : V), xs[i]? = some a → ys[i]? = some b → Sm K H n a b := by
      intro ds xs ys hall r1 r2 i a b ha hb
      have hi : i < ds.length := by rw [r1.len]; exact (List.getElem?_eq_some_iff.mp ha).1
      obtain ⟨a', ha', ra⟩ := r1.get (List.getElem?_eq_getElem hi)
      obtain ⟨b', hb', rb⟩ := r2.get (List.getElem?_eq_getElem hi)
      rw [ha] at ha'; cases ha'
      rw [hb] at hb'; cases hb'
      exact ih ra rb (List.all_eq_true.mp hall _ (List.getElem_mem hi))
    cases h1 with
    | non => cases h2; exact Sm.flat rfl
    | bl b => cases h2; exact Sm.flat rfl
    | int i => cases h2; exact Sm.flat rfl
    | str z => cases h2; exact Sm.flat (show PyData.strOk z = true by simpa [smD] using hd)
    | lst ha na r =>
      cases h2 with
      | lst hb nb r' =>
        rw [smD, Bool.and_eq_true, decide_eq_true_eq] at hd
        exact .inr ⟨_, _, _, _, rfl, rfl, .inl ⟨SqL.of ha, SqL.of hb⟩, by rw [← r.len, ← r'.len], by rw [← r.len]; exact hd.1, kids hd.2 r r'⟩
    | tup ha r =>
      cases h2 with
      | tup hb r' =>
        rw [smD, Bool.and_eq_true, decide_eq_true_eq] at hd
        exact .inr ⟨_, _, _, _, rfl, rfl, .inr ⟨ha.sq, hb.sq⟩, by rw [← r.len, ← r'.len], by rw [← r.len]; exact hd.1, kids hd.2 r r'⟩
    | dct _ _ _ => cases hd
def sSame (n : Nat) : D → D → (D → Prop) → Prop := fun a b Q => a = b ∧ smD n b = true ∧ Q (.bool true)
theorem same_of {n : Nat} (vs : List V) (H : Hp) (Q : VK) (E : XK) (h : spD K (F2 (sSame n)) vs H Q E) : spSame K n vs H Q E := by
  obtain ⟨A, ds, Qd, dom, r, hq, k⟩ := h
  unfold F2 at hq
  split at hq
  · cases r with | cons r1 r2 =>
    cases r2 with | cons r2 r3 =>
    cases r3
    obtain ⟨rfl, hs, q⟩ := hq
    exact ⟨_, _, rfl, rep_sm r1 r2 hs, fun H' s => k _ _ _ q s (.bl true)⟩
  · exact hq.elim
theorem sz_sm : ∀ {n : Nat} {d : D} {w : Nat}, Sz d n w → w ≤ 100000 → smD n d = true := by
  have wt : ∀ ds : List D, ds.length ≤ PyData.weightAll ds ∧ ∀ d ∈ ds, PyData.weight d ≤ PyData.weightAll ds := by
    intro ds
    induction ds with
    | nil => exact ⟨Nat.le_refl _, fun _ h => nomatch h⟩
    | cons d r ih =>
      simp only [PyData.weightAll, List.length_cons]
      refine ⟨by omega, fun e he => ?_⟩
      rcases List.mem_cons.mp he with rfl | he
      · omega
      · have := ih.2 e he; omega
  have kids : ∀ {ds : List D} {n w : Nat}, PyData.canLayAll0 ds = true → PyData.intsShortAll 13 ds = true → PyData.showableAll ds = true → PyData.depthAll ds ≤ n → PyData.weightAll ds ≤ w → ∀ d ∈ ds, Sz d n w := by
    intro ds
    induction ds with
    | nil => intro n w _ _ _ _ _ d h; cases h
    | cons e r ih =>
      intro n w h1 h2 h3 h4 h5 d hd
      simp only [PyData.canLayAll0, PyData.intsShortAll, PyData.showableAll, Bool.and_eq_true, PyData.depthAll, PyData.weightAll] at h1 h2 h3 h4 h5
      rcases List.mem_cons.mp hd with rfl | hd
      · exact ⟨h1.1, h2.1, h3.1, by omega, by omega⟩
      · exact ih h1.2 h2.2 h3.2 (by omega) (by omega) d hd
  intro n
  induction n with
  | zero =>
    intro d w h hw
    cases d with
    | none => rfl
    | bool b => rfl
    | int i => rfl
    | str z => have := h.lay; simpa [smD, PyData.canLay0] using this
    | list ds => have := h.dep; simp only [PyData.depth] at this; omega
    | tuple ds => have := h.dep; simp only [PyData.depth] at this; omega
    | dict ds => have := h.lay; simp [PyData.canLay0] at this
  | succ n ih =>
    intro d w h hw
    cases d with
    | none => rfl
    | bool b => rfl
    | int i => rfl
    | str z => have := h.lay; simpa [smD, PyData.canLay0] using this
    | list ds =>
      obtain ⟨h1, h2, h3, h4, h5⟩ := h
      simp only [PyData.canLay0, PyData.intsShort, PyData.showable, PyData.depth, PyData.weight] at h1 h2 h3 h4 h5
      have := wt ds
      rw [smD, Bool.and_eq_true, decide_eq_true_eq]
      exact ⟨by omega, List.all_eq_true.mpr fun d hd => ih (kids h1 h2 h3 (n := n) (w := w) (by omega) h5 d hd) hw⟩
    | tuple ds =>
      obtain ⟨h1, h2, h3, h4, h5⟩ := h
      simp only [PyData.canLay0, PyData.intsShort, PyData.showable, PyData.depth, PyData.weight] at h1 h2 h3 h4 h5
      have := wt ds
      rw [smD, Bool.and_eq_true, decide_eq_true_eq]
      exact ⟨by omega, List.all_eq_true.mpr fun d hd => ih (kids h1 h2 h3 (n := n) (w := w) (by omega) h5 d hd) hw⟩
    | dict ds => have := h.lay; simp [PyData.canLay0] at this
/-! sorted(set(xs)), xs ints -/
def dSortSet (de : Ev → (D → Prop) → Prop) : Ev → (List D → Prop) → Prop := fun env Q => de env fun x => ∃ ns : List Int, x = .list (ns.map PyData.int) ∧ ns.length < 64 ∧ ∀ ms : List Int, ms.Pairwise (· < ·) → (∀ k : Int, k ∈ ms ↔ k ∈ ns) → ms.length ≤ ns.length → Q (ms.map PyData.int)
theorem ints_rep {H : Hp} {A : Addr → Prop} : ∀ {ns : List Int} {vs : List V}, RepL K H A (ns.map PyData.int) vs → vs = ns.map V.int
  | [], _, .nil => rfl
  | n :: ns, _, .cons h r => by
    cases h
    rw [ints_rep r]
    rfl
theorem rep_ints {H : Hp} {A : Addr → Prop} : ∀ ns : List Int, RepL K H A (ns.map PyData.int) (ns.map V.int)
  | [] => .nil
  | n :: ns => .cons (.int n) (rep_ints ns)
theorem rf_sortSet {w : World} {te : TE} {de : Ev → (D → Prop) → Prop} (h : RfB K te de) : RfF K (tCB (rSortedSet w) (tCons (tCB (rSetL1 K w) (tCons te tNil)) tNil)) (dSortSet de) := ⟨fun {A st ow σ H env Qd Q} R q k => h.run R q fun d v H1 ⟨ns, e, hl, q1⟩ s1 r1 => by
  subst e
  obtain ⟨a, xs, rfl, ha, rx⟩ := r1.lst
  obtain rfl := ints_rep rx
  refine ⟨a, ns, rfl, SqL.of ha, by omega, fun q0 c nq hc => ?_⟩
  refine ⟨q0, _, c, rfl, upd_same, by omega, fun ms p pw mem len np => ?_⟩
  have R1 := R.step s1
  have s2 : Same H1 (upd H1 q0 (SetO w q0 (fun j => decide (j ∈ ns)) c)) := same_upd nq
  have s3 : Same H1 (upd (upd H1 q0 (SetO w q0 (fun j => decide (j ∈ ns)) c)) p (.lst (ms.map V.int))) := fun b o e => same_upd np b o (s2 b o e)
  have np' : H1 p = none := by
    cases e : H1 p with
    | none => rfl
    | some o => rw [s2 _ _ e] at np; cases np
  exact k _ p _ _ (q1 ms pw (fun k => (mem k).trans decide_eq_true_iff) (by rw [len]; exact hc)) (s1.trans (.same R1.ls s3)) (s1.none np') upd_same (rep_ints ms)⟩
/-! sorted([(a, b), (c, d)]), ints -/
def isI (x : D) : Prop := ∃ i : Int, x = .int i
def dSort2 (da db dc dd : Ev → (D → Prop) → Prop) : Ev → (List D → Prop) → Prop := fun env Q => da env fun a => db env fun b => dc env fun c => dd env fun d => (isI a ∧ isI b ∧ isI c ∧ isI d) ∧ Q [.tuple [a, b], .tuple [c, d]] ∧ Q [.tuple [c, d], .tuple [a, b]]
theorem rf_sort2 {ta tb tc td : TE} {da db dc dd : Ev → (D → Prop) → Prop} (ha : RfE K ta da) (hb : RfE K tb db) (hc : RfE K tc dc) (hd : RfE K td dd) :
    RfF K (tCB (rSortedP K) (tCons (tLst (tCons (tTup (tCons ta (tCons tb tNil))) (tCons (tTup (tCons tc (tCons td tNil))) tNil))) tNil)) (dSort2 da db dc dd) := ⟨fun {A st ow σ H env Qd Q} R q k =>
  ha.run R q fun a v1 H1 q1 s1 r1 => hb.run (R.step s1) q1 fun b v2 H2 q2 s2 r2 => by
    have R2 := (R.step s1).step s2
    refine ⟨Nat.le_of_ble_eq_true rfl, fun p np => ?_⟩
    have sp : Stp st H2 (upd H2 p (.tup [v1, v2])) := R2.new np
    have R3 := R2.step sp
    refine hc.run R3 q2 fun c v3 H3 q3 s3 r3 => hd.run (R3.step s3) q3 fun d v4 H4 q4 s4 r4 => ?_
    obtain ⟨⟨⟨i1, rfl⟩, ⟨i2, rfl⟩, ⟨i3, rfl⟩, ⟨i4, rfl⟩⟩, qa, qb⟩ := q4
    cases r1; cases r2; cases r3; cases r4
    have R4 := (R3.step s3).step s4
    have nex : p ∉ exs st := fun z => R2.newA np (R2.exA p z)
    have hp4 : H4 p = some (.tup [.int i1, .int i2]) := s4.k p _ (s3.k p _ upd_same nex) nex
    refine ⟨Nat.le_of_ble_eq_true rfl, fun p2 np2 => ⟨Nat.le_of_ble_eq_true rfl, fun l nl => ?_⟩⟩
    have sm1 : Same H4 (upd H4 p2 (.tup [.int i3, .int i4])) := same_upd np2
    have sm2 : Same H4 (upd (upd H4 p2 (.tup [.int i3, .int i4])) l (.lst [.ref p, .ref p2])) := fun b o e => same_upd nl b o (sm1 b o e)
    have hl1 : (upd (upd H4 p2 (.tup [.int i3, .int i4])) l (.lst [.ref p, .ref p2])) p = some (.tup [.int i1, .int i2]) := sm2 _ _ hp4
    have hl2 : (upd (upd H4 p2 (.tup [.int i3, .int i4])) l (.lst [.ref p, .ref p2])) p2 = some (.tup [.int i3, .int i4]) := same_upd nl _ _ upd_same
    have hl3 : (upd (upd H4 p2 (.tup [.int i3, .int i4])) l (.lst [.ref p, .ref p2])) l = some (.lst [.ref p, .ref p2]) := upd_same
    generalize upd (upd H4 p2 (.tup [.int i3, .int i4])) l (.lst [.ref p, .ref p2]) = H5 at sm2 hl1 hl2 hl3
    refine ⟨l, _, rfl, SqL.of hl3, fun x hx => ?_, fun ys q0 pm nq => ?_⟩
    · simp only [List.mem_cons, List.not_mem_nil, or_false] at hx
      rcases hx with rfl | rfl
      · exact ⟨_, _, _, rfl, hl1⟩
      · exact ⟨_, _, _, rfl, hl2⟩
    have sAll : Stp st H H4 := ((s1.trans s2).trans sp).trans (s3.trans s4)
    have s45 : Stp st H4 H5 := .same R4.ls sm2
    have R5 := R4.step s45
    have mp : ¬ Mo A ow p := R2.newM np
    have mp2 : ¬ Mo A ow p2 := R4.newM np2
    have snew : Same H5 (upd H5 q0 (.lst ys)) := same_upd nq
    have e0 : H q0 = none := (sAll.trans s45).none nq
    have neq : ∀ {c : Addr} {o : HO}, H5 c = some o → c ≠ q0 := fun e z => by rw [z, nq] at e; cases e
    have t1 : Rep K (upd H5 q0 (.lst ys)) (fun b => Mo A ow b ∨ b = q0) (.tuple [.int i1, .int i2]) (.ref p) := .tup (.inl ⟨.inl (snew _ _ hl1), fun z => z.elim mp (neq hl1)⟩) (.cons (.int _) (.cons (.int _) .nil))
    have t2 : Rep K (upd H5 q0 (.lst ys)) (fun b => Mo A ow b ∨ b = q0) (.tuple [.int i3, .int i4]) (.ref p2) := .tup (.inl ⟨.inl (snew _ _ hl2), fun z => z.elim mp2 (neq hl2)⟩) (.cons (.int _) (.cons (.int _) .nil))
    have st5 : Stp st H (upd H5 q0 (.lst ys)) := (sAll.trans s45).trans (R5.new nq)
    have two : ys = [.ref p, .ref p2] ∨ ys = [.ref p2, .ref p] := by
      match ys, pm.length_eq with
      | [y1, y2], _ =>
        by_cases e : y1 = .ref p
        · subst e
          have := (List.perm_cons _).mp pm
          rw [List.perm_singleton.mp this]
          exact .inl rfl
        · have h1 : y1 = .ref p2 := by
            have := pm.mem_iff.mp (List.mem_cons_self (a := y1) (l := [y2]))
            simp only [List.mem_cons, List.not_mem_nil, or_false] at this
            exact this.resolve_left e
          subst h1
          have := (List.perm_cons _).mp (pm.trans (List.Perm.swap _ _ _))
          rw [List.perm_singleton.mp this]
          exact .inr rfl
    rcases two with rfl | rfl
    · exact k _ q0 _ _ qa st5 e0 upd_same (.cons t1 (.cons t2 .nil))
    · exact k _ q0 _ _ qb st5 e0 upd_same (.cons t2 (.cons t1 .nil))⟩
end
def q_dSortSet := fun de env Q => propext (Iff.of_eq (dSortSet.eq_1 de env Q))
def q_dSort2 := fun a b c d env Q => propext (Iff.of_eq (dSort2.eq_1 a b c d env Q))
theorem same_e (n : Nat) (a b : D) (Q : D → Prop) : sSame n a b Q = (a = b ∧ smD n b = true ∧ Q (.bool true)) := rfl
def q_sSame := fun n a b Q => propext (Iff.of_eq (same_e n a b Q))
/-! texts -/
section
variable {K : PySem.W.Frag}
def oStr : List D → (D → Prop) → Prop := fun xs Q => match xs with | [.int i] => i.natAbs.log2 < 1920 ∧ Q (.str (toString i)) | _ => False
theorem ro_str : RfVL K (fun xs H Q => ∃ i, xs = [.int i] ∧ i.natAbs.log2 < 1920 ∧ Q (.str (toString i)) H) oStr := ⟨fun R h q k => by
  unfold oStr at q
  split at q
  · obtain ⟨v, rfl, z⟩ := h.one
    cases z.int
    exact ⟨_, rfl, q.1, k _ _ _ q.2 (stp_refl R) (.str _)⟩
  · exact q.elim⟩
def oIntS : List D → (D → Prop) → Prop := fun xs Q => match xs with | [.str a] => ∃ n, PySem.intText? a = some n ∧ a.length ≤ 640 ∧ Q (.int n) | _ => False
theorem ro_intS : RfVL K (fun xs H Q => ∃ a n, xs = [.str a] ∧ PySem.intText? a = some n ∧ a.length ≤ 640 ∧ Q (.int n) H) oIntS := ⟨fun R h q k => by
  unfold oIntS at q
  split at q
  · obtain ⟨v, rfl, z⟩ := h.one
    cases z.str
    obtain ⟨n, h1, h2, q⟩ := q
    exact ⟨_, n, rfl, h1, h2, k _ _ _ q (stp_refl R) (.int _)⟩
  · exact q.elim⟩
def oOrd : List D → (D → Prop) → Prop := fun xs Q => match xs with | [.str x] => x.length = 1 ∧ Q (.int (x.cps.getD 0 0 : Nat)) | _ => False
theorem ro_ord : RfVL K (fun xs H Q => ∃ x, xs = [.str x] ∧ x.length = 1 ∧ Q (.int (x.cps.getD 0 0 : Nat)) H) oOrd := ⟨fun R h q k => by
  unfold oOrd at q
  split at q
  · obtain ⟨v, rfl, z⟩ := h.one
    cases z.str
    exact ⟨_, rfl, q.1, k _ _ _ q.2 (stp_refl R) (.int _)⟩
  · exact q.elim⟩
/-- text * int -/
def oMulS : D → D → (D → Prop) → Prop := fun x y Q => match x, y with | .str z, .int i => z.length ≤ 16 ∧ (-(2 ^ 63) ≤ i ∧ i ≤ 1048576) ∧ Q (.str (Txt.mul z i)) | _, _ => False
def rMulS : R2 := fun x y H Q => ∃ z i, x = .str z ∧ y = .int i ∧ z.length ≤ 16 ∧ (-(2 ^ 63) ≤ i ∧ i ≤ 1048576) ∧ Q (.str (Txt.mul z i)) H
theorem op_mulS {X : Cx} : OpR X (binaryOp .Mult) rMulS := by
  intro pins s σ H x y v u Q I rx ry h
  obtain ⟨z, i, rfl, rfl, h1, h2, q⟩ := h
  obtain ⟨t, rfl⟩ := rx
  obtain ⟨t2, rfl⟩ := ry
  exact PySem.W.KXi.mul rfl h1 h2.1 (by have := h2.2; omega) fun t' k _ _ => ⟨.str (Txt.mul z i), H, I.tok _, ⟨_, rfl⟩, q⟩
theorem rv_mulS : RfV2 K rMulS oMulS := ⟨fun R h1 h2 q k => by
  unfold oMulS at q
  split at q
  · cases h1.str
    cases h2.int
    exact ⟨_, _, rfl, rfl, q.1, q.2.1, k _ _ _ q.2.2 (stp_refl R) (.str _)⟩
  · exact q.elim⟩
/-! methods of texts -/
def dM0 (op : Str → (D → Prop) → Prop) (de : Ev → (D → Prop) → Prop) : Ev → (D → Prop) → Prop := fun env Q => de env fun x => match x with | .str a => op a Q | _ => False
def dM1 (op : Str → D → (D → Prop) → Prop) (de da : Ev → (D → Prop) → Prop) : Ev → (D → Prop) → Prop := fun env Q => de env fun x => match x with | .str a => da env fun y => op a y Q | _ => False
def sLower (a : Str) (Q : D → Prop) : Prop := a.length ≤ 5592405 ∧ Q (.str (Txt.lower a))
def sUpper (a : Str) (Q : D → Prop) : Prop := a.length ≤ 5592405 ∧ Q (.str (Txt.upper a))
theorem re_lower {to : TE} {de : Ev → (D → Prop) → Prop} (h : RfE K to de) : RfE K (tM0 (fun x xs H Q => ∃ a, x = .str a ∧ xs = [] ∧ a.length ≤ 5592405 ∧ Q (.str (Txt.lower a)) H) to) (dM0 sLower de) := ⟨fun R q k => h.run R q fun d v H' q' s r => by
  split at q'
  · cases r
    exact ⟨⟨_, rfl⟩, _, rfl, rfl, q'.1, k _ _ _ q'.2 s (.str _)⟩
  · exact q'.elim⟩
theorem re_upper {to : TE} {de : Ev → (D → Prop) → Prop} (h : RfE K to de) : RfE K (tM0 (fun x xs H Q => ∃ a, x = .str a ∧ xs = [] ∧ a.length ≤ 5592405 ∧ Q (.str (Txt.upper a)) H) to) (dM0 sUpper de) := ⟨fun R q k => h.run R q fun d v H' q' s r => by
  split at q'
  · cases r
    exact ⟨⟨_, rfl⟩, _, rfl, rfl, q'.1, k _ _ _ q'.2 s (.str _)⟩
  · exact q'.elim⟩
def sStarts (a : Str) (y : D) (Q : D → Prop) : Prop := match y with | .str b => Q (.bool (Txt.startswith a b)) | _ => False
def sEnds (a : Str) (y : D) (Q : D → Prop) : Prop := match y with | .str b => Q (.bool (Txt.endswith a b)) | _ => False
theorem re_starts {to te : TE} {de da : Ev → (D → Prop) → Prop} (h : RfE K to de) (h2 : RfE K te da) : RfE K (tM1 (fun x xs H Q => ∃ a b, x = .str a ∧ xs = [.str b] ∧ Q (.bl (Txt.startswith a b)) H) to te) (dM1 sStarts de da) := ⟨fun R q k => h.run R q fun d v H' q' s r => by
  split at q'
  · cases r
    refine ⟨⟨_, rfl⟩, h2.run (R.step s) q' fun e u H2 q2 s2 r2 => ?_⟩
    unfold sStarts at q2
    split at q2
    · cases r2
      exact ⟨_, _, rfl, rfl, k _ _ _ q2 (s.trans s2) (.bl _)⟩
    · exact q2.elim
  · exact q'.elim⟩
theorem re_ends {to te : TE} {de da : Ev → (D → Prop) → Prop} (h : RfE K to de) (h2 : RfE K te da) : RfE K (tM1 (fun x xs H Q => ∃ a b, x = .str a ∧ xs = [.str b] ∧ Q (.bl (Txt.endswith a b)) H) to te) (dM1 sEnds de da) := ⟨fun R q k => h.run R q fun d v H' q' s r => by
  split at q'
  · cases r
    refine ⟨⟨_, rfl⟩, h2.run (R.step s) q' fun e u H2 q2 s2 r2 => ?_⟩
    unfold sEnds at q2
    split at q2
    · cases r2
      exact ⟨_, _, rfl, rfl, k _ _ _ q2 (s.trans s2) (.bl _)⟩
    · exact q2.elim
  · exact q'.elim⟩
theorem rep_strs {H : Hp} {A : Addr → Prop} : ∀ ys : List Str, RepL K H A (ys.map PyData.str) (ys.map V.str)
  | [] => .nil
  | n :: ns => .cons (.str n) (rep_strs ns)
theorem strs_rep {H : Hp} {A : Addr → Prop} : ∀ {ns : List Str} {vs : List V}, RepL K H A (ns.map PyData.str) vs → vs = ns.map V.str
  | [], _, .nil => rfl
  | n :: ns, _, .cons h r => by
    cases h
    rw [strs_rep r]
    rfl
def dSplit (de da : Ev → (D → Prop) → Prop) : Ev → (List D → Prop) → Prop := fun env Q => de env fun x => match x with
  | .str a => da env fun y => (match y with | .str b => (b.length == 0) = false ∧ a.length + 2 ≤ 16777216 ∧ Q ((Txt.split a b).map PyData.str) | _ => False)
  | _ => False
theorem rf_split {to te : TE} {de da : Ev → (D → Prop) → Prop} (h : RfE K to de) (h2 : RfE K te da) :
    RfF K (tM1 (fun x xs H Q => ∃ a b, x = .str a ∧ xs = [.str b] ∧ (b.length == 0) = false ∧ a.length + 2 ≤ sizeLine ∧ rNewStrs (Txt.split a b) H Q) to te) (dSplit de da) := ⟨fun R q k => h.run R q fun d v H' q' s r => by
  split at q'
  · cases r
    refine ⟨⟨_, rfl⟩, h2.run (R.step s) q' fun e u H2 q2 s2 r2 => ?_⟩
    split at q2
    · cases r2
      refine ⟨_, _, rfl, rfl, q2.1, by rw [sizeLine_eq]; exact q2.2.1, fun p np => ?_⟩
      have R2 := (R.step s).step s2
      exact k _ p _ _ q2.2.2 ((s.trans s2).trans (R2.new np)) ((s.trans s2).none np) upd_same (rep_strs _)
    · exact q2.elim
  · exact q'.elim⟩
def dJoin (de da : Ev → (D → Prop) → Prop) : Ev → (D → Prop) → Prop := fun env Q => de env fun x => match x with
  | .str a => da env fun y => ∃ ys : List Str, seqOf y = some (ys.map PyData.str) ∧ (ys.map (·.length)).sum + ys.length * a.length ≤ 16777216 ∧ Q (.str (Txt.join a ys))
  | _ => False
theorem re_join {to te : TE} {de da : Ev → (D → Prop) → Prop} (h : RfE K to de) (h2 : RfB K te da) :
    RfE K (tM1 (fun x xs H Q => ∃ a p, ∃ ys : List Str, x = .str a ∧ xs = [.ref p] ∧ (SqL K H p (ys.map V.str) ∨ SqT K H p (ys.map V.str)) ∧ (ys.map (·.length)).sum + ys.length * a.length ≤ 16777216 ∧ Q (.str (Txt.join a ys)) H) to te) (dJoin de da) := ⟨fun R q k => h.run R q fun d v H' q' s r => by
  split at q'
  · cases r
    refine ⟨⟨_, rfl⟩, h2.run (R.step s) q' fun e u H2 q2 s2 r2 => ?_⟩
    obtain ⟨ys, h1, h3, q2⟩ := q2
    obtain ⟨p, xs, rfl, hs, rx⟩ := r2.seq h1
    obtain rfl := strs_rep rx
    exact ⟨_, p, ys, rfl, rfl, hs, h3, k _ _ _ q2 (s.trans s2) (.str _)⟩
  · exact q'.elim⟩
/-! f-strings -/
def dFmt (de : Ev → (D → Prop) → Prop) : Ev → (D → Prop) → Prop := fun env Q => de env fun x => match x with
  | .str y => y.length ≤ 16777216 ∧ Q (.str y)
  | .int i => i.natAbs.log2 < 1920 ∧ Q (.str (toString i))
  | _ => False
theorem re_fmt {te : TE} {de : Ev → (D → Prop) → Prop} (h : RfE K te de) : RfE K (tFmt te) (dFmt de) := ⟨fun R q k => h.run R q fun d v H' q' s r => by
  split at q'
  · cases r
    exact .inl ⟨_, rfl, by rw [sizeLine_eq]; exact q'.1, k _ _ _ q'.2 s (.str _)⟩
  · cases r
    exact .inr ⟨_, rfl, q'.1, k _ _ _ q'.2 s (.str _)⟩
  · exact q'.elim⟩
structure RfJ (K : PySem.W.Frag) (ts : List TE) (dj : Str → Ev → (Str → Prop) → Prop) : Prop where
  run : ∀ {A : Addr → Prop} {st : Option (Addr × Addr)} {ow : Nat → Option Addr} {σ : L2.St} {H : Hp} {env : Ev} {acc : Str} {Qd : Str → Prop} {Q : Str → Hp → Prop},
  RE K A st ow σ H env → dj acc env Qd → (∀ z H', Qd z → Stp st H H' → Q z H') → tJs ts acc σ H Q
def dJn : Str → Ev → (Str → Prop) → Prop := fun acc _ Q => Q acc
def dJc (de : Ev → (D → Prop) → Prop) (dj : Str → Ev → (Str → Prop) → Prop) : Str → Ev → (Str → Prop) → Prop := fun acc env Q => de env fun x => match x with
  | .str y => (acc ++ y).length ≤ 16777216 ∧ dj (acc ++ y) env Q
  | _ => False
theorem rj_nil : RfJ K [] dJn := ⟨fun R q k => k _ _ q (stp_refl R)⟩
theorem rj_cons {t : TE} {ts : List TE} {de : Ev → (D → Prop) → Prop} {dj : Str → Ev → (Str → Prop) → Prop} (h : RfE K t de) (hs : RfJ K ts dj) : RfJ K (t :: ts) (dJc de dj) := ⟨fun R q k => h.run R q fun d v H' q' s r => by
  split at q'
  · cases r
    exact ⟨_, rfl, by rw [sizeLine_eq]; exact q'.1, hs.run (R.step s) q'.2 fun z H2 q2 s2 => k z H2 q2 (s.trans s2)⟩
  · exact q'.elim⟩
def dFs (dj : Str → Ev → (Str → Prop) → Prop) : Ev → (D → Prop) → Prop := fun env Q => dj Str.empty env fun z => Q (.str z)
theorem re_fs {ts : List TE} {dj : Str → Ev → (Str → Prop) → Prop} (h : RfJ K ts dj) : RfE K (fun σ H Q => tJs ts Str.empty σ H fun out H1 => Q (.str out) H1) (dFs dj) := ⟨fun R q k => h.run R q fun z H' q' s => k _ _ _ q' s (.str _)⟩
/-! dicts that are read -/
theorem RepB.dct {H : Hp} {A M : Addr → Prop} {v : V} {kvs : List (D × D)} (h : RepB K H A M (.dict kvs) v) : ∃ a us, v = .ref a ∧ H a = some (.dK us) ∧ RepK K H M kvs us := by
  cases h with
  | r h => cases h with | dct h n r => exact ⟨_, _, rfl, h, r⟩
  | k h n r => exact ⟨_, _, rfl, h, r⟩
def dDg (dd dk : Ev → (D → Prop) → Prop) : Ev → (D → Prop) → Prop := fun env Q => dd env fun x => dk env fun y => match x with
  | .dict kvs => ∃ q, keyOf y = some q ∧ ∃ d, lookD kvs q = some d ∧ Q d
  | _ => False
theorem key_v {H : Hp} {A : Addr → Prop} {d : D} {v : V} {q : Key} (h : Rep K H A d v) (e : keyOf d = some q) : v = kV q := by
  have := keyD_of e
  cases this <;> cases h <;> rfl
theorem re_dg {td ty : TE} {dd dk : Ev → (D → Prop) → Prop} (h : RfB K td dd) (h2 : RfE K ty dk) : RfE K (tDGet td ty) (dDg dd dk) := ⟨fun R q k => h.run R q fun d v H1 q1 s1 r1 => h2.run (R.step s1) q1 fun y u H2 q2 s2 r2 => by
  split at q2
  · obtain ⟨key, e, d', hd, q2⟩ := q2
    obtain ⟨a, us, rfl, ha, rk⟩ := ((R.step s1).stepB s2 r1).dct
    obtain ⟨v', hv, rv⟩ := (rk.look key).1 d' hd
    obtain rfl := key_v r2 e
    exact ⟨a, v', rfl, hv ▸ DGet.k ha, k _ _ _ q2 (s1.trans s2) rv⟩
  · exact q2.elim⟩
def dDin (neg : Bool) (dk dd : Ev → (D → Prop) → Prop) : Ev → (D → Prop) → Prop := fun env Q => dk env fun y => dd env fun x => match x with
  | .dict kvs => ∃ q, keyOf y = some q ∧ Q (.bool (if neg then !(lookD kvs q).isSome else (lookD kvs q).isSome))
  | _ => False
theorem look_some {H : Hp} {M : Addr → Prop} {kvs : List (D × D)} {us : List (Key × V)} (r : RepK K H M kvs us) (q : Key) : (valV us q).isSome = (lookD kvs q).isSome := by
  obtain ⟨h1, h2⟩ := r.look q
  cases e : lookD kvs q with
  | none => rw [h2 e]; rfl
  | some d =>
    obtain ⟨v, hv, _⟩ := h1 d e
    rw [hv]
    rfl
theorem re_din {td ty : TE} {dd dk : Ev → (D → Prop) → Prop} (h2 : RfE K ty dk) (h : RfB K td dd) : RfE K (tDIn ty td) (dDin false dk dd) := ⟨fun R q k => h2.run R q fun y u H1 q1 s1 r1 => h.run (R.step s1) q1 fun d v H2 q2 s2 r2 => by
  split at q2
  · obtain ⟨key, e, q2⟩ := q2
    obtain ⟨a, us, rfl, ha, rk⟩ := r2.dct
    obtain rfl := key_v r1 e
    exact ⟨a, _, rfl, DGet.k ha, by rw [look_some rk]; exact k _ _ _ q2 (s1.trans s2) (.bl _)⟩
  · exact q2.elim⟩
theorem re_dnin {td ty : TE} {dd dk : Ev → (D → Prop) → Prop} (h2 : RfE K ty dk) (h : RfB K td dd) : RfE K (tDNotIn ty td) (dDin true dk dd) := ⟨fun R q k => h2.run R q fun y u H1 q1 s1 r1 => h.run (R.step s1) q1 fun d v H2 q2 s2 r2 => by
  split at q2
  · obtain ⟨key, e, q2⟩ := q2
    obtain ⟨a, us, rfl, ha, rk⟩ := r2.dct
    obtain rfl := key_v r1 e
    exact ⟨a, _, rfl, DGet.k ha, by rw [look_some rk]; exact k _ _ _ q2 (s1.trans s2) (.bl _)⟩
  · exact q2.elim⟩
def dDg2 (dd dk dx : Ev → (D → Prop) → Prop) : Ev → (D → Prop) → Prop := fun env Q => dd env fun x => dk env fun y => dx env fun z => match x with
  | .dict kvs => ∃ q, keyOf y = some q ∧ Q ((lookD kvs q).getD z)
  | _ => False
end
section
variable {K : PySem.W.Frag}
def dDgx (dd dk dx : Ev → (D → Prop) → Prop) : Ev → (D → Prop) → Prop := fun env Q => dd env fun x => match x with
  | .dict kvs => dk env fun y => dx env fun z => ∃ q, keyOf y = some q ∧ Q ((lookD kvs q).getD z)
  | _ => False
theorem re_dgx {td ty tx : TE} {dd dk dx : Ev → (D → Prop) → Prop} (h : RfB K td dd) (h2 : RfE K ty dk) (h3 : RfE K tx dx) : RfE K (tDGet2 td ty tx) (dDgx dd dk dx) := ⟨fun R q k => h.run R q fun d v H1 q1 s1 r1 => by
  split at q1
  · obtain ⟨a, us, rfl, ha, rk⟩ := _root_.id r1.dct
    refine ⟨a, rfl, .inl ⟨_, .inl ha⟩, h2.run (R.step s1) q1 fun y u H2 q2 s2 r2 => h3.run ((R.step s1).step s2) q2 fun z u3 H3 q3 s3 r3 => ?_⟩
    obtain ⟨key, e, q3⟩ := q3
    have R3 := ((R.step s1).step s2)
    obtain ⟨a', us', e', ha', rk'⟩ := (R3.stepB s3 ((R.step s1).stepB s2 r1)).dct
    cases e'
    obtain rfl := key_v r2 e
    refine ⟨_, DGet.k ha', ?_⟩
    obtain ⟨g1, g2⟩ := rk'.look key
    cases e2 : lookD _ key with
    | none =>
      rw [g2 e2]
      rw [e2] at q3
      exact k _ _ _ q3 (s1.trans (s2.trans s3)) r3
    | some d' =>
      obtain ⟨v', hv, rv⟩ := g1 d' e2
      rw [hv]
      rw [e2] at q3
      exact k _ _ _ q3 (s1.trans (s2.trans s3)) rv
  · exact q1.elim⟩
/-- a written dict of the top whose values are tuples of scalars -/
theorem re_kdT {w : World} {a : Addr} {tb : TE} {db : Ev → (D → Prop) → Prop} (tab : List (Str × D)) (ht : ∀ p ∈ tab, ∃ b vs ds, KDct K w a p.1 (.ref b) ∧ KTup K b vs ∧ Paired Sc ds vs ∧ p.2 = .tuple ds) (hb : RfB K tb db) : RfE K (tOp (rIxD K w) (tC (.ref a)) tb) (dKd tab db) := ⟨fun R q k =>
  hb.run R q fun y u H1 q1 s1 r1 => by
    split at q1
    · rename_i z
      cases r1.str
      split at q1
      · rename_i d e
        obtain ⟨b, vs, ds, h1, h2, h3, rfl⟩ := ht _ (look_mem e)
        exact ⟨a, z, _, rfl, rfl, h1, k _ _ H1 q1 s1 (.tup (.inr h2) (sc_all h3))⟩
      · exact q1.elim
    · exact q1.elim⟩
end
def q_oStr := fun a0 a1 => propext (Iff.of_eq (@oStr.eq_1 a0 a1))
def q_oIntS := fun a0 a1 => propext (Iff.of_eq (@oIntS.eq_1 a0 a1))
def q_oOrd := fun a0 a1 => propext (Iff.of_eq (@oOrd.eq_1 a0 a1))
def q_oMulS := fun a0 a1 a2 => propext (Iff.of_eq (@oMulS.eq_1 a0 a1 a2))
def q_dM0 := fun a0 a1 a2 a3 => propext (Iff.of_eq (@dM0.eq_1 a0 a1 a2 a3))
def q_dM1 := fun a0 a1 a2 a3 a4 => propext (Iff.of_eq (@dM1.eq_1 a0 a1 a2 a3 a4))
def q_sLower := fun a0 a1 => propext (Iff.of_eq (@sLower.eq_1 a0 a1))
def q_sUpper := fun a0 a1 => propext (Iff.of_eq (@sUpper.eq_1 a0 a1))
def q_sStarts := fun a0 a1 a2 => propext (Iff.of_eq (@sStarts.eq_1 a0 a1 a2))
def q_sEnds := fun a0 a1 a2 => propext (Iff.of_eq (@sEnds.eq_1 a0 a1 a2))
def q_dSplit := fun a0 a1 a2 a3 => propext (Iff.of_eq (@dSplit.eq_1 a0 a1 a2 a3))
def q_dJoin := fun a0 a1 a2 a3 => propext (Iff.of_eq (@dJoin.eq_1 a0 a1 a2 a3))
def q_dFmt := fun a0 a1 a2 => propext (Iff.of_eq (@dFmt.eq_1 a0 a1 a2))
def q_dJn := fun a0 a1 a2 => propext (Iff.of_eq (@dJn.eq_1 a0 a1 a2))
def q_dJc := fun a0 a1 a2 a3 a4 => propext (Iff.of_eq (@dJc.eq_1 a0 a1 a2 a3 a4))
def q_dFs := fun a0 a1 a2 => propext (Iff.of_eq (@dFs.eq_1 a0 a1 a2))
def q_dDg := fun a0 a1 a2 a3 => propext (Iff.of_eq (@dDg.eq_1 a0 a1 a2 a3))
def q_dDin := fun a0 a1 a2 a3 a4 => propext (Iff.of_eq (@dDin.eq_1 a0 a1 a2 a3 a4))
def q_dDgx := fun a0 a1 a2 a3 a4 => propext (Iff.of_eq (@dDgx.eq_1 a0 a1 a2 a3 a4))
def topS (i : Nat) : Stmt := PySem.Challenge.pw_onepolicy_k67_limits_their_faults_and_ke.main.body.getD i (.Pass ⟨0, 0, 0, 0⟩)
abbrev s_is_number : Stmt := topS 1
abbrev Ns_is_number : List Str := ["value"]
theorem x_is_number : FnScope Ns_is_number ["value"] (defScope s_is_number) := ⟨rfl, rfl, rfl, by decide +kernel, rfl, by decide +kernel, by decide +kernel⟩
abbrev s_whole_within : Stmt := topS 3
abbrev Ns_whole_within : List Str := ["value", "low", "high"]
theorem x_whole_within : FnScope Ns_whole_within ["value", "low", "high"] (defScope s_whole_within) := ⟨rfl, rfl, rfl, by decide +kernel, rfl, by decide +kernel, by decide +kernel⟩
abbrev s_first_wrong : Stmt := topS 4
abbrev Ns_first_wrong : List Str := ["rows", "name", "right"]
theorem x_first_wrong : FnScope Ns_first_wrong ["rows"] (defScope s_first_wrong) := ⟨rfl, rfl, rfl, by decide +kernel, rfl, by decide +kernel, by decide +kernel⟩
abbrev s_is_name : Stmt := topS 10
abbrev Ns_is_name : List Str := ["name", "sign"]
theorem x_is_name : FnScope Ns_is_name ["name"] (defScope s_is_name) := ⟨rfl, rfl, rfl, by decide +kernel, rfl, by decide +kernel, by decide +kernel⟩
abbrev s_fault_of_limits : Stmt := topS 11
abbrev Ns_fault_of_limits : List Str := ["rows", "index", "row", "name", "kind", "numbers", "key", "word", "other"]
theorem x_fault_of_limits : FnScope Ns_fault_of_limits ["rows"] (defScope s_fault_of_limits) := ⟨rfl, rfl, rfl, by decide +kernel, rfl, by decide +kernel, by decide +kernel⟩
abbrev s_are_numbers : Stmt := topS 12
abbrev Ns_are_numbers : List Str := ["kind", "numbers", "leasts", "number", "least"]
theorem x_are_numbers : FnScope Ns_are_numbers ["kind", "numbers"] (defScope s_are_numbers) := ⟨rfl, rfl, rfl, by decide +kernel, rfl, by decide +kernel, by decide +kernel⟩
abbrev s_is_key : Stmt := topS 13
abbrev Ns_is_key : List Str := ["key", "words", "bits", "word"]
theorem x_is_key : FnScope Ns_is_key ["key"] (defScope s_is_key) := ⟨rfl, rfl, rfl, by decide +kernel, rfl, by decide +kernel, by decide +kernel⟩
abbrev s_key_of : Stmt := topS 14
abbrev Ns_key_of : List Str := ["row", "asker", "word"]
theorem x_key_of : FnScope Ns_key_of ["row", "asker"] (defScope s_key_of) := ⟨rfl, rfl, rfl, by decide +kernel, rfl, by decide +kernel, by decide +kernel⟩
abbrev s_told_by : Stmt := topS 15
abbrev Ns_told_by : List Str := ["word", "asker", "kind", "outside", "inside", "service", "bits"]
theorem x_told_by : FnScope Ns_told_by ["word", "asker"] (defScope s_told_by) := ⟨rfl, rfl, rfl, by decide +kernel, rfl, by decide +kernel, by decide +kernel⟩
abbrev s_law_state : Stmt := topS 17
abbrev Ns_law_state : List Str := ["script", "cells", "cell"]
theorem x_law_state : FnScope Ns_law_state ["script"] (defScope s_law_state) := ⟨rfl, rfl, rfl, by decide +kernel, rfl, by decide +kernel, by decide +kernel⟩
abbrev s_law_take : Stmt := topS 18
abbrev Ns_law_take : List Str := ["state", "most", "cells", "at", "cell", "mixed"]
theorem x_law_take : FnScope Ns_law_take ["state", "most"] (defScope s_law_take) := ⟨rfl, rfl, rfl, by decide +kernel, rfl, by decide +kernel, by decide +kernel⟩
abbrev s_law_limit : Stmt := topS 19
abbrev Ns_law_limit : List Str := ["state", "k", "name", "kind", "great", "numbers", "words", "key", "word", "j"]
theorem x_law_limit : FnScope Ns_law_limit ["state", "k"] (defScope s_law_limit) := ⟨rfl, rfl, rfl, by decide +kernel, rfl, by decide +kernel, by decide +kernel⟩
abbrev s_law_spoilt : Stmt := topS 20
abbrev Ns_law_spoilt : List Str := ["state", "row", "name", "kind", "numbers", "key", "what", "later", "bad", "great"]
theorem x_law_spoilt : FnScope Ns_law_spoilt ["state", "row"] (defScope s_law_spoilt) := ⟨rfl, rfl, rfl, by decide +kernel, rfl, by decide +kernel, by decide +kernel⟩
abbrev s_law_key : Stmt := topS 21
abbrev Ns_law_key : List Str := ["row", "asker", "kind", "outside", "inside", "service", "found", "word"]
theorem x_law_key : FnScope Ns_law_key ["row", "asker"] (defScope s_law_key) := ⟨rfl, rfl, rfl, by decide +kernel, rfl, by decide +kernel, by decide +kernel⟩
abbrev s_law_high : Stmt := topS 22
abbrev Ns_law_high : List Str := ["address", "bits", "value", "k"]
theorem x_law_high : FnScope Ns_law_high ["address", "bits"] (defScope s_law_high) := ⟨rfl, rfl, rfl, by decide +kernel, rfl, by decide +kernel, by decide +kernel⟩
abbrev s_law : Stmt := topS 23
abbrev Ns_law : List Str := ["script", "state", "rows", "many", "turn", "at", "bad", "word", "spoilt", "address", "asker", "row", "names", "k", "name", "due"]
theorem x_law : FnScope Ns_law ["script"] (defScope s_law) := ⟨rfl, rfl, rfl, by decide +kernel, rfl, by decide +kernel, by decide +kernel⟩
/-- what the top has written -/
structure Df (K : PySem.W.Frag) (mg : Str → Option Value) (x : Str) (st : Stmt) (ps : List Str) (a : Addr) (fd : FuncData) : Prop where
  F : Fun K x x st a fd
  b : Binds K fd ps []
  g : mg x = some (.ref a)
structure Tx (K : PySem.W.Frag) (mg : Str → Option Value) (w : World) where
  ad_is_number : Addr
  fd_is_number : FuncData
  d_is_number : Df K mg "is_number" s_is_number ["value"] ad_is_number fd_is_number
  ad_whole_within : Addr
  fd_whole_within : FuncData
  d_whole_within : Df K mg "whole_within" s_whole_within ["value", "low", "high"] ad_whole_within fd_whole_within
  ad_first_wrong : Addr
  fd_first_wrong : FuncData
  d_first_wrong : Df K mg "first_wrong" s_first_wrong ["rows"] ad_first_wrong fd_first_wrong
  ad_is_name : Addr
  fd_is_name : FuncData
  d_is_name : Df K mg "is_name" s_is_name ["name"] ad_is_name fd_is_name
  ad_fault_of_limits : Addr
  fd_fault_of_limits : FuncData
  d_fault_of_limits : Df K mg "fault_of_limits" s_fault_of_limits ["rows"] ad_fault_of_limits fd_fault_of_limits
  ad_are_numbers : Addr
  fd_are_numbers : FuncData
  d_are_numbers : Df K mg "_are_numbers" s_are_numbers ["kind", "numbers"] ad_are_numbers fd_are_numbers
  ad_is_key : Addr
  fd_is_key : FuncData
  d_is_key : Df K mg "_is_key" s_is_key ["key"] ad_is_key fd_is_key
  ad_key_of : Addr
  fd_key_of : FuncData
  d_key_of : Df K mg "key_of" s_key_of ["row", "asker"] ad_key_of fd_key_of
  ad_told_by : Addr
  fd_told_by : FuncData
  d_told_by : Df K mg "_told_by" s_told_by ["word", "asker"] ad_told_by fd_told_by
  ad_law_state : Addr
  fd_law_state : FuncData
  d_law_state : Df K mg "_law_state" s_law_state ["script"] ad_law_state fd_law_state
  ad_law_take : Addr
  fd_law_take : FuncData
  d_law_take : Df K mg "_law_take" s_law_take ["state", "most"] ad_law_take fd_law_take
  ad_law_limit : Addr
  fd_law_limit : FuncData
  d_law_limit : Df K mg "_law_limit" s_law_limit ["state", "k"] ad_law_limit fd_law_limit
  ad_law_spoilt : Addr
  fd_law_spoilt : FuncData
  d_law_spoilt : Df K mg "_law_spoilt" s_law_spoilt ["state", "row"] ad_law_spoilt fd_law_spoilt
  ad_law_key : Addr
  fd_law_key : FuncData
  d_law_key : Df K mg "_law_key" s_law_key ["row", "asker"] ad_law_key fd_law_key
  ad_law_high : Addr
  fd_law_high : FuncData
  d_law_high : Df K mg "_law_high" s_law_high ["address", "bits"] ad_law_high fd_law_high
  ad_law : Addr
  fd_law : FuncData
  d_law : Df K mg "law" s_law ["script"] ad_law fd_law
  b_isinstance : mg "isinstance" = none
  b_int : mg "int" = none
  b_bool : mg "bool" = none
  b_all : mg "all" = none
  b_str : mg "str" = none
  b_len : mg "len" = none
  b_enumerate : mg "enumerate" = none
  b_tuple : mg "tuple" = none
  b_zip : mg "zip" = none
  b_range : mg "range" = none
  b_abs : mg "abs" = none
  b_list : mg "list" = none
  t_MOST_ROWS : Tok
  c_MOST_ROWS : mg "MOST_ROWS" = some (Value.int 16 t_MOST_ROWS)
  t_MOST_NUMBER : Tok
  c_MOST_NUMBER : mg "MOST_NUMBER" = some (Value.int 1000000 t_MOST_NUMBER)
  t_LETTERS : Tok
  c_LETTERS : mg "LETTERS" = some (Value.str "abcdefghijklmnopqrstuvwxyz" t_LETTERS)
  a_LEAST_NUMBERS : Addr
  g_LEAST_NUMBERS : mg "LEAST_NUMBERS" = some (.ref a_LEAST_NUMBERS)
  b_LEAST_NUMBERS_0 : Addr
  d_LEAST_NUMBERS_0 : KDct K w a_LEAST_NUMBERS (Str.ofString "bucket") (.ref b_LEAST_NUMBERS_0)
  k_LEAST_NUMBERS_0 : KTup K b_LEAST_NUMBERS_0 [.int 0, .int 1, .int 0]
  s_LEAST_NUMBERS_0 : Paired Sc [.int 0, .int 1, .int 0] [.int 0, .int 1, .int 0]
  b_LEAST_NUMBERS_1 : Addr
  d_LEAST_NUMBERS_1 : KDct K w a_LEAST_NUMBERS (Str.ofString "window") (.ref b_LEAST_NUMBERS_1)
  k_LEAST_NUMBERS_1 : KTup K b_LEAST_NUMBERS_1 [.int 0, .int 1]
  s_LEAST_NUMBERS_1 : Paired Sc [.int 0, .int 1] [.int 0, .int 1]
  b_LEAST_NUMBERS_2 : Addr
  d_LEAST_NUMBERS_2 : KDct K w a_LEAST_NUMBERS (Str.ofString "open") (.ref b_LEAST_NUMBERS_2)
  k_LEAST_NUMBERS_2 : KTup K b_LEAST_NUMBERS_2 [.int 0]
  s_LEAST_NUMBERS_2 : Paired Sc [.int 0] [.int 0]
section
variable {P : Program} {w : World} {K : PySem.W.Frag} {mg : Str → Option Value} {base : Heap}
theorem ixL0 {K : PySem.W.Frag} {H : Hp} {a : Addr} {xs : List V} {i : Int} {v : V} {Q : VK} (h : H a = some (.lst xs)) (hi : atI xs i = some v) (q : Q v H) : rIx K (.ref a) (.int i) H Q :=
  .inl ⟨a, xs, i, v, rfl, rfl, SqL.of h, hi, q⟩
theorem fits64 {m : Int} (h0 : 0 < m) (h : m < 2 ^ 64) : CDivW 0 m := wide_div (b := 64) h0 (by omega) (by decide) (by decide)
theorem ok0_law_take (T : Tx K mg w) : FnOk P w K mg base CX0 1 T.ad_law_take T.fd_law_take ["state", "most"] spTake := by
  refine T.d_law_take.F.ok x_law_take (fun vs H Q E h => ?_) (fun cdv A outer s H vs Q E hr h => ?_)
  · obtain ⟨p, c, m, rfl, _⟩ := h
    rfl
  · obtain ⟨p, c, m, rfl, hL, hm0, hm, q0⟩ := h
    have nd := x_law_take.nd
    have npc := hL.ne
    have q : ∀ (r : Int) (H' : Hp), 0 ≤ r → (r < m ∨ r < 1) → LS H' p c → Keep [p, c] H H' → Q (.int r) H' := fun r H' h0 h1 => q0 r H' h0 (by omega)
    obtain ⟨k, ns, h1, h2, h3⟩ := id hL
    refine ⟨_, (pss_cons (ps_set (i := 2) nd rfl (Or.inl rfl) (pe_ix ix_seq (pv 0) pe_int (fun _ _ => rfl)))
        (pss_cons (ps_set (i := 3) nd rfl (Or.inl rfl) (pe_op op_mod (pe_callTy call_int1 (by rfl) T.b_int (by decide +kernel) (pa_cons (pe_ix ix_seq (pv 0) pe_int (fun _ _ => rfl)) pa_nil)) (pe_callB call_len_seq (by rfl) T.b_len (by decide +kernel) (pa_cons (pv 2) pa_nil))))
        (pss_cons (ps_set (i := 4) nd rfl (Or.inl rfl) (pe_ix ix_seq (pv 2) (pv 3) (fun _ _ => rfl)))
        (pss_cons (ps_if (pt_cmpR op_ge (pv 4) pe_int (nomark _)) (pss_cons (ps_asg (pe_op op_fdivW (pv 4) (pv 1)) (pg_sub (pv 2) (pv 3) set_list))
        (pss_one (ps_ret (pe_op op_mod (pe_callTy call_int1 (by rfl) T.b_int (by decide +kernel) (pa_cons (pv 4) pa_nil)) (pv 1))))) pss_nil)
        (pss_cons (ps_asg (pe_op op_add (pe_ix ix_seq (pv 0) pe_int (fun _ _ => rfl)) pe_int) (pg_sub (pv 0) pe_int set_list))
        (pss_cons (ps_set (i := 5) nd rfl (Or.inl rfl) (pe_op op_mod (pe_callTy call_int1 (by rfl) T.b_int (by decide +kernel) (pa_cons (pe_op op_add (pe_op op_mul (pv 4) pe_int) (pe_op op_mul (pe_ix ix_seq (pv 0) pe_int (fun _ _ => rfl)) pe_int)) pa_nil)) pe_int))
        (pss_cons (ps_set (i := 5) nd rfl (Or.inl rfl) (pe_op op_mod (pe_callTy call_int1 (by rfl) T.b_int (by decide +kernel) (pa_cons (pe_op op_add (pe_op op_mul (pv 5) pe_int) (pe_op op_mul (pe_ix ix_seq (pv 0) pe_int (fun _ _ => rfl)) pe_int)) pa_nil)) pe_int))
        (pss_one (ps_ret (pe_op op_mod (pe_callTy call_int1 (by rfl) T.b_int (by decide +kernel) (pa_cons (pe_op op_fdiv (pv 5) pe_int) pa_nil)) (pv 1))))))))))), ?_⟩
    have cd : ∀ x : Int, CDivW x m := fun x => fits64 hm0 hm
    have hl0 : (ns.map V.int) ≠ [] := by
      cases ns with
      | nil => exact absurd rfl h3
      | cons _ _ => intro z; cases z
    obtain ⟨j, v, ej, hj, hv⟩ := at_mod hl0 k
    have hjn : j < ns.length := by rw [List.length_map] at hj; exact hj
    obtain ⟨x, hx, rfl⟩ : ∃ x, ns[j]? = some x ∧ v = V.int x := by
      rw [List.getElem?_map] at hv
      cases e : ns[j]? with
      | none => rw [e] at hv; cases hv
      | some x => rw [e] at hv; exact ⟨x, rfl, (Option.some.inj hv).symm⟩
    have hpos : (0 : Int) < ((ns.map V.int).length : Int) := by omega
    refine ⟨_, rfl, ixL0 h1 (atI_nat (j := 1) rfl) ?_⟩
    refine ⟨_, rfl, ixL0 h1 (atI_nat (j := 0) rfl) (.inl ⟨_, rfl, ?_⟩)⟩
    refine ⟨_, rfl, _, _, rfl, .inl (SqL.of h2), _, _, rfl, rfl, hpos, ?_⟩
    refine ⟨_, rfl, _, rfl, ixL0 h2 (at_of ej hv) ?_⟩
    refine ⟨_, rfl, _, _, rfl, rfl, _, rfl, ite2 (fun eb => ?_) (fun eb => ?_)⟩
    · refine ⟨_, rfl, _, rfl, _, _, rfl, rfl, cd _, _, rfl, _, rfl, _, _, _, j, rfl, rfl, h2, ?_, ?_⟩
      · rw [ej]
        unfold ixN
        rw [if_pos (by omega), if_pos (by omega)]
        exact congrArg some (by omega)
      · refine ⟨_, rfl, .inl ⟨_, rfl, _, rfl, _, _, rfl, rfl, hm0, ?_⟩⟩
        have r := emod_rng x (m := m) hm0
        refine q _ _ r.1 (.inl r.2) ⟨k, ns.set j (x / m), by rw [upd_ne npc]; exact h1, by rw [upd_same, List.map_set], ?_⟩ fun b o e hb => by
          rw [upd_ne (fun z => hb (by rw [z]; simp))]
          exact e
        intro z
        have zz := congrArg List.length z
        rw [List.length_set] at zz
        have : ns.length = 0 := zz
        omega
    · refine ⟨_, rfl, ixL0 h1 (atI_nat (j := 0) rfl) ⟨_, _, rfl, rfl, _, rfl, _, _, _, 0, rfl, rfl, h1, rfl, ?_⟩⟩
      have g1 : (upd H p (.lst ([V.int k, V.ref c].set 0 (.int (k + 1))))) p = some (.lst [V.int (k + 1), V.ref c]) := upd_same
      have hL' : LS (upd H p (.lst ([V.int k, V.ref c].set 0 (.int (k + 1))))) p c := ⟨k + 1, ns, g1, by rw [upd_ne npc.symm]; exact h2, h3⟩
      have hk : Keep [p, c] H (upd H p (.lst ([V.int k, V.ref c].set 0 (.int (k + 1))))) := fun b o e hb => by
        rw [upd_ne (fun z => hb (by rw [z]; simp))]
        exact e
      generalize upd H p (.lst ([V.int k, V.ref c].set 0 (.int (k + 1)))) = H1 at g1 hL' hk ⊢
      refine ⟨_, rfl, _, _, rfl, rfl, .inr ⟨by decide, by decide⟩, _, rfl, ixL0 g1 (atI_nat (j := 0) rfl) ⟨_, _, rfl, rfl, .inr ⟨by decide, by decide⟩, _, _, rfl, rfl, .inl ⟨_, rfl, _, _, rfl, rfl, (by show (0 : Int) < 2147483647; decide), ?_⟩⟩⟩
      refine ⟨_, rfl, _, _, rfl, rfl, .inr ⟨by decide, by decide⟩, _, rfl, ixL0 g1 (atI_nat (j := 0) rfl) ⟨_, _, rfl, rfl, .inr ⟨by decide, by decide⟩, _, _, rfl, rfl, .inl ⟨_, rfl, _, _, rfl, rfl, (by show (0 : Int) < 1000000007; decide), ?_⟩⟩⟩
      refine ⟨_, rfl, _, _, rfl, rfl, ⟨by decide, by decide⟩, .inl ⟨_, rfl, _, rfl, _, _, rfl, rfl, hm0, ?_⟩⟩
      have r := emod_rng ((((x * 48271 + (k + 1) * 69621) % 2147483647 * 16807 + (k + 1) * 7919) % 1000000007) / 7) (m := m) hm0
      exact q _ _ r.1 (.inl r.2) hL' hk
theorem ok_law_take (T : Tx K mg w) : FnOk P w K mg base CX0 1 T.ad_law_take T.fd_law_take ["state", "most"] (spS K (F1 sTake)) := (ok0_law_take T).imp take_of
theorem ok_law_state (T : Tx K mg w) : FnOk P w K mg base CX0 1 T.ad_law_state T.fd_law_state ["script"] (spState K) := by
  refine T.d_law_state.F.ok x_law_state (fun vs H Q E h => ?_) (fun cdv A outer s H vs Q E hr h => ?_)
  · obtain ⟨a, ns, rfl, _⟩ := h
    rfl
  · obtain ⟨a, ns, rfl, hS, hlen, q⟩ := h
    have nd := x_law_state.nd
    refine ⟨_, (pss_cons (ps_setLc (i := 1) (own := [("cell", 2)]) (g := (gName 2)) rfl nd rfl rfl (sw_true rfl rfl rfl (by decide +kernel)) (pi_list (pe_slice sl_list (pv 0) po_none (po_some pe_int))) (blkOk_by (own := [("cell", 2)]) (N := Ns_law_state) (sc := defScope s_law_state) (by decide +kernel)) (fun _ _ _ _ _ => (pg_name (i := 2) nd rfl (Or.inl rfl))) (fun _ _ _ _ _ => pts_nil) (fun _ _ _ _ _ => (pe_callB call_abs (by rfl) T.b_abs (by decide +kernel) (pa_cons (pv 2) pa_nil))))
        (pss_cons (ps_if (pt_cmpR op_eq (pe_callB call_len_seq (by rfl) T.b_len (by decide +kernel) (pa_cons (pv 1) pa_nil)) pe_int (nomark _)) (pss_one (ps_set (i := 1) nd rfl (Or.inl rfl) (pe_lst (pa_cons pe_int pa_nil)))) pss_nil)
        (pss_one (ps_ret (pe_lst (pa_cons pe_int (pa_cons (pv 1) pa_nil))))))), ?_⟩
    have hml : (ns.map V.int).length ≤ 63 := by rw [List.length_map]; exact hlen
    refine ⟨_, rfl, 63, rfl, a, _, rfl, hS, fun p np => ?_⟩
    rw [cut63 _ hml]
    have g0 : (upd H p (.lst (ns.map V.int))) p = some (.lst (ns.map V.int)) := upd_same
    have s0 : Same H (upd H p (.lst (ns.map V.int))) := same_upd np
    generalize upd H p (.lst (ns.map V.int)) = H0 at g0 s0 ⊢
    refine ⟨p, rfl, ⟨_, SqL.of g0⟩, fun L hD => lc_list (K := K) (a := p) (xs := ns.map V.int) (fun i H1 => Same H0 H1 ∧ H1 L = some (.lst (((ns.take i).map fun x => if x < 0 then -x else x).map V.int))) ⟨same_upd hD, upd_same⟩ (fun i H1 _ z => SqL.of (z.1 _ _ g0)) ?_ ?_⟩
    · rintro i x H1 hi ⟨s1, g1⟩
      obtain ⟨z, hz, rfl⟩ : ∃ z, ns[i]? = some z ∧ x = V.int z := by
        rw [List.getElem?_map] at hi
        cases e : ns[i]? with
        | none => rw [e] at hi; cases hi
        | some z => rw [e] at hi; exact ⟨z, rfl, (Option.some.inj hi).symm⟩
      have hil := (List.getElem?_eq_some_iff.mp hz).1
      refine ⟨rfl, ?_⟩
      refine ⟨_, rfl, z, rfl, _, g1, ?_, fun b o e => ?_, ?_⟩
      · rw [List.length_map, List.length_map, List.length_take]
        exact small1000 (by omega)
      · rw [upd_ne (ne_of_none e hD)]
        exact s1 _ _ e
      · rw [upd_same, List.take_add_one, hz]
        simp
    · rintro H1 ⟨s1, g1⟩
      rw [List.length_map, List.take_length] at g1
      have np2 : H L = none := s0.free hD
      refine ⟨_, rfl, L, _, rfl, .inl (SqL.of g1), rfl, _, rfl, ite2 (fun e => ?_) (fun e => ?_)⟩
      · refine ⟨by show 1 ≤ sizeLine; decide, fun c hc => ?_⟩
        refine ⟨_, rfl, by show 2 ≤ sizeLine; decide, fun r hr' => ?_⟩
        have s2 : Same H1 (upd H1 c (.lst [.int 0])) := same_upd hc
        have s3 : Same (upd H1 c (.lst [.int 0])) (upd (upd H1 c (.lst [.int 0])) r (.lst [.int 0, .ref c])) := same_upd hr'
        refine q r c _ ⟨0, [0], upd_same, s3 _ _ upd_same, by intro z; cases z⟩ (s0.trans (s1.trans (s2.trans s3))) ?_ ?_
        · exact s0.free (s1.free (s2.free hr'))
        · exact s0.free (s1.free hc)
      · refine ⟨_, rfl, by show 2 ≤ sizeLine; decide, fun r hr' => ?_⟩
        have s3 : Same H1 (upd H1 r (.lst [.int 0, .ref L])) := same_upd hr'
        refine q r L _ ⟨0, _, upd_same, s3 _ _ g1, ?_⟩ (s0.trans (s1.trans s3)) (s0.free (s1.free hr')) np2
        intro z
        refine e (decide_eq_true (congrArg V.int ?_))
        rw [List.length_map, z]
        rfl
end

abbrev LR := D × D × D × D
def eL (r : LR) : D := .tuple [r.1, r.2.1, r.2.2.1, r.2.2.2]
def LT : Str := Str.ofString "abcdefghijklmnopqrstuvwxyz"
def isNm : D → Bool
  | .str z => decide (1 ≤ z.length ∧ z.length ≤ 10) && z.cps.toList.all (fun c => decide (c ∈ LT.cps.toList))
  | _ => false
def leasts : D → Option (List Int)
  | .str z => if z = Str.ofString "bucket" then some [0, 1, 0] else if z = Str.ofString "window" then some [0, 1] else if z = Str.ofString "open" then some [0] else none
  | _ => none
def isNum (d : D) : Bool := isTy "int" d && !isTy "bool" d
def whole (a : D) (lo hi : Int) : Bool := match a with | .int n => decide (lo ≤ n) && decide (n ≤ hi) | _ => false
def nums (k ns : D) : Bool := match leasts k, ns with
  | some ls, .tuple xs => decide (xs.length = ls.length) && (xs.zip ls).all fun p => whole p.1 p.2 1000000
  | _, _ => false
def bw (n : Nat) : Str := Str.ofString "outside " ++ Str.ofString (toString (n : Int))
def WD : List Str := [Str.ofString "outside", Str.ofString "inside", Str.ofString "service", Str.ofString "kind"] ++ (List.range 31).map fun n => bw (n + 1)
def isW (d : D) : Bool := inD d (WD.map PyData.str)
def unT : D → List D | .tuple ds => ds | _ => []
def keyOk : D → Bool
  | .tuple xs => xs.all isW && decide ((xs.map keyOf).Nodup)
  | _ => false
def fw (rs : List (Str × Bool)) : D := match rs.find? (fun r => !r.2) with | some r => .str r.1 | none => .none
def fwL (rs : List LR) (i : Nat) (u : LR) : D := fw [("name", isNm u.1), ("twice", !inD u.1 ((rs.take i).map (·.1))), ("kind", (leasts u.2.1).isSome), ("numbers", nums u.2.1 u.2.2.1), ("key", keyOk u.2.2.2)]
def fltG (rs : List LR) : Nat → List LR → D
  | _, [] => .none
  | k, u :: r => if isNo (fwL rs k u) = true then fltG rs (k + 1) r else .tuple [.int (k : Nat), fwL rs k u]
def flt (rs : List LR) : D := if 16 < rs.length then .tuple [.int 16, .str "limits"] else fltG rs 0 rs
def slen : D → Nat | .str z => z.length | _ => 0
def LSz (r : LR) : Prop := slen r.1 ≤ 1000 ∧ flatD r.1 = true ∧ flatD r.2.1 = true ∧ (unT r.2.2.1).length ≤ 1000 ∧ (unT r.2.2.2).length ≤ 1000 ∧ ∀ w ∈ unT r.2.2.2, flatD w = true
section
variable {P : Program} {w : World} {K : PySem.W.Frag} {mg : Str → Option Value} {base : Heap}
theorem rv_fdivW : RfV2 K (rI CDivW fun i j => .int (i / j)) (oI CDivW fun i j => .int (i / j)) := rv_I fun _ _ => .int _
theorem ok_is_number (T : Tx K mg w) : FnOk P w K mg base CX0 1 T.ad_is_number T.fd_is_number ["value"] (spD K (F1 fun a Q => Q (.bool (isNum a)))) := by
  refine T.d_is_number.F.ok x_is_number (fun vs H Q E h => spD_len F1_len h) (fun cdv A outer s H vs Q E hr h => ?_)
  have nd := x_is_number.nd
  refine ⟨_, (pss_one (ps_ret (pe_and (pe_callB call_isi (by rfl) T.b_isinstance (by decide +kernel) (pa_cons (pv 0) (pa_cons (pe_bltn (v := .ty "int") (by rfl) T.b_int (by decide +kernel) rfl) pa_nil))) (pe_one (pe_not (pe_callB call_isi (by rfl) T.b_isinstance (by decide +kernel) (pa_cons (pv 0) (pa_cons (pe_bltn (v := .ty "bool") (by rfl) T.b_bool (by decide +kernel) rfl) pa_nil)))))))), fn_pure ((rs_ret (re_and (re_isi (RfE.b (rn 0))) (re_not (re_isi (RfE.b (rn 0))))))) h (by rw [spD_len F1_len h]; decide) (F1_in fun a0 Qd q => ?_)⟩
  simp only [true_and, ↓q_sTake, ↓q_sTake0, ↓q_sPick, ↓q_sNumber, rng_1, rng_2, rng_3, rng_4, rng_6, ↓q_dKd, dix_0, dix_1, dix_2, dix_3, dix_4, dix_5, dix_6, dix_7, dix_8, dix_9, Bool.not_false, Bool.not_true, Bool.and_true, Bool.true_and, Bool.and_false, Bool.false_and, decide_eq_true_eq, Bool.not_eq_true', decide_eq_false_iff_not, Bool.false_eq_true, if_true, if_false, ↓q_F0, ↓q_F1, ↓q_F2, ↓q_F3, ↓q_F4, ↓q_F5, ↓q_F6, ↓q_dParO1, ↓q_dParO2, ↓q_dEnumT, ↓q_oRepr, ↓q_dUn, ↓q_oNeg, ↓q_dSeq, ↓q_dRet, ↓q_dRetN, ↓q_dIf, ↓q_dAsg, ↓q_dDrop, ↓q_dBreak, ↓q_dCont, ↓q_dNext, ↓q_dOwn, ↓q_dApp, ↓q_dSetIx, ↓q_dFrz, frz, ↓q_dPar, ↓q_dAug, ↓q_dFor, ↓q_dN, ↓q_dNB, ↓q_dC, ↓q_dOp, ↓q_oI, ↓q_oI0, ↓q_oB, ↓q_oEq, ↓q_oEqS, eqS, ↓q_oIsN, isNo, ↓q_oIx, ↓q_oIx_1, ↓q_oIxS, seqOf, ↓q_oCat, ↓q_oCatT, ↓q_oCatS, ↓q_oIn, ↓q_oInS, ↓q_dTb, ↓q_dAnd, ↓q_dOr, ↓q_dNot, ↓q_dYes, ↓q_dAndV, ↓q_dOrV, ↓q_dNotV, ↓q_dIfV, ↓q_dChain, ↓q_dNil, ↓q_dCons, ↓q_dL, ↓q_dTup, ↓q_dCB, ↓q_oAbs, ↓q_oI2, ↓q_oLen, ↓q_oLenS, ↓q_oInt, ↓q_oInt_1, ↓q_oSum, ↓q_oBs, ↓q_oTupOf, ↓q_dSeqOf, ↓q_dIsi, it_bool_none, it_bool_bool, it_bool_int, it_bool_str, it_bool_list, it_bool_tuple, it_bool_dict, it_int_none, it_int_bool, it_int_int, it_int_str, it_int_list, it_int_tuple, it_int_dict, it_str_none, it_str_bool, it_str_int, it_str_str, it_str_list, it_str_tuple, it_str_dict, it_list_none, it_list_bool, it_list_int, it_list_str, it_list_list, it_list_tuple, it_list_dict, it_tuple_none, it_tuple_bool, it_tuple_int, it_tuple_str, it_tuple_list, it_tuple_tuple, it_tuple_dict, it_dict_none, it_dict_bool, it_dict_int, it_dict_str, it_dict_list, it_dict_tuple, it_dict_dict, ↓q_dNoP, ↓q_dPart, ↓q_dSlT, ↓q_dSlL, ↓q_dSlS, ↓q_dCall, ↓q_dCallS, ↓q_dItL, ↓q_dItT, ↓q_dItS, ↓q_dR1, ↓q_dR2, ↓q_dZip, ↓q_dEnum, ↓q_gN, ↓q_gNi, ↓q_gCo, ↓q_gCo_1, ↓q_gT, ↓q_dLc, ↓q_dDc, ↓q_dK, ↓q_oLenD, ↓q_dCL, ↓q_oRep, ↓q_oRepT, ↓q_dSortSet, ↓q_dSort2, ↓q_sSame, ↓q_oStr, ↓q_oIntS, ↓q_oOrd, ↓q_oMulS, ↓q_dM0, ↓q_dM1, ↓q_sLower, ↓q_sUpper, ↓q_sStarts, ↓q_sEnds, ↓q_dSplit, ↓q_dJoin, ↓q_dFmt, ↓q_dJn, ↓q_dJc, ↓q_dFs, ↓q_dDg, ↓q_dDin, ↓q_dDgx, keyOf, Option.isSome_some, wipeE, eget, eset, List.set, ev0, List.map_cons, List.map_nil, List.cons_append, List.nil_append, List.replicate_succ, List.replicate_zero, noOwn, isOwn, List.all_cons, List.all_nil, List.length_cons, List.length_nil, Bool.true_eq_false, not_false_eq_true, not_true_eq_false]
  unfold isNum at q
  cases e : isTy "int" a0 with
  | true =>
    rw [e, Bool.true_and] at q
    rw [if_pos rfl]
    exact q
  | false =>
    rw [e, Bool.false_and] at q
    rw [if_neg (by decide)]
    exact q
theorem ok_whole_within (T : Tx K mg w) : FnOk P w K mg base CX0 2 T.ad_whole_within T.fd_whole_within ["value", "low", "high"] (spD K (F3 fun a b c Q => ∃ lo hi, b = .int lo ∧ c = .int hi ∧ Q (.bool (whole a lo hi)))) := by
  refine T.d_whole_within.F.ok x_whole_within (fun vs H Q E h => spD_len F3_len h) (fun cdv A outer s H vs Q E hr h => ?_)
  have nd := x_whole_within.nd
  refine ⟨_, (pss_one (ps_ret (pe_and (pe_call (ok_is_number T) hr (by rfl) T.d_is_number.g T.d_is_number.F.kp T.d_is_number.b .nil pass0 (pa_cons (pv 0) pa_nil)) (pe_one (pe_chain op_le op_le (pv 1) (pv 0) (pv 2)))))), fn_pure ((rs_ret (re_and (re_call (raC (rn 0) raN)) (re_chain rv_le rv_le (RfE.b (rn 1)) (RfE.b (rn 0)) (RfE.b (rn 2)))))) h (by rw [spD_len F3_len h]; decide) (F3_in fun a0 a1 a2 Qd q => ?_)⟩
  obtain ⟨lo, hi, rfl, rfl, q⟩ := q
  simp only [true_and, ↓q_sTake, ↓q_sTake0, ↓q_sPick, ↓q_sNumber, rng_1, rng_2, rng_3, rng_4, rng_6, ↓q_dKd, dix_0, dix_1, dix_2, dix_3, dix_4, dix_5, dix_6, dix_7, dix_8, dix_9, Bool.not_false, Bool.not_true, Bool.and_true, Bool.true_and, Bool.and_false, Bool.false_and, decide_eq_true_eq, Bool.not_eq_true', decide_eq_false_iff_not, Bool.false_eq_true, if_true, if_false, ↓q_F0, ↓q_F1, ↓q_F2, ↓q_F3, ↓q_F4, ↓q_F5, ↓q_F6, ↓q_dParO1, ↓q_dParO2, ↓q_dEnumT, ↓q_oRepr, ↓q_dUn, ↓q_oNeg, ↓q_dSeq, ↓q_dRet, ↓q_dRetN, ↓q_dIf, ↓q_dAsg, ↓q_dDrop, ↓q_dBreak, ↓q_dCont, ↓q_dNext, ↓q_dOwn, ↓q_dApp, ↓q_dSetIx, ↓q_dFrz, frz, ↓q_dPar, ↓q_dAug, ↓q_dFor, ↓q_dN, ↓q_dNB, ↓q_dC, ↓q_dOp, ↓q_oI, ↓q_oI0, ↓q_oB, ↓q_oEq, ↓q_oEqS, eqS, ↓q_oIsN, isNo, ↓q_oIx, ↓q_oIx_1, ↓q_oIxS, seqOf, ↓q_oCat, ↓q_oCatT, ↓q_oCatS, ↓q_oIn, ↓q_oInS, ↓q_dTb, ↓q_dAnd, ↓q_dOr, ↓q_dNot, ↓q_dYes, ↓q_dAndV, ↓q_dOrV, ↓q_dNotV, ↓q_dIfV, ↓q_dChain, ↓q_dNil, ↓q_dCons, ↓q_dL, ↓q_dTup, ↓q_dCB, ↓q_oAbs, ↓q_oI2, ↓q_oLen, ↓q_oLenS, ↓q_oInt, ↓q_oInt_1, ↓q_oSum, ↓q_oBs, ↓q_oTupOf, ↓q_dSeqOf, ↓q_dIsi, it_bool_none, it_bool_bool, it_bool_int, it_bool_str, it_bool_list, it_bool_tuple, it_bool_dict, it_int_none, it_int_bool, it_int_int, it_int_str, it_int_list, it_int_tuple, it_int_dict, it_str_none, it_str_bool, it_str_int, it_str_str, it_str_list, it_str_tuple, it_str_dict, it_list_none, it_list_bool, it_list_int, it_list_str, it_list_list, it_list_tuple, it_list_dict, it_tuple_none, it_tuple_bool, it_tuple_int, it_tuple_str, it_tuple_list, it_tuple_tuple, it_tuple_dict, it_dict_none, it_dict_bool, it_dict_int, it_dict_str, it_dict_list, it_dict_tuple, it_dict_dict, ↓q_dNoP, ↓q_dPart, ↓q_dSlT, ↓q_dSlL, ↓q_dSlS, ↓q_dCall, ↓q_dCallS, ↓q_dItL, ↓q_dItT, ↓q_dItS, ↓q_dR1, ↓q_dR2, ↓q_dZip, ↓q_dEnum, ↓q_gN, ↓q_gNi, ↓q_gCo, ↓q_gCo_1, ↓q_gT, ↓q_dLc, ↓q_dDc, ↓q_dK, ↓q_oLenD, ↓q_dCL, ↓q_oRep, ↓q_oRepT, ↓q_dSortSet, ↓q_dSort2, ↓q_sSame, ↓q_oStr, ↓q_oIntS, ↓q_oOrd, ↓q_oMulS, ↓q_dM0, ↓q_dM1, ↓q_sLower, ↓q_sUpper, ↓q_sStarts, ↓q_sEnds, ↓q_dSplit, ↓q_dJoin, ↓q_dFmt, ↓q_dJn, ↓q_dJc, ↓q_dFs, ↓q_dDg, ↓q_dDin, ↓q_dDgx, keyOf, Option.isSome_some, wipeE, eget, eset, List.set, ev0, List.map_cons, List.map_nil, List.cons_append, List.nil_append, List.replicate_succ, List.replicate_zero, noOwn, isOwn, List.all_cons, List.all_nil, List.length_cons, List.length_nil, Bool.true_eq_false, not_false_eq_true, not_true_eq_false]
  cases a0 with
  | int n =>
    rw [show isNum (.int n) = true from rfl, if_pos rfl]
    simp only [whole, true_and, ↓q_sTake, ↓q_sTake0, ↓q_sPick, ↓q_sNumber, rng_1, rng_2, rng_3, rng_4, rng_6, ↓q_dKd, dix_0, dix_1, dix_2, dix_3, dix_4, dix_5, dix_6, dix_7, dix_8, dix_9, Bool.not_false, Bool.not_true, Bool.and_true, Bool.true_and, Bool.and_false, Bool.false_and, decide_eq_true_eq, Bool.not_eq_true', decide_eq_false_iff_not, Bool.false_eq_true, if_true, if_false, ↓q_F0, ↓q_F1, ↓q_F2, ↓q_F3, ↓q_F4, ↓q_F5, ↓q_F6, ↓q_dParO1, ↓q_dParO2, ↓q_dEnumT, ↓q_oRepr, ↓q_dUn, ↓q_oNeg, ↓q_dSeq, ↓q_dRet, ↓q_dRetN, ↓q_dIf, ↓q_dAsg, ↓q_dDrop, ↓q_dBreak, ↓q_dCont, ↓q_dNext, ↓q_dOwn, ↓q_dApp, ↓q_dSetIx, ↓q_dFrz, frz, ↓q_dPar, ↓q_dAug, ↓q_dFor, ↓q_dN, ↓q_dNB, ↓q_dC, ↓q_dOp, ↓q_oI, ↓q_oI0, ↓q_oB, ↓q_oEq, ↓q_oEqS, eqS, ↓q_oIsN, isNo, ↓q_oIx, ↓q_oIx_1, ↓q_oIxS, seqOf, ↓q_oCat, ↓q_oCatT, ↓q_oCatS, ↓q_oIn, ↓q_oInS, ↓q_dTb, ↓q_dAnd, ↓q_dOr, ↓q_dNot, ↓q_dYes, ↓q_dAndV, ↓q_dOrV, ↓q_dNotV, ↓q_dIfV, ↓q_dChain, ↓q_dNil, ↓q_dCons, ↓q_dL, ↓q_dTup, ↓q_dCB, ↓q_oAbs, ↓q_oI2, ↓q_oLen, ↓q_oLenS, ↓q_oInt, ↓q_oInt_1, ↓q_oSum, ↓q_oBs, ↓q_oTupOf, ↓q_dSeqOf, ↓q_dIsi, it_bool_none, it_bool_bool, it_bool_int, it_bool_str, it_bool_list, it_bool_tuple, it_bool_dict, it_int_none, it_int_bool, it_int_int, it_int_str, it_int_list, it_int_tuple, it_int_dict, it_str_none, it_str_bool, it_str_int, it_str_str, it_str_list, it_str_tuple, it_str_dict, it_list_none, it_list_bool, it_list_int, it_list_str, it_list_list, it_list_tuple, it_list_dict, it_tuple_none, it_tuple_bool, it_tuple_int, it_tuple_str, it_tuple_list, it_tuple_tuple, it_tuple_dict, it_dict_none, it_dict_bool, it_dict_int, it_dict_str, it_dict_list, it_dict_tuple, it_dict_dict, ↓q_dNoP, ↓q_dPart, ↓q_dSlT, ↓q_dSlL, ↓q_dSlS, ↓q_dCall, ↓q_dCallS, ↓q_dItL, ↓q_dItT, ↓q_dItS, ↓q_dR1, ↓q_dR2, ↓q_dZip, ↓q_dEnum, ↓q_gN, ↓q_gNi, ↓q_gCo, ↓q_gCo_1, ↓q_gT, ↓q_dLc, ↓q_dDc, ↓q_dK, ↓q_oLenD, ↓q_dCL, ↓q_oRep, ↓q_oRepT, ↓q_dSortSet, ↓q_dSort2, ↓q_sSame, ↓q_oStr, ↓q_oIntS, ↓q_oOrd, ↓q_oMulS, ↓q_dM0, ↓q_dM1, ↓q_sLower, ↓q_sUpper, ↓q_sStarts, ↓q_sEnds, ↓q_dSplit, ↓q_dJoin, ↓q_dFmt, ↓q_dJn, ↓q_dJc, ↓q_dFs, ↓q_dDg, ↓q_dDin, ↓q_dDgx, keyOf, Option.isSome_some, wipeE, eget, eset, List.set, ev0, List.map_cons, List.map_nil, List.cons_append, List.nil_append, List.replicate_succ, List.replicate_zero, noOwn, isOwn, List.all_cons, List.all_nil, List.length_cons, List.length_nil, Bool.true_eq_false, not_false_eq_true, not_true_eq_false] at q ⊢
    by_cases c : lo ≤ n
    · rw [if_pos c]
      rw [decT c, Bool.true_and] at q
      exact q
    · rw [if_neg c]
      rw [decide_eq_false c, Bool.false_and] at q
      exact q
  | _ => exact q
theorem ok_first_wrong (T : Tx K mg w) : FnOk P w K mg base CX0 1 T.ad_first_wrong T.fd_first_wrong ["rows"] (spD K (F1 fun a Q => ∃ rs : List (Str × Bool), a = .list (rs.map fun r => .tuple [.str r.1, .bool r.2]) ∧ Q (fw rs))) := by
  refine T.d_first_wrong.F.ok x_first_wrong (fun vs H Q E h => spD_len F1_len h) (fun cdv A outer s H vs Q E hr h => ?_)
  have nd := x_first_wrong.nd
  refine ⟨_, (pss_cons (ps_for PassesOwn.never rfl (pi_list (pv 0)) (pg_tup (n := 2) rfl (pgs_cons (pg_name (i := 1) nd rfl (Or.inl rfl)) (pgs_cons (pg_name (i := 2) nd rfl (Or.inl rfl)) pgs_nil))) (pss_one (ps_if (pt_not (pt_val (pv 2))) (pss_one (ps_ret (pv 1))) pss_nil)))
        (pss_one (ps_ret pe_non))), fn_pure ((rs_seq (rs_for (ri_list (rn 0)) (rg_tup (rg_cons (rg_name 1) (rg_cons (rg_name 2) rg_nil))) (rs_if (rt_not (rt_val (rn 2))) (rs_ret (rn 1)) rs_next))
        (rs_ret rc_non))) h (by rw [spD_len F1_len h]; decide) (F1_in fun a0 Qd q => ?_)⟩
  obtain ⟨rs, rfl, q⟩ := q
  simp only [true_and, ↓q_sTake, ↓q_sTake0, ↓q_sPick, ↓q_sNumber, rng_1, rng_2, rng_3, rng_4, rng_6, ↓q_dKd, dix_0, dix_1, dix_2, dix_3, dix_4, dix_5, dix_6, dix_7, dix_8, dix_9, Bool.not_false, Bool.not_true, Bool.and_true, Bool.true_and, Bool.and_false, Bool.false_and, decide_eq_true_eq, Bool.not_eq_true', decide_eq_false_iff_not, Bool.false_eq_true, if_true, if_false, ↓q_F0, ↓q_F1, ↓q_F2, ↓q_F3, ↓q_F4, ↓q_F5, ↓q_F6, ↓q_dParO1, ↓q_dParO2, ↓q_dEnumT, ↓q_oRepr, ↓q_dUn, ↓q_oNeg, ↓q_dSeq, ↓q_dRet, ↓q_dRetN, ↓q_dIf, ↓q_dAsg, ↓q_dDrop, ↓q_dBreak, ↓q_dCont, ↓q_dNext, ↓q_dOwn, ↓q_dApp, ↓q_dSetIx, ↓q_dFrz, frz, ↓q_dPar, ↓q_dAug, ↓q_dFor, ↓q_dN, ↓q_dNB, ↓q_dC, ↓q_dOp, ↓q_oI, ↓q_oI0, ↓q_oB, ↓q_oEq, ↓q_oEqS, eqS, ↓q_oIsN, isNo, ↓q_oIx, ↓q_oIx_1, ↓q_oIxS, seqOf, ↓q_oCat, ↓q_oCatT, ↓q_oCatS, ↓q_oIn, ↓q_oInS, ↓q_dTb, ↓q_dAnd, ↓q_dOr, ↓q_dNot, ↓q_dYes, ↓q_dAndV, ↓q_dOrV, ↓q_dNotV, ↓q_dIfV, ↓q_dChain, ↓q_dNil, ↓q_dCons, ↓q_dL, ↓q_dTup, ↓q_dCB, ↓q_oAbs, ↓q_oI2, ↓q_oLen, ↓q_oLenS, ↓q_oInt, ↓q_oInt_1, ↓q_oSum, ↓q_oBs, ↓q_oTupOf, ↓q_dSeqOf, ↓q_dIsi, it_bool_none, it_bool_bool, it_bool_int, it_bool_str, it_bool_list, it_bool_tuple, it_bool_dict, it_int_none, it_int_bool, it_int_int, it_int_str, it_int_list, it_int_tuple, it_int_dict, it_str_none, it_str_bool, it_str_int, it_str_str, it_str_list, it_str_tuple, it_str_dict, it_list_none, it_list_bool, it_list_int, it_list_str, it_list_list, it_list_tuple, it_list_dict, it_tuple_none, it_tuple_bool, it_tuple_int, it_tuple_str, it_tuple_list, it_tuple_tuple, it_tuple_dict, it_dict_none, it_dict_bool, it_dict_int, it_dict_str, it_dict_list, it_dict_tuple, it_dict_dict, ↓q_dNoP, ↓q_dPart, ↓q_dSlT, ↓q_dSlL, ↓q_dSlS, ↓q_dCall, ↓q_dCallS, ↓q_dItL, ↓q_dItT, ↓q_dItS, ↓q_dR1, ↓q_dR2, ↓q_dZip, ↓q_dEnum, ↓q_gN, ↓q_gNi, ↓q_gCo, ↓q_gCo_1, ↓q_gT, ↓q_dLc, ↓q_dDc, ↓q_dK, ↓q_oLenD, ↓q_dCL, ↓q_oRep, ↓q_oRepT, ↓q_dSortSet, ↓q_dSort2, ↓q_sSame, ↓q_oStr, ↓q_oIntS, ↓q_oOrd, ↓q_oMulS, ↓q_dM0, ↓q_dM1, ↓q_sLower, ↓q_sUpper, ↓q_sStarts, ↓q_sEnds, ↓q_dSplit, ↓q_dJoin, ↓q_dFmt, ↓q_dJn, ↓q_dJc, ↓q_dFs, ↓q_dDg, ↓q_dDin, ↓q_dDgx, keyOf, Option.isSome_some, wipeE, eget, eset, List.set, ev0, List.map_cons, List.map_nil, List.cons_append, List.nil_append, List.replicate_succ, List.replicate_zero, noOwn, isOwn, List.all_cons, List.all_nil, List.length_cons, List.length_nil, Bool.true_eq_false, not_false_eq_true, not_true_eq_false]
  refine loop_by (fun rest env => ∃ (rs' : List (Str × Bool)) (s0 s1 s2 : Option En), rest = rs'.map (fun r => .tuple [.str r.1, .bool r.2]) ∧ fw rs' = fw rs ∧ env = [s0, s1, s2]) ?_ ?_ _ _ ⟨rs, _, _, _, rfl, rfl, rfl⟩
  · rintro env ⟨rs', s0, s1, s2, h1, h2, rfl⟩
    cases rs' with
    | nil => rw [← h2] at q; exact q
    | cons _ _ => cases h1
  · rintro d rest env N ⟨rs', s0, s1, s2, h1, h2, rfl⟩ hN
    cases rs' with
    | nil => cases h1
    | cons r rs' =>
      cases h1
      simp only [true_and, ↓q_sTake, ↓q_sTake0, ↓q_sPick, ↓q_sNumber, rng_1, rng_2, rng_3, rng_4, rng_6, ↓q_dKd, dix_0, dix_1, dix_2, dix_3, dix_4, dix_5, dix_6, dix_7, dix_8, dix_9, Bool.not_false, Bool.not_true, Bool.and_true, Bool.true_and, Bool.and_false, Bool.false_and, decide_eq_true_eq, Bool.not_eq_true', decide_eq_false_iff_not, Bool.false_eq_true, if_true, if_false, ↓q_F0, ↓q_F1, ↓q_F2, ↓q_F3, ↓q_F4, ↓q_F5, ↓q_F6, ↓q_dParO1, ↓q_dParO2, ↓q_dEnumT, ↓q_oRepr, ↓q_dUn, ↓q_oNeg, ↓q_dSeq, ↓q_dRet, ↓q_dRetN, ↓q_dIf, ↓q_dAsg, ↓q_dDrop, ↓q_dBreak, ↓q_dCont, ↓q_dNext, ↓q_dOwn, ↓q_dApp, ↓q_dSetIx, ↓q_dFrz, frz, ↓q_dPar, ↓q_dAug, ↓q_dFor, ↓q_dN, ↓q_dNB, ↓q_dC, ↓q_dOp, ↓q_oI, ↓q_oI0, ↓q_oB, ↓q_oEq, ↓q_oEqS, eqS, ↓q_oIsN, isNo, ↓q_oIx, ↓q_oIx_1, ↓q_oIxS, seqOf, ↓q_oCat, ↓q_oCatT, ↓q_oCatS, ↓q_oIn, ↓q_oInS, ↓q_dTb, ↓q_dAnd, ↓q_dOr, ↓q_dNot, ↓q_dYes, ↓q_dAndV, ↓q_dOrV, ↓q_dNotV, ↓q_dIfV, ↓q_dChain, ↓q_dNil, ↓q_dCons, ↓q_dL, ↓q_dTup, ↓q_dCB, ↓q_oAbs, ↓q_oI2, ↓q_oLen, ↓q_oLenS, ↓q_oInt, ↓q_oInt_1, ↓q_oSum, ↓q_oBs, ↓q_oTupOf, ↓q_dSeqOf, ↓q_dIsi, it_bool_none, it_bool_bool, it_bool_int, it_bool_str, it_bool_list, it_bool_tuple, it_bool_dict, it_int_none, it_int_bool, it_int_int, it_int_str, it_int_list, it_int_tuple, it_int_dict, it_str_none, it_str_bool, it_str_int, it_str_str, it_str_list, it_str_tuple, it_str_dict, it_list_none, it_list_bool, it_list_int, it_list_str, it_list_list, it_list_tuple, it_list_dict, it_tuple_none, it_tuple_bool, it_tuple_int, it_tuple_str, it_tuple_list, it_tuple_tuple, it_tuple_dict, it_dict_none, it_dict_bool, it_dict_int, it_dict_str, it_dict_list, it_dict_tuple, it_dict_dict, ↓q_dNoP, ↓q_dPart, ↓q_dSlT, ↓q_dSlL, ↓q_dSlS, ↓q_dCall, ↓q_dCallS, ↓q_dItL, ↓q_dItT, ↓q_dItS, ↓q_dR1, ↓q_dR2, ↓q_dZip, ↓q_dEnum, ↓q_gN, ↓q_gNi, ↓q_gCo, ↓q_gCo_1, ↓q_gT, ↓q_dLc, ↓q_dDc, ↓q_dK, ↓q_oLenD, ↓q_dCL, ↓q_oRep, ↓q_oRepT, ↓q_dSortSet, ↓q_dSort2, ↓q_sSame, ↓q_oStr, ↓q_oIntS, ↓q_oOrd, ↓q_oMulS, ↓q_dM0, ↓q_dM1, ↓q_sLower, ↓q_sUpper, ↓q_sStarts, ↓q_sEnds, ↓q_dSplit, ↓q_dJoin, ↓q_dFmt, ↓q_dJn, ↓q_dJc, ↓q_dFs, ↓q_dDg, ↓q_dDin, ↓q_dDgx, keyOf, Option.isSome_some, wipeE, eget, eset, List.set, ev0, List.map_cons, List.map_nil, List.cons_append, List.nil_append, List.replicate_succ, List.replicate_zero, noOwn, isOwn, List.all_cons, List.all_nil, List.length_cons, List.length_nil, Bool.true_eq_false, not_false_eq_true, not_true_eq_false]
      unfold fw at h2
      rw [List.find?_cons] at h2
      cases e : r.2 with
      | false =>
        rw [if_pos rfl]
        simp only [e] at h2
        unfold fw at q
        rw [← h2] at q
        exact q
      | true =>
        rw [if_neg (by decide)]
        simp only [e] at h2
        exact hN _ ⟨rs', _, _, _, rfl, h2, rfl⟩
theorem ok_is_name (T : Tx K mg w) : FnOk P w K mg base CX0 1 T.ad_is_name T.fd_is_name ["name"] (spD K (F1 fun a Q => slen a ≤ 1000 ∧ Q (.bool (isNm a)))) := by
  refine T.d_is_name.F.ok x_is_name (fun vs H Q E h => spD_len F1_len h) (fun cdv A outer s H vs Q E hr h => ?_)
  have nd := x_is_name.nd
  refine ⟨_, (pss_cons (ps_if (PW.pt (pw_or (pt_not (pt_val (pe_callB call_isi (by rfl) T.b_isinstance (by decide +kernel) (pa_cons (pv 0) (pa_cons (pe_bltn (v := .ty "str") (by rfl) T.b_str (by decide +kernel) rfl) pa_nil))))) (pw_or1 (pt_not (pt_chain op_le op_le pe_int (pe_callB call_len_str (by rfl) T.b_len (by decide +kernel) (pa_cons (pv 0) pa_nil)) pe_int))))) (pss_one (ps_ret pe_bl)) pss_nil)
        (pss_one (ps_ret (pe_callB (cr_all rfl) (by rfl) T.b_all (by decide +kernel) (pa_cons (pe_lc (own := [("sign", 1)]) (g := (gName 1)) rfl nd (pi_str (pv 0)) (blkOk_by (own := [("sign", 1)]) (N := Ns_is_name) (sc := defScope s_is_name) (by decide +kernel)) (fun _ _ _ _ _ => (pg_name (i := 1) nd rfl (Or.inl rfl))) (fun _ _ _ _ _ => pts_nil) (fun _ _ _ _ _ => (pe_cmpR op_in_sign (pv 1) (pe_glob (v := .str "abcdefghijklmnopqrstuvwxyz") rfl T.c_LETTERS ⟨_, rfl⟩) (by rfl)))) pa_nil))))), fn_pure ((rs_seq (rs_if (rt_or (rt_not (rt_val (re_isi (RfE.b (rn 0))))) (rt_not (rt_test (re_chain rv_le rv_le (RfE.b (rc_int _)) (RfE.b (re_cb ro_lenS (rbC (RfE.b (rn 0)) rbN))) (RfE.b (rc_int _)))))) (rs_ret (rc_bl _)) rs_next)
        (rs_ret (re_cb ro_all (rbC (RfE.b (RfF.e (rf_lc (ri_str (rn 0)) (rg_name 1) rt_yes (ro rv_inS (RfE.b (rn 1)) (RfE.b (rc_str _)))))) rbN))))) h (by rw [spD_len F1_len h]; decide) (F1_in fun a0 Qd q => ?_)⟩
  obtain ⟨hl, q⟩ := q
  simp only [true_and, ↓q_sTake, ↓q_sTake0, ↓q_sPick, ↓q_sNumber, rng_1, rng_2, rng_3, rng_4, rng_6, ↓q_dKd, dix_0, dix_1, dix_2, dix_3, dix_4, dix_5, dix_6, dix_7, dix_8, dix_9, Bool.not_false, Bool.not_true, Bool.and_true, Bool.true_and, Bool.and_false, Bool.false_and, decide_eq_true_eq, Bool.not_eq_true', decide_eq_false_iff_not, Bool.false_eq_true, if_true, if_false, ↓q_F0, ↓q_F1, ↓q_F2, ↓q_F3, ↓q_F4, ↓q_F5, ↓q_F6, ↓q_dParO1, ↓q_dParO2, ↓q_dEnumT, ↓q_oRepr, ↓q_dUn, ↓q_oNeg, ↓q_dSeq, ↓q_dRet, ↓q_dRetN, ↓q_dIf, ↓q_dAsg, ↓q_dDrop, ↓q_dBreak, ↓q_dCont, ↓q_dNext, ↓q_dOwn, ↓q_dApp, ↓q_dSetIx, ↓q_dFrz, frz, ↓q_dPar, ↓q_dAug, ↓q_dFor, ↓q_dN, ↓q_dNB, ↓q_dC, ↓q_dOp, ↓q_oI, ↓q_oI0, ↓q_oB, ↓q_oEq, ↓q_oEqS, eqS, ↓q_oIsN, isNo, ↓q_oIx, ↓q_oIx_1, ↓q_oIxS, seqOf, ↓q_oCat, ↓q_oCatT, ↓q_oCatS, ↓q_oIn, ↓q_oInS, ↓q_dTb, ↓q_dAnd, ↓q_dOr, ↓q_dNot, ↓q_dYes, ↓q_dAndV, ↓q_dOrV, ↓q_dNotV, ↓q_dIfV, ↓q_dChain, ↓q_dNil, ↓q_dCons, ↓q_dL, ↓q_dTup, ↓q_dCB, ↓q_oAbs, ↓q_oI2, ↓q_oLen, ↓q_oLenS, ↓q_oInt, ↓q_oInt_1, ↓q_oSum, ↓q_oBs, ↓q_oTupOf, ↓q_dSeqOf, ↓q_dIsi, it_bool_none, it_bool_bool, it_bool_int, it_bool_str, it_bool_list, it_bool_tuple, it_bool_dict, it_int_none, it_int_bool, it_int_int, it_int_str, it_int_list, it_int_tuple, it_int_dict, it_str_none, it_str_bool, it_str_int, it_str_str, it_str_list, it_str_tuple, it_str_dict, it_list_none, it_list_bool, it_list_int, it_list_str, it_list_list, it_list_tuple, it_list_dict, it_tuple_none, it_tuple_bool, it_tuple_int, it_tuple_str, it_tuple_list, it_tuple_tuple, it_tuple_dict, it_dict_none, it_dict_bool, it_dict_int, it_dict_str, it_dict_list, it_dict_tuple, it_dict_dict, ↓q_dNoP, ↓q_dPart, ↓q_dSlT, ↓q_dSlL, ↓q_dSlS, ↓q_dCall, ↓q_dCallS, ↓q_dItL, ↓q_dItT, ↓q_dItS, ↓q_dR1, ↓q_dR2, ↓q_dZip, ↓q_dEnum, ↓q_gN, ↓q_gNi, ↓q_gCo, ↓q_gCo_1, ↓q_gT, ↓q_dLc, ↓q_dDc, ↓q_dK, ↓q_oLenD, ↓q_dCL, ↓q_oRep, ↓q_oRepT, ↓q_dSortSet, ↓q_dSort2, ↓q_sSame, ↓q_oStr, ↓q_oIntS, ↓q_oOrd, ↓q_oMulS, ↓q_dM0, ↓q_dM1, ↓q_sLower, ↓q_sUpper, ↓q_sStarts, ↓q_sEnds, ↓q_dSplit, ↓q_dJoin, ↓q_dFmt, ↓q_dJn, ↓q_dJc, ↓q_dFs, ↓q_dDg, ↓q_dDin, ↓q_dDgx, keyOf, Option.isSome_some, wipeE, eget, eset, List.set, ev0, List.map_cons, List.map_nil, List.cons_append, List.nil_append, List.replicate_succ, List.replicate_zero, noOwn, isOwn, List.all_cons, List.all_nil, List.length_cons, List.length_nil, Bool.true_eq_false, not_false_eq_true, not_true_eq_false]
  cases a0 with
  | str z =>
    simp only [true_and, ↓q_sTake, ↓q_sTake0, ↓q_sPick, ↓q_sNumber, rng_1, rng_2, rng_3, rng_4, rng_6, ↓q_dKd, dix_0, dix_1, dix_2, dix_3, dix_4, dix_5, dix_6, dix_7, dix_8, dix_9, Bool.not_false, Bool.not_true, Bool.and_true, Bool.true_and, Bool.and_false, Bool.false_and, decide_eq_true_eq, Bool.not_eq_true', decide_eq_false_iff_not, Bool.false_eq_true, if_true, if_false, ↓q_F0, ↓q_F1, ↓q_F2, ↓q_F3, ↓q_F4, ↓q_F5, ↓q_F6, ↓q_dParO1, ↓q_dParO2, ↓q_dEnumT, ↓q_oRepr, ↓q_dUn, ↓q_oNeg, ↓q_dSeq, ↓q_dRet, ↓q_dRetN, ↓q_dIf, ↓q_dAsg, ↓q_dDrop, ↓q_dBreak, ↓q_dCont, ↓q_dNext, ↓q_dOwn, ↓q_dApp, ↓q_dSetIx, ↓q_dFrz, frz, ↓q_dPar, ↓q_dAug, ↓q_dFor, ↓q_dN, ↓q_dNB, ↓q_dC, ↓q_dOp, ↓q_oI, ↓q_oI0, ↓q_oB, ↓q_oEq, ↓q_oEqS, eqS, ↓q_oIsN, isNo, ↓q_oIx, ↓q_oIx_1, ↓q_oIxS, seqOf, ↓q_oCat, ↓q_oCatT, ↓q_oCatS, ↓q_oIn, ↓q_oInS, ↓q_dTb, ↓q_dAnd, ↓q_dOr, ↓q_dNot, ↓q_dYes, ↓q_dAndV, ↓q_dOrV, ↓q_dNotV, ↓q_dIfV, ↓q_dChain, ↓q_dNil, ↓q_dCons, ↓q_dL, ↓q_dTup, ↓q_dCB, ↓q_oAbs, ↓q_oI2, ↓q_oLen, ↓q_oLenS, ↓q_oInt, ↓q_oInt_1, ↓q_oSum, ↓q_oBs, ↓q_oTupOf, ↓q_dSeqOf, ↓q_dIsi, it_bool_none, it_bool_bool, it_bool_int, it_bool_str, it_bool_list, it_bool_tuple, it_bool_dict, it_int_none, it_int_bool, it_int_int, it_int_str, it_int_list, it_int_tuple, it_int_dict, it_str_none, it_str_bool, it_str_int, it_str_str, it_str_list, it_str_tuple, it_str_dict, it_list_none, it_list_bool, it_list_int, it_list_str, it_list_list, it_list_tuple, it_list_dict, it_tuple_none, it_tuple_bool, it_tuple_int, it_tuple_str, it_tuple_list, it_tuple_tuple, it_tuple_dict, it_dict_none, it_dict_bool, it_dict_int, it_dict_str, it_dict_list, it_dict_tuple, it_dict_dict, ↓q_dNoP, ↓q_dPart, ↓q_dSlT, ↓q_dSlL, ↓q_dSlS, ↓q_dCall, ↓q_dCallS, ↓q_dItL, ↓q_dItT, ↓q_dItS, ↓q_dR1, ↓q_dR2, ↓q_dZip, ↓q_dEnum, ↓q_gN, ↓q_gNi, ↓q_gCo, ↓q_gCo_1, ↓q_gT, ↓q_dLc, ↓q_dDc, ↓q_dK, ↓q_oLenD, ↓q_dCL, ↓q_oRep, ↓q_oRepT, ↓q_dSortSet, ↓q_dSort2, ↓q_sSame, ↓q_oStr, ↓q_oIntS, ↓q_oOrd, ↓q_oMulS, ↓q_dM0, ↓q_dM1, ↓q_sLower, ↓q_sUpper, ↓q_sStarts, ↓q_sEnds, ↓q_dSplit, ↓q_dJoin, ↓q_dFmt, ↓q_dJn, ↓q_dJc, ↓q_dFs, ↓q_dDg, ↓q_dDin, ↓q_dDgx, keyOf, Option.isSome_some, wipeE, eget, eset, List.set, ev0, List.map_cons, List.map_nil, List.cons_append, List.nil_append, List.replicate_succ, List.replicate_zero, noOwn, isOwn, List.all_cons, List.all_nil, List.length_cons, List.length_nil, Bool.true_eq_false, not_false_eq_true, not_true_eq_false]
    have hl' : z.length ≤ 1000 := hl
    refine ⟨by rw [sizeLine_eq]; omega, ?_⟩
    rw [isNm] at q
    by_cases c1 : 1 ≤ z.length
    · rw [if_pos (by omega)]
      by_cases c2 : z.length ≤ 10
      · rw [decT ⟨c1, c2⟩, Bool.true_and] at q
        rw [if_neg (by omega)]
        have hc : (chars z).length = z.length := by unfold chars; rw [List.length_map, Array.length_toList]; rfl
        refine ⟨by omega, ?_⟩
        unfold chars
        refine lc_fun (fun c : Nat => PyData.str ⟨#[c]⟩) (fun c => some (.bool (decide (c ∈ LT.cps.toList)))) (as := z.cps.toList) (fun c hc R hR => ?_) ?_
        · simp only [true_and, ↓q_sTake, ↓q_sTake0, ↓q_sPick, ↓q_sNumber, rng_1, rng_2, rng_3, rng_4, rng_6, ↓q_dKd, dix_0, dix_1, dix_2, dix_3, dix_4, dix_5, dix_6, dix_7, dix_8, dix_9, Bool.not_false, Bool.not_true, Bool.and_true, Bool.true_and, Bool.and_false, Bool.false_and, decide_eq_true_eq, Bool.not_eq_true', decide_eq_false_iff_not, Bool.false_eq_true, if_true, if_false, ↓q_F0, ↓q_F1, ↓q_F2, ↓q_F3, ↓q_F4, ↓q_F5, ↓q_F6, ↓q_dParO1, ↓q_dParO2, ↓q_dEnumT, ↓q_oRepr, ↓q_dUn, ↓q_oNeg, ↓q_dSeq, ↓q_dRet, ↓q_dRetN, ↓q_dIf, ↓q_dAsg, ↓q_dDrop, ↓q_dBreak, ↓q_dCont, ↓q_dNext, ↓q_dOwn, ↓q_dApp, ↓q_dSetIx, ↓q_dFrz, frz, ↓q_dPar, ↓q_dAug, ↓q_dFor, ↓q_dN, ↓q_dNB, ↓q_dC, ↓q_dOp, ↓q_oI, ↓q_oI0, ↓q_oB, ↓q_oEq, ↓q_oEqS, eqS, ↓q_oIsN, isNo, ↓q_oIx, ↓q_oIx_1, ↓q_oIxS, seqOf, ↓q_oCat, ↓q_oCatT, ↓q_oCatS, ↓q_oIn, ↓q_oInS, ↓q_dTb, ↓q_dAnd, ↓q_dOr, ↓q_dNot, ↓q_dYes, ↓q_dAndV, ↓q_dOrV, ↓q_dNotV, ↓q_dIfV, ↓q_dChain, ↓q_dNil, ↓q_dCons, ↓q_dL, ↓q_dTup, ↓q_dCB, ↓q_oAbs, ↓q_oI2, ↓q_oLen, ↓q_oLenS, ↓q_oInt, ↓q_oInt_1, ↓q_oSum, ↓q_oBs, ↓q_oTupOf, ↓q_dSeqOf, ↓q_dIsi, it_bool_none, it_bool_bool, it_bool_int, it_bool_str, it_bool_list, it_bool_tuple, it_bool_dict, it_int_none, it_int_bool, it_int_int, it_int_str, it_int_list, it_int_tuple, it_int_dict, it_str_none, it_str_bool, it_str_int, it_str_str, it_str_list, it_str_tuple, it_str_dict, it_list_none, it_list_bool, it_list_int, it_list_str, it_list_list, it_list_tuple, it_list_dict, it_tuple_none, it_tuple_bool, it_tuple_int, it_tuple_str, it_tuple_list, it_tuple_tuple, it_tuple_dict, it_dict_none, it_dict_bool, it_dict_int, it_dict_str, it_dict_list, it_dict_tuple, it_dict_dict, ↓q_dNoP, ↓q_dPart, ↓q_dSlT, ↓q_dSlL, ↓q_dSlS, ↓q_dCall, ↓q_dCallS, ↓q_dItL, ↓q_dItT, ↓q_dItS, ↓q_dR1, ↓q_dR2, ↓q_dZip, ↓q_dEnum, ↓q_gN, ↓q_gNi, ↓q_gCo, ↓q_gCo_1, ↓q_gT, ↓q_dLc, ↓q_dDc, ↓q_dK, ↓q_oLenD, ↓q_dCL, ↓q_oRep, ↓q_oRepT, ↓q_dSortSet, ↓q_dSort2, ↓q_sSame, ↓q_oStr, ↓q_oIntS, ↓q_oOrd, ↓q_oMulS, ↓q_dM0, ↓q_dM1, ↓q_sLower, ↓q_sUpper, ↓q_sStarts, ↓q_sEnds, ↓q_dSplit, ↓q_dJoin, ↓q_dFmt, ↓q_dJn, ↓q_dJc, ↓q_dFs, ↓q_dDg, ↓q_dDin, ↓q_dDgx, keyOf, Option.isSome_some, wipeE, eget, eset, List.set, ev0, List.map_cons, List.map_nil, List.cons_append, List.nil_append, List.replicate_succ, List.replicate_zero, noOwn, isOwn, List.all_cons, List.all_nil, List.length_cons, List.length_nil, Bool.true_eq_false, not_false_eq_true, not_true_eq_false]
          exact ⟨_, rfl, hR⟩
        rw [fm_some, bools_map]
        simp only [true_and, ↓q_sTake, ↓q_sTake0, ↓q_sPick, ↓q_sNumber, rng_1, rng_2, rng_3, rng_4, rng_6, ↓q_dKd, dix_0, dix_1, dix_2, dix_3, dix_4, dix_5, dix_6, dix_7, dix_8, dix_9, Bool.not_false, Bool.not_true, Bool.and_true, Bool.true_and, Bool.and_false, Bool.false_and, decide_eq_true_eq, Bool.not_eq_true', decide_eq_false_iff_not, Bool.false_eq_true, if_true, if_false, ↓q_F0, ↓q_F1, ↓q_F2, ↓q_F3, ↓q_F4, ↓q_F5, ↓q_F6, ↓q_dParO1, ↓q_dParO2, ↓q_dEnumT, ↓q_oRepr, ↓q_dUn, ↓q_oNeg, ↓q_dSeq, ↓q_dRet, ↓q_dRetN, ↓q_dIf, ↓q_dAsg, ↓q_dDrop, ↓q_dBreak, ↓q_dCont, ↓q_dNext, ↓q_dOwn, ↓q_dApp, ↓q_dSetIx, ↓q_dFrz, frz, ↓q_dPar, ↓q_dAug, ↓q_dFor, ↓q_dN, ↓q_dNB, ↓q_dC, ↓q_dOp, ↓q_oI, ↓q_oI0, ↓q_oB, ↓q_oEq, ↓q_oEqS, eqS, ↓q_oIsN, isNo, ↓q_oIx, ↓q_oIx_1, ↓q_oIxS, seqOf, ↓q_oCat, ↓q_oCatT, ↓q_oCatS, ↓q_oIn, ↓q_oInS, ↓q_dTb, ↓q_dAnd, ↓q_dOr, ↓q_dNot, ↓q_dYes, ↓q_dAndV, ↓q_dOrV, ↓q_dNotV, ↓q_dIfV, ↓q_dChain, ↓q_dNil, ↓q_dCons, ↓q_dL, ↓q_dTup, ↓q_dCB, ↓q_oAbs, ↓q_oI2, ↓q_oLen, ↓q_oLenS, ↓q_oInt, ↓q_oInt_1, ↓q_oSum, ↓q_oBs, ↓q_oTupOf, ↓q_dSeqOf, ↓q_dIsi, it_bool_none, it_bool_bool, it_bool_int, it_bool_str, it_bool_list, it_bool_tuple, it_bool_dict, it_int_none, it_int_bool, it_int_int, it_int_str, it_int_list, it_int_tuple, it_int_dict, it_str_none, it_str_bool, it_str_int, it_str_str, it_str_list, it_str_tuple, it_str_dict, it_list_none, it_list_bool, it_list_int, it_list_str, it_list_list, it_list_tuple, it_list_dict, it_tuple_none, it_tuple_bool, it_tuple_int, it_tuple_str, it_tuple_list, it_tuple_tuple, it_tuple_dict, it_dict_none, it_dict_bool, it_dict_int, it_dict_str, it_dict_list, it_dict_tuple, it_dict_dict, ↓q_dNoP, ↓q_dPart, ↓q_dSlT, ↓q_dSlL, ↓q_dSlS, ↓q_dCall, ↓q_dCallS, ↓q_dItL, ↓q_dItT, ↓q_dItS, ↓q_dR1, ↓q_dR2, ↓q_dZip, ↓q_dEnum, ↓q_gN, ↓q_gNi, ↓q_gCo, ↓q_gCo_1, ↓q_gT, ↓q_dLc, ↓q_dDc, ↓q_dK, ↓q_oLenD, ↓q_dCL, ↓q_oRep, ↓q_oRepT, ↓q_dSortSet, ↓q_dSort2, ↓q_sSame, ↓q_oStr, ↓q_oIntS, ↓q_oOrd, ↓q_oMulS, ↓q_dM0, ↓q_dM1, ↓q_sLower, ↓q_sUpper, ↓q_sStarts, ↓q_sEnds, ↓q_dSplit, ↓q_dJoin, ↓q_dFmt, ↓q_dJn, ↓q_dJc, ↓q_dFs, ↓q_dDg, ↓q_dDin, ↓q_dDgx, keyOf, Option.isSome_some, wipeE, eget, eset, List.set, ev0, List.map_cons, List.map_nil, List.cons_append, List.nil_append, List.replicate_succ, List.replicate_zero, noOwn, isOwn, List.all_cons, List.all_nil, List.length_cons, List.length_nil, Bool.true_eq_false, not_false_eq_true, not_true_eq_false]
        rw [all_id]
        exact q
      · rw [decide_eq_false (fun h => c2 h.2), Bool.false_and] at q
        rw [if_pos (by omega)]
        exact q
    · rw [decide_eq_false (fun h => c1 h.1), Bool.false_and] at q
      rw [if_neg (by omega)]
      exact q
  | _ => simp only [true_and, ↓q_sTake, ↓q_sTake0, ↓q_sPick, ↓q_sNumber, rng_1, rng_2, rng_3, rng_4, rng_6, ↓q_dKd, dix_0, dix_1, dix_2, dix_3, dix_4, dix_5, dix_6, dix_7, dix_8, dix_9, Bool.not_false, Bool.not_true, Bool.and_true, Bool.true_and, Bool.and_false, Bool.false_and, decide_eq_true_eq, Bool.not_eq_true', decide_eq_false_iff_not, Bool.false_eq_true, if_true, if_false, ↓q_F0, ↓q_F1, ↓q_F2, ↓q_F3, ↓q_F4, ↓q_F5, ↓q_F6, ↓q_dParO1, ↓q_dParO2, ↓q_dEnumT, ↓q_oRepr, ↓q_dUn, ↓q_oNeg, ↓q_dSeq, ↓q_dRet, ↓q_dRetN, ↓q_dIf, ↓q_dAsg, ↓q_dDrop, ↓q_dBreak, ↓q_dCont, ↓q_dNext, ↓q_dOwn, ↓q_dApp, ↓q_dSetIx, ↓q_dFrz, frz, ↓q_dPar, ↓q_dAug, ↓q_dFor, ↓q_dN, ↓q_dNB, ↓q_dC, ↓q_dOp, ↓q_oI, ↓q_oI0, ↓q_oB, ↓q_oEq, ↓q_oEqS, eqS, ↓q_oIsN, isNo, ↓q_oIx, ↓q_oIx_1, ↓q_oIxS, seqOf, ↓q_oCat, ↓q_oCatT, ↓q_oCatS, ↓q_oIn, ↓q_oInS, ↓q_dTb, ↓q_dAnd, ↓q_dOr, ↓q_dNot, ↓q_dYes, ↓q_dAndV, ↓q_dOrV, ↓q_dNotV, ↓q_dIfV, ↓q_dChain, ↓q_dNil, ↓q_dCons, ↓q_dL, ↓q_dTup, ↓q_dCB, ↓q_oAbs, ↓q_oI2, ↓q_oLen, ↓q_oLenS, ↓q_oInt, ↓q_oInt_1, ↓q_oSum, ↓q_oBs, ↓q_oTupOf, ↓q_dSeqOf, ↓q_dIsi, it_bool_none, it_bool_bool, it_bool_int, it_bool_str, it_bool_list, it_bool_tuple, it_bool_dict, it_int_none, it_int_bool, it_int_int, it_int_str, it_int_list, it_int_tuple, it_int_dict, it_str_none, it_str_bool, it_str_int, it_str_str, it_str_list, it_str_tuple, it_str_dict, it_list_none, it_list_bool, it_list_int, it_list_str, it_list_list, it_list_tuple, it_list_dict, it_tuple_none, it_tuple_bool, it_tuple_int, it_tuple_str, it_tuple_list, it_tuple_tuple, it_tuple_dict, it_dict_none, it_dict_bool, it_dict_int, it_dict_str, it_dict_list, it_dict_tuple, it_dict_dict, ↓q_dNoP, ↓q_dPart, ↓q_dSlT, ↓q_dSlL, ↓q_dSlS, ↓q_dCall, ↓q_dCallS, ↓q_dItL, ↓q_dItT, ↓q_dItS, ↓q_dR1, ↓q_dR2, ↓q_dZip, ↓q_dEnum, ↓q_gN, ↓q_gNi, ↓q_gCo, ↓q_gCo_1, ↓q_gT, ↓q_dLc, ↓q_dDc, ↓q_dK, ↓q_oLenD, ↓q_dCL, ↓q_oRep, ↓q_oRepT, ↓q_dSortSet, ↓q_dSort2, ↓q_sSame, ↓q_oStr, ↓q_oIntS, ↓q_oOrd, ↓q_oMulS, ↓q_dM0, ↓q_dM1, ↓q_sLower, ↓q_sUpper, ↓q_sStarts, ↓q_sEnds, ↓q_dSplit, ↓q_dJoin, ↓q_dFmt, ↓q_dJn, ↓q_dJc, ↓q_dFs, ↓q_dDg, ↓q_dDin, ↓q_dDgx, keyOf, Option.isSome_some, wipeE, eget, eset, List.set, ev0, List.map_cons, List.map_nil, List.cons_append, List.nil_append, List.replicate_succ, List.replicate_zero, noOwn, isOwn, List.all_cons, List.all_nil, List.length_cons, List.length_nil, Bool.true_eq_false, not_false_eq_true, not_true_eq_false]; exact q
end
section
variable {P : Program} {w : World} {K : PySem.W.Frag} {mg : Str → Option Value} {base : Heap}
theorem inD_strs (z : Str) : ∀ l : List Str, inD (.str z) (l.map PyData.str) = decide (z ∈ l)
  | [] => rfl
  | a :: r => by
    have ih := inD_strs z r
    unfold inD at ih ⊢
    rw [List.map_cons, List.any_cons, ih]
    have e : PyData.eqv (.str a) (.str z) = decide (a = z) := by
      show (a == z) = decide (a = z)
      rw [Bool.eq_iff_iff, beq_iff_eq, decide_eq_true_eq]
    rw [e, Bool.eq_iff_iff]
    simp only [Bool.or_eq_true, decide_eq_true_eq, List.mem_cons]
    exact ⟨fun h => h.imp Eq.symm id, fun h => h.imp Eq.symm id⟩
theorem inD_no {d : D} (hf : flatD d = true) (hs : isTy "str" d = false) : ∀ l : List Str, inD d (l.map PyData.str) = false
  | [] => rfl
  | a :: r => by
    have ih := inD_no hf hs r
    unfold inD at ih ⊢
    rw [List.map_cons, List.any_cons, ih, Bool.or_false]
    cases d with
    | str z => simp [isTy] at hs
    | none => rfl
    | bool _ => rfl
    | int _ => rfl
    | _ => cases hf
theorem isW_str {d : D} (hf : flatD d = true) (h : isW d = true) : ∃ z, d = .str z ∧ z ∈ WD := by
  cases e : isTy "str" d with
  | false => unfold isW at h; rw [inD_no hf e] at h; cases h
  | true =>
    cases d with
    | str z => exact ⟨z, rfl, by unfold isW at h; rw [inD_strs] at h; exact of_decide_eq_true h⟩
    | _ => simp [isTy] at e
def KD : List D := [PyData.str (Str.ofString "bucket"), PyData.str (Str.ofString "window"), PyData.str (Str.ofString "open")]
def KT : List (Str × D) := [(Str.ofString "bucket", PyData.tuple [PyData.int 0, PyData.int 1, PyData.int 0]), (Str.ofString "window", PyData.tuple [PyData.int 0, PyData.int 1]), (Str.ofString "open", PyData.tuple [PyData.int 0])]
theorem kind_cases {d : D} (hf : flatD d = true) : (leasts d = none ∧ inD d KD = false) ∨ (∃ z ls, d = .str z ∧ leasts d = some ls ∧ inD d KD = true ∧ List.lookup z KT = some (.tuple (ls.map PyData.int)) ∧ ls.length ≤ 3) := by
  cases d with
  | str z =>
    have e := inD_strs z [Str.ofString "bucket", Str.ofString "window", Str.ofString "open"]
    change inD (.str z) KD = _ at e
    by_cases c1 : z = Str.ofString "bucket"
    · subst c1
      exact .inr ⟨_, [0, 1, 0], rfl, by rw [leasts, if_pos rfl], by rw [e]; decide +kernel, by unfold KT; rw [List.lookup_cons, beq_self_eq_true]; rfl, by decide⟩
    by_cases c2 : z = Str.ofString "window"
    · subst c2
      exact .inr ⟨_, [0, 1], rfl, by rw [leasts, if_neg c1, if_pos rfl], by rw [e]; decide +kernel, by unfold KT; rw [List.lookup_cons, beq_eq_false_iff_ne.mpr c1]; dsimp only; rw [List.lookup_cons, beq_self_eq_true]; rfl, by decide⟩
    by_cases c3 : z = Str.ofString "open"
    · subst c3
      exact .inr ⟨_, [0], rfl, by rw [leasts, if_neg c1, if_neg c2, if_pos rfl], by rw [e]; decide +kernel, by unfold KT; rw [List.lookup_cons, beq_eq_false_iff_ne.mpr c1]; dsimp only; rw [List.lookup_cons, beq_eq_false_iff_ne.mpr c2]; dsimp only; rw [List.lookup_cons, beq_self_eq_true]; rfl, by decide⟩
    refine .inl ⟨by rw [leasts, if_neg c1, if_neg c2, if_neg c3], ?_⟩
    rw [e]
    exact decide_eq_false (by simp only [List.mem_cons, List.not_mem_nil, or_false]; rintro (h | h | h) <;> first | exact c1 h | exact c2 h | exact c3 h)
  | none => exact .inl ⟨rfl, inD_no rfl (by simp [isTy]) [Str.ofString "bucket", Str.ofString "window", Str.ofString "open"]⟩
  | bool _ => exact .inl ⟨rfl, inD_no rfl (by simp [isTy]) [Str.ofString "bucket", Str.ofString "window", Str.ofString "open"]⟩
  | int _ => exact .inl ⟨rfl, inD_no rfl (by simp [isTy]) [Str.ofString "bucket", Str.ofString "window", Str.ofString "open"]⟩
  | _ => cases hf
theorem zip_raw {β : Type} (h : β → D) : ∀ (as : List D) (bs : List β), zipD as (bs.map h) = (as.zip bs).map fun p => PyData.tuple [p.1, h p.2] := fun as bs => by
  have := zip_map id h as bs
  rw [List.map_id] at this
  exact this
theorem ok_are_numbers (T : Tx K mg w) : FnOk P w K mg base CX0 3 T.ad_are_numbers T.fd_are_numbers ["kind", "numbers"] (spD K (F2 fun a b Q => flatD a = true ∧ (unT b).length ≤ 1000 ∧ Q (.bool (nums a b)))) := by
  refine T.d_are_numbers.F.ok x_are_numbers (fun vs H Q E h => spD_len F2_len h) (fun cdv A outer s H vs Q E hr h => ?_)
  have nd := x_are_numbers.nd
  refine ⟨_, (pss_cons (ps_if (PW.pt (pw_or (pt_cmpR op_notIn_seq (pv 0) (pe_tup (pa_cons pe_str (pa_cons pe_str (pa_cons pe_str pa_nil)))) (by rfl)) (pw_or1 (pt_not (pt_val (pe_callB call_isi (by rfl) T.b_isinstance (by decide +kernel) (pa_cons (pv 1) (pa_cons (pe_bltn (v := .ty "tuple") (by rfl) T.b_tuple (by decide +kernel) rfl) pa_nil)))))))) (pss_one (ps_ret pe_bl)) pss_nil)
        (pss_cons (ps_set (i := 2) nd rfl (Or.inl rfl) (pe_ix ix_kdict (pe_glob (v := .ref T.a_LEAST_NUMBERS) rfl T.g_LEAST_NUMBERS rfl) (pv 0) (fun _ _ => rfl)))
        (pss_cons (ps_if (pt_cmpR op_ne (pe_callB call_len_seq (by rfl) T.b_len (by decide +kernel) (pa_cons (pv 1) pa_nil)) (pe_callB call_len_seq (by rfl) T.b_len (by decide +kernel) (pa_cons (pv 2) pa_nil)) (nomark _)) (pss_one (ps_ret pe_bl)) pss_nil)
        (pss_one (ps_ret (pe_callB (cr_all rfl) (by rfl) T.b_all (by decide +kernel) (pa_cons (pe_lc (own := [("number", 3), ("least", 4)]) (g := (gTup K 2 (gCons (gName 3) (gCons (gName 4) gNil)))) rfl nd (RZ.pi_zipA (by rfl) T.b_zip (pa_cons (pv 1) (pa_cons (pv 2) pa_nil))) (blkOk_by (own := [("number", 3), ("least", 4)]) (N := Ns_are_numbers) (sc := defScope s_are_numbers) (by decide +kernel)) (fun _ _ _ _ _ => (pg_tup (n := 2) rfl (pgs_cons (pg_name (i := 3) nd rfl (Or.inl rfl)) (pgs_cons (pg_name (i := 4) nd rfl (Or.inl rfl)) pgs_nil)))) (fun _ _ _ _ _ => pts_nil) (fun _ _ _ _ _ => (pe_call (ok_whole_within T) hr (by rfl) T.d_whole_within.g T.d_whole_within.F.kp T.d_whole_within.b .nil pass0 (pa_cons (pv 3) (pa_cons (pv 4) (pa_cons (pe_glob (v := .int 1000000) rfl T.c_MOST_NUMBER ⟨_, rfl⟩) pa_nil)))))) pa_nil))))))), fn_pure ((rs_seq (rs_if (rt_or (rt_test (ro (rv_in true) (RfE.b (rn 0)) (RfE.b (show RfE _ _ (dC (PyData.tuple [PyData.str "bucket", PyData.str "window", PyData.str "open"])) from re_tup (raC (rc_str _) (raC (rc_str _) (raC (rc_str _) raN))))))) (rt_not (rt_val (re_isi (RfE.b (rn 1)))))) (rs_ret (rc_bl _)) rs_next)
        (rs_seq (rs_asg (re_kdT [("bucket", .tuple [.int 0, .int 1, .int 0]), ("window", .tuple [.int 0, .int 1]), ("open", .tuple [.int 0])] (by simp only [List.forall_mem_cons]; exact ⟨⟨_, _, _, T.d_LEAST_NUMBERS_0, T.k_LEAST_NUMBERS_0, T.s_LEAST_NUMBERS_0, rfl⟩, ⟨_, _, _, T.d_LEAST_NUMBERS_1, T.k_LEAST_NUMBERS_1, T.s_LEAST_NUMBERS_1, rfl⟩, ⟨_, _, _, T.d_LEAST_NUMBERS_2, T.k_LEAST_NUMBERS_2, T.s_LEAST_NUMBERS_2, rfl⟩, fun _ h => nomatch h⟩) (RfE.b (rn 0))) (rg_name 2))
        (rs_seq (rs_if (rt_test (ro rv_ne (RfE.b (re_cb ro_len (rbC (RfE.b (rn 1)) rbN))) (RfE.b (re_cb ro_len (rbC (RfE.b (rn 2)) rbN))))) (rs_ret (rc_bl _)) rs_next)
        (rs_ret (re_cb ro_all (rbC (RfE.b (RfF.e (rf_lc (ri_zip (raC (rn 1) (raC (rn 2) raN))) (rg_tup (rg_cons (rg_name 3) (rg_cons (rg_name 4) rg_nil))) rt_yes (re_call (raC (rn 3) (raC (rn 4) (raC (rc_int _) raN))))))) rbN))))))) h (by rw [spD_len F2_len h]; decide) (F2_in fun a0 a1 Qd q => ?_)⟩
  obtain ⟨hf, hl, q⟩ := q
  simp only [true_and, ↓q_sTake, ↓q_sTake0, ↓q_sPick, ↓q_sNumber, rng_1, rng_2, rng_3, rng_4, rng_6, ↓q_dKd, dix_0, dix_1, dix_2, dix_3, dix_4, dix_5, dix_6, dix_7, dix_8, dix_9, Bool.not_false, Bool.not_true, Bool.and_true, Bool.true_and, Bool.and_false, Bool.false_and, decide_eq_true_eq, Bool.not_eq_true', decide_eq_false_iff_not, Bool.false_eq_true, if_true, if_false, ↓q_F0, ↓q_F1, ↓q_F2, ↓q_F3, ↓q_F4, ↓q_F5, ↓q_F6, ↓q_dParO1, ↓q_dParO2, ↓q_dEnumT, ↓q_oRepr, ↓q_dUn, ↓q_oNeg, ↓q_dSeq, ↓q_dRet, ↓q_dRetN, ↓q_dIf, ↓q_dAsg, ↓q_dDrop, ↓q_dBreak, ↓q_dCont, ↓q_dNext, ↓q_dOwn, ↓q_dApp, ↓q_dSetIx, ↓q_dFrz, frz, ↓q_dPar, ↓q_dAug, ↓q_dFor, ↓q_dN, ↓q_dNB, ↓q_dC, ↓q_dOp, ↓q_oI, ↓q_oI0, ↓q_oB, ↓q_oEq, ↓q_oEqS, eqS, ↓q_oIsN, isNo, ↓q_oIx, ↓q_oIx_1, ↓q_oIxS, seqOf, ↓q_oCat, ↓q_oCatT, ↓q_oCatS, ↓q_oIn, ↓q_oInS, ↓q_dTb, ↓q_dAnd, ↓q_dOr, ↓q_dNot, ↓q_dYes, ↓q_dAndV, ↓q_dOrV, ↓q_dNotV, ↓q_dIfV, ↓q_dChain, ↓q_dNil, ↓q_dCons, ↓q_dL, ↓q_dTup, ↓q_dCB, ↓q_oAbs, ↓q_oI2, ↓q_oLen, ↓q_oLenS, ↓q_oInt, ↓q_oInt_1, ↓q_oSum, ↓q_oBs, ↓q_oTupOf, ↓q_dSeqOf, ↓q_dIsi, it_bool_none, it_bool_bool, it_bool_int, it_bool_str, it_bool_list, it_bool_tuple, it_bool_dict, it_int_none, it_int_bool, it_int_int, it_int_str, it_int_list, it_int_tuple, it_int_dict, it_str_none, it_str_bool, it_str_int, it_str_str, it_str_list, it_str_tuple, it_str_dict, it_list_none, it_list_bool, it_list_int, it_list_str, it_list_list, it_list_tuple, it_list_dict, it_tuple_none, it_tuple_bool, it_tuple_int, it_tuple_str, it_tuple_list, it_tuple_tuple, it_tuple_dict, it_dict_none, it_dict_bool, it_dict_int, it_dict_str, it_dict_list, it_dict_tuple, it_dict_dict, ↓q_dNoP, ↓q_dPart, ↓q_dSlT, ↓q_dSlL, ↓q_dSlS, ↓q_dCall, ↓q_dCallS, ↓q_dItL, ↓q_dItT, ↓q_dItS, ↓q_dR1, ↓q_dR2, ↓q_dZip, ↓q_dEnum, ↓q_gN, ↓q_gNi, ↓q_gCo, ↓q_gCo_1, ↓q_gT, ↓q_dLc, ↓q_dDc, ↓q_dK, ↓q_oLenD, ↓q_dCL, ↓q_oRep, ↓q_oRepT, ↓q_dSortSet, ↓q_dSort2, ↓q_sSame, ↓q_oStr, ↓q_oIntS, ↓q_oOrd, ↓q_oMulS, ↓q_dM0, ↓q_dM1, ↓q_sLower, ↓q_sUpper, ↓q_sStarts, ↓q_sEnds, ↓q_dSplit, ↓q_dJoin, ↓q_dFmt, ↓q_dJn, ↓q_dJc, ↓q_dFs, ↓q_dDg, ↓q_dDin, ↓q_dDgx, keyOf, Option.isSome_some, wipeE, eget, eset, List.set, ev0, List.map_cons, List.map_nil, List.cons_append, List.nil_append, List.replicate_succ, List.replicate_zero, noOwn, isOwn, List.all_cons, List.all_nil, List.length_cons, List.length_nil, Bool.true_eq_false, not_false_eq_true, not_true_eq_false]
  refine ⟨hf, rfl, ?_⟩
  unfold nums at q
  rcases kind_cases hf with ⟨h1, h2⟩ | ⟨z, ls, rfl, h1, h2, h3, h4⟩
  · rw [h1] at q
    unfold KD at h2
    rw [if_pos h2]
    exact q
  · rw [h1] at q
    unfold KD at h2
    unfold KT at h3
    rw [h2, if_neg (by decide)]
    cases a1 with
    | tuple xs =>
      simp only [true_and, ↓q_sTake, ↓q_sTake0, ↓q_sPick, ↓q_sNumber, rng_1, rng_2, rng_3, rng_4, rng_6, ↓q_dKd, dix_0, dix_1, dix_2, dix_3, dix_4, dix_5, dix_6, dix_7, dix_8, dix_9, Bool.not_false, Bool.not_true, Bool.and_true, Bool.true_and, Bool.and_false, Bool.false_and, decide_eq_true_eq, Bool.not_eq_true', decide_eq_false_iff_not, Bool.false_eq_true, if_true, if_false, ↓q_F0, ↓q_F1, ↓q_F2, ↓q_F3, ↓q_F4, ↓q_F5, ↓q_F6, ↓q_dParO1, ↓q_dParO2, ↓q_dEnumT, ↓q_oRepr, ↓q_dUn, ↓q_oNeg, ↓q_dSeq, ↓q_dRet, ↓q_dRetN, ↓q_dIf, ↓q_dAsg, ↓q_dDrop, ↓q_dBreak, ↓q_dCont, ↓q_dNext, ↓q_dOwn, ↓q_dApp, ↓q_dSetIx, ↓q_dFrz, frz, ↓q_dPar, ↓q_dAug, ↓q_dFor, ↓q_dN, ↓q_dNB, ↓q_dC, ↓q_dOp, ↓q_oI, ↓q_oI0, ↓q_oB, ↓q_oEq, ↓q_oEqS, eqS, ↓q_oIsN, isNo, ↓q_oIx, ↓q_oIx_1, ↓q_oIxS, seqOf, ↓q_oCat, ↓q_oCatT, ↓q_oCatS, ↓q_oIn, ↓q_oInS, ↓q_dTb, ↓q_dAnd, ↓q_dOr, ↓q_dNot, ↓q_dYes, ↓q_dAndV, ↓q_dOrV, ↓q_dNotV, ↓q_dIfV, ↓q_dChain, ↓q_dNil, ↓q_dCons, ↓q_dL, ↓q_dTup, ↓q_dCB, ↓q_oAbs, ↓q_oI2, ↓q_oLen, ↓q_oLenS, ↓q_oInt, ↓q_oInt_1, ↓q_oSum, ↓q_oBs, ↓q_oTupOf, ↓q_dSeqOf, ↓q_dIsi, it_bool_none, it_bool_bool, it_bool_int, it_bool_str, it_bool_list, it_bool_tuple, it_bool_dict, it_int_none, it_int_bool, it_int_int, it_int_str, it_int_list, it_int_tuple, it_int_dict, it_str_none, it_str_bool, it_str_int, it_str_str, it_str_list, it_str_tuple, it_str_dict, it_list_none, it_list_bool, it_list_int, it_list_str, it_list_list, it_list_tuple, it_list_dict, it_tuple_none, it_tuple_bool, it_tuple_int, it_tuple_str, it_tuple_list, it_tuple_tuple, it_tuple_dict, it_dict_none, it_dict_bool, it_dict_int, it_dict_str, it_dict_list, it_dict_tuple, it_dict_dict, ↓q_dNoP, ↓q_dPart, ↓q_dSlT, ↓q_dSlL, ↓q_dSlS, ↓q_dCall, ↓q_dCallS, ↓q_dItL, ↓q_dItT, ↓q_dItS, ↓q_dR1, ↓q_dR2, ↓q_dZip, ↓q_dEnum, ↓q_gN, ↓q_gNi, ↓q_gCo, ↓q_gCo_1, ↓q_gT, ↓q_dLc, ↓q_dDc, ↓q_dK, ↓q_oLenD, ↓q_dCL, ↓q_oRep, ↓q_oRepT, ↓q_dSortSet, ↓q_dSort2, ↓q_sSame, ↓q_oStr, ↓q_oIntS, ↓q_oOrd, ↓q_oMulS, ↓q_dM0, ↓q_dM1, ↓q_sLower, ↓q_sUpper, ↓q_sStarts, ↓q_sEnds, ↓q_dSplit, ↓q_dJoin, ↓q_dFmt, ↓q_dJn, ↓q_dJc, ↓q_dFs, ↓q_dDg, ↓q_dDin, ↓q_dDgx, keyOf, Option.isSome_some, wipeE, eget, eset, List.set, ev0, List.map_cons, List.map_nil, List.cons_append, List.nil_append, List.replicate_succ, List.replicate_zero, noOwn, isOwn, List.all_cons, List.all_nil, List.length_cons, List.length_nil, Bool.true_eq_false, not_false_eq_true, not_true_eq_false, h3, List.length_map] at q ⊢
      have hl' : xs.length ≤ 1000 := hl
      by_cases c : xs.length = ls.length
      · rw [decT c, Bool.true_and] at q
        rw [if_neg (by omega), zip_raw]
        refine ⟨by rw [List.length_map, List.length_zip]; omega, ?_⟩
        refine lc_fun (fun p : D × Int => PyData.tuple [p.1, .int p.2]) (fun p => some (.bool (whole p.1 p.2 1000000))) (as := xs.zip ls) (fun p hp R hR => ?_) ?_
        · simp only [true_and, ↓q_sTake, ↓q_sTake0, ↓q_sPick, ↓q_sNumber, rng_1, rng_2, rng_3, rng_4, rng_6, ↓q_dKd, dix_0, dix_1, dix_2, dix_3, dix_4, dix_5, dix_6, dix_7, dix_8, dix_9, Bool.not_false, Bool.not_true, Bool.and_true, Bool.true_and, Bool.and_false, Bool.false_and, decide_eq_true_eq, Bool.not_eq_true', decide_eq_false_iff_not, Bool.false_eq_true, if_true, if_false, ↓q_F0, ↓q_F1, ↓q_F2, ↓q_F3, ↓q_F4, ↓q_F5, ↓q_F6, ↓q_dParO1, ↓q_dParO2, ↓q_dEnumT, ↓q_oRepr, ↓q_dUn, ↓q_oNeg, ↓q_dSeq, ↓q_dRet, ↓q_dRetN, ↓q_dIf, ↓q_dAsg, ↓q_dDrop, ↓q_dBreak, ↓q_dCont, ↓q_dNext, ↓q_dOwn, ↓q_dApp, ↓q_dSetIx, ↓q_dFrz, frz, ↓q_dPar, ↓q_dAug, ↓q_dFor, ↓q_dN, ↓q_dNB, ↓q_dC, ↓q_dOp, ↓q_oI, ↓q_oI0, ↓q_oB, ↓q_oEq, ↓q_oEqS, eqS, ↓q_oIsN, isNo, ↓q_oIx, ↓q_oIx_1, ↓q_oIxS, seqOf, ↓q_oCat, ↓q_oCatT, ↓q_oCatS, ↓q_oIn, ↓q_oInS, ↓q_dTb, ↓q_dAnd, ↓q_dOr, ↓q_dNot, ↓q_dYes, ↓q_dAndV, ↓q_dOrV, ↓q_dNotV, ↓q_dIfV, ↓q_dChain, ↓q_dNil, ↓q_dCons, ↓q_dL, ↓q_dTup, ↓q_dCB, ↓q_oAbs, ↓q_oI2, ↓q_oLen, ↓q_oLenS, ↓q_oInt, ↓q_oInt_1, ↓q_oSum, ↓q_oBs, ↓q_oTupOf, ↓q_dSeqOf, ↓q_dIsi, it_bool_none, it_bool_bool, it_bool_int, it_bool_str, it_bool_list, it_bool_tuple, it_bool_dict, it_int_none, it_int_bool, it_int_int, it_int_str, it_int_list, it_int_tuple, it_int_dict, it_str_none, it_str_bool, it_str_int, it_str_str, it_str_list, it_str_tuple, it_str_dict, it_list_none, it_list_bool, it_list_int, it_list_str, it_list_list, it_list_tuple, it_list_dict, it_tuple_none, it_tuple_bool, it_tuple_int, it_tuple_str, it_tuple_list, it_tuple_tuple, it_tuple_dict, it_dict_none, it_dict_bool, it_dict_int, it_dict_str, it_dict_list, it_dict_tuple, it_dict_dict, ↓q_dNoP, ↓q_dPart, ↓q_dSlT, ↓q_dSlL, ↓q_dSlS, ↓q_dCall, ↓q_dCallS, ↓q_dItL, ↓q_dItT, ↓q_dItS, ↓q_dR1, ↓q_dR2, ↓q_dZip, ↓q_dEnum, ↓q_gN, ↓q_gNi, ↓q_gCo, ↓q_gCo_1, ↓q_gT, ↓q_dLc, ↓q_dDc, ↓q_dK, ↓q_oLenD, ↓q_dCL, ↓q_oRep, ↓q_oRepT, ↓q_dSortSet, ↓q_dSort2, ↓q_sSame, ↓q_oStr, ↓q_oIntS, ↓q_oOrd, ↓q_oMulS, ↓q_dM0, ↓q_dM1, ↓q_sLower, ↓q_sUpper, ↓q_sStarts, ↓q_sEnds, ↓q_dSplit, ↓q_dJoin, ↓q_dFmt, ↓q_dJn, ↓q_dJc, ↓q_dFs, ↓q_dDg, ↓q_dDin, ↓q_dDgx, keyOf, Option.isSome_some, wipeE, eget, eset, List.set, ev0, List.map_cons, List.map_nil, List.cons_append, List.nil_append, List.replicate_succ, List.replicate_zero, noOwn, isOwn, List.all_cons, List.all_nil, List.length_cons, List.length_nil, Bool.true_eq_false, not_false_eq_true, not_true_eq_false]
          exact ⟨_, _, rfl, rfl, hR⟩
        rw [fm_some, bools_map]
        simp only [true_and, ↓q_sTake, ↓q_sTake0, ↓q_sPick, ↓q_sNumber, rng_1, rng_2, rng_3, rng_4, rng_6, ↓q_dKd, dix_0, dix_1, dix_2, dix_3, dix_4, dix_5, dix_6, dix_7, dix_8, dix_9, Bool.not_false, Bool.not_true, Bool.and_true, Bool.true_and, Bool.and_false, Bool.false_and, decide_eq_true_eq, Bool.not_eq_true', decide_eq_false_iff_not, Bool.false_eq_true, if_true, if_false, ↓q_F0, ↓q_F1, ↓q_F2, ↓q_F3, ↓q_F4, ↓q_F5, ↓q_F6, ↓q_dParO1, ↓q_dParO2, ↓q_dEnumT, ↓q_oRepr, ↓q_dUn, ↓q_oNeg, ↓q_dSeq, ↓q_dRet, ↓q_dRetN, ↓q_dIf, ↓q_dAsg, ↓q_dDrop, ↓q_dBreak, ↓q_dCont, ↓q_dNext, ↓q_dOwn, ↓q_dApp, ↓q_dSetIx, ↓q_dFrz, frz, ↓q_dPar, ↓q_dAug, ↓q_dFor, ↓q_dN, ↓q_dNB, ↓q_dC, ↓q_dOp, ↓q_oI, ↓q_oI0, ↓q_oB, ↓q_oEq, ↓q_oEqS, eqS, ↓q_oIsN, isNo, ↓q_oIx, ↓q_oIx_1, ↓q_oIxS, seqOf, ↓q_oCat, ↓q_oCatT, ↓q_oCatS, ↓q_oIn, ↓q_oInS, ↓q_dTb, ↓q_dAnd, ↓q_dOr, ↓q_dNot, ↓q_dYes, ↓q_dAndV, ↓q_dOrV, ↓q_dNotV, ↓q_dIfV, ↓q_dChain, ↓q_dNil, ↓q_dCons, ↓q_dL, ↓q_dTup, ↓q_dCB, ↓q_oAbs, ↓q_oI2, ↓q_oLen, ↓q_oLenS, ↓q_oInt, ↓q_oInt_1, ↓q_oSum, ↓q_oBs, ↓q_oTupOf, ↓q_dSeqOf, ↓q_dIsi, it_bool_none, it_bool_bool, it_bool_int, it_bool_str, it_bool_list, it_bool_tuple, it_bool_dict, it_int_none, it_int_bool, it_int_int, it_int_str, it_int_list, it_int_tuple, it_int_dict, it_str_none, it_str_bool, it_str_int, it_str_str, it_str_list, it_str_tuple, it_str_dict, it_list_none, it_list_bool, it_list_int, it_list_str, it_list_list, it_list_tuple, it_list_dict, it_tuple_none, it_tuple_bool, it_tuple_int, it_tuple_str, it_tuple_list, it_tuple_tuple, it_tuple_dict, it_dict_none, it_dict_bool, it_dict_int, it_dict_str, it_dict_list, it_dict_tuple, it_dict_dict, ↓q_dNoP, ↓q_dPart, ↓q_dSlT, ↓q_dSlL, ↓q_dSlS, ↓q_dCall, ↓q_dCallS, ↓q_dItL, ↓q_dItT, ↓q_dItS, ↓q_dR1, ↓q_dR2, ↓q_dZip, ↓q_dEnum, ↓q_gN, ↓q_gNi, ↓q_gCo, ↓q_gCo_1, ↓q_gT, ↓q_dLc, ↓q_dDc, ↓q_dK, ↓q_oLenD, ↓q_dCL, ↓q_oRep, ↓q_oRepT, ↓q_dSortSet, ↓q_dSort2, ↓q_sSame, ↓q_oStr, ↓q_oIntS, ↓q_oOrd, ↓q_oMulS, ↓q_dM0, ↓q_dM1, ↓q_sLower, ↓q_sUpper, ↓q_sStarts, ↓q_sEnds, ↓q_dSplit, ↓q_dJoin, ↓q_dFmt, ↓q_dJn, ↓q_dJc, ↓q_dFs, ↓q_dDg, ↓q_dDin, ↓q_dDgx, keyOf, Option.isSome_some, wipeE, eget, eset, List.set, ev0, List.map_cons, List.map_nil, List.cons_append, List.nil_append, List.replicate_succ, List.replicate_zero, noOwn, isOwn, List.all_cons, List.all_nil, List.length_cons, List.length_nil, Bool.true_eq_false, not_false_eq_true, not_true_eq_false]
        rw [all_id]
        exact q
      · rw [decide_eq_false c, Bool.false_and] at q
        rw [if_pos (by omega)]
        exact q
    | _ => exact q
theorem dkeys_fm {ds : List D} : ds.foldl (fun acc a => match (some (a, PyData.bool true) : Option (D × D)) with | some p => putD acc p.1 p.2 | none => acc) [] = dkeys ds [] := rfl
theorem bw_f : ∀ i < 31, (((1 : Int) + (i : Nat)).natAbs.log2 < 1920 ∧ (Str.empty ++ Str.ofString "outside ").length ≤ 16777216) ∧ (Str.empty ++ Str.ofString "outside " ++ Str.ofString (toString ((1 : Int) + (i : Nat)))).length ≤ 16777216 ∧ Str.empty ++ Str.ofString "outside " ++ Str.ofString (toString ((1 : Int) + (i : Nat))) = bw (i + 1) := by decide +kernel
theorem ok_is_key (T : Tx K mg w) : FnOk P w K mg base CX0 1 T.ad_is_key T.fd_is_key ["key"] (spD K (F1 fun a Q => (unT a).length ≤ 1000 ∧ (∀ w ∈ unT a, flatD w = true) ∧ Q (.bool (keyOk a)))) := by
  refine T.d_is_key.F.ok x_is_key (fun vs H Q E h => spD_len F1_len h) (fun cdv A outer s H vs Q E hr h => ?_)
  have nd := x_is_key.nd
  refine ⟨_, (pss_cons (ps_if (pt_not (pt_val (pe_callB call_isi (by rfl) T.b_isinstance (by decide +kernel) (pa_cons (pv 0) (pa_cons (pe_bltn (v := .ty "tuple") (by rfl) T.b_tuple (by decide +kernel) rfl) pa_nil))))) (pss_one (ps_ret pe_bl)) pss_nil)
        (pss_cons (ps_set (i := 1) nd rfl (Or.inr rfl) (pe_op op_cat (pe_lst (pa_cons pe_str (pa_cons pe_str (pa_cons pe_str (pa_cons pe_str pa_nil))))) (pe_lc (own := [("bits", 2)]) (g := (gName 2)) rfl nd (pi_range2 (by rfl) T.b_range (pa_cons pe_int (pa_cons pe_int pa_nil))) (blkOk_by (own := [("bits", 2)]) (N := Ns_is_key) (sc := defScope s_is_key) (by decide +kernel)) (fun _ _ _ _ _ => (pg_name (i := 2) nd rfl (Or.inl rfl))) (fun _ _ _ _ _ => pts_nil) (fun _ _ _ _ _ => (pe_joined (.cons pe_str (.cons (pe_fmt (pv 2)) .nil)))))))
        (pss_cons (ps_if (pt_not (pt_val (pe_callB (cr_all rfl) (by rfl) T.b_all (by decide +kernel) (pa_cons (pe_lc (own := [("word", 3)]) (g := (gName 3)) rfl nd (pi_tup (pv 0)) (blkOk_by (own := [("word", 3)]) (N := Ns_is_key) (sc := defScope s_is_key) (by decide +kernel)) (fun _ _ _ _ _ => (pg_name (i := 3) nd rfl (Or.inl rfl))) (fun _ _ _ _ _ => pts_nil) (fun _ _ _ _ _ => (pe_cmpR op_in_seq (pv 3) (pv 1) (by rfl)))) pa_nil)))) (pss_one (ps_ret pe_bl)) pss_nil)
        (pss_one (ps_ret (pe_cmpR op_eq (pe_callB call_lenD (by rfl) T.b_len (by decide +kernel) (pa_cons (pe_dc (own := [("word", 3)]) (g := (gName 3)) rfl nd (pi_tup (pv 0)) (blkOk_by (own := [("word", 3)]) (N := Ns_is_key) (sc := defScope s_is_key) (by decide +kernel)) (fun _ _ _ _ _ => (pg_name (i := 3) nd rfl (Or.inl rfl))) (fun _ _ _ _ _ => pts_nil) (fun _ _ _ _ _ => (pv 3)) (fun _ _ _ _ _ => pe_bl)) pa_nil)) (pe_callB call_len_seq (by rfl) T.b_len (by decide +kernel) (pa_cons (pv 0) pa_nil)) (nomark _))))))), fn_pure ((rs_seq (rs_if (rt_not (rt_val (re_isi (RfE.b (rn 0))))) (rs_ret (rc_bl _)) rs_next)
        (rs_seq (rs_asg (ro rv_cat (RfE.b (RfF.e (show RfF _ _ (dCL ([PyData.str "outside", PyData.str "inside", PyData.str "service", PyData.str "kind"])) from rf_lst (raC (rc_str _) (raC (rc_str _) (raC (rc_str _) (raC (rc_str _) raN))))))) (RfE.b (RfF.e (rf_lc (ri_r2 (rbC (RfE.b (rc_int _)) (rbC (RfE.b (rc_int _)) rbN))) (rg_name 2) rt_yes (re_fs (rj_cons (rc_str _) (rj_cons (re_fmt (rn 2)) rj_nil))))))) (rg_name 1))
        (rs_seq (rs_if (rt_not (rt_val (re_cb ro_all (rbC (RfE.b (RfF.e (rf_lc (ri_tup (rn 0)) (rg_name 3) rt_yes (ro (rv_in false) (RfE.b (rn 3)) (RfE.b (rn 1)))))) rbN)))) (rs_ret (rc_bl _)) rs_next)
        (rs_ret (ro rv_eq (RfE.b (re_cb ro_lenD (rbC (RfE.b (RfK.e (rk_dc (ri_tup (rn 0)) (rg_name 3) rt_yes (rn 3) (rc_bl _)))) rbN))) (RfE.b (re_cb ro_len (rbC (RfE.b (rn 0)) rbN))))))))) h (by rw [spD_len F1_len h]; decide) (F1_in fun a0 Qd q => ?_)⟩
  obtain ⟨hl, hf, q⟩ := q
  simp only [true_and, ↓q_sTake, ↓q_sTake0, ↓q_sPick, ↓q_sNumber, rng_1, rng_2, rng_3, rng_4, rng_6, ↓q_dKd, dix_0, dix_1, dix_2, dix_3, dix_4, dix_5, dix_6, dix_7, dix_8, dix_9, Bool.not_false, Bool.not_true, Bool.and_true, Bool.true_and, Bool.and_false, Bool.false_and, decide_eq_true_eq, Bool.not_eq_true', decide_eq_false_iff_not, Bool.false_eq_true, if_true, if_false, ↓q_F0, ↓q_F1, ↓q_F2, ↓q_F3, ↓q_F4, ↓q_F5, ↓q_F6, ↓q_dParO1, ↓q_dParO2, ↓q_dEnumT, ↓q_oRepr, ↓q_dUn, ↓q_oNeg, ↓q_dSeq, ↓q_dRet, ↓q_dRetN, ↓q_dIf, ↓q_dAsg, ↓q_dDrop, ↓q_dBreak, ↓q_dCont, ↓q_dNext, ↓q_dOwn, ↓q_dApp, ↓q_dSetIx, ↓q_dFrz, frz, ↓q_dPar, ↓q_dAug, ↓q_dFor, ↓q_dN, ↓q_dNB, ↓q_dC, ↓q_dOp, ↓q_oI, ↓q_oI0, ↓q_oB, ↓q_oEq, ↓q_oEqS, eqS, ↓q_oIsN, isNo, ↓q_oIx, ↓q_oIx_1, ↓q_oIxS, seqOf, ↓q_oCat, ↓q_oCatT, ↓q_oCatS, ↓q_oIn, ↓q_oInS, ↓q_dTb, ↓q_dAnd, ↓q_dOr, ↓q_dNot, ↓q_dYes, ↓q_dAndV, ↓q_dOrV, ↓q_dNotV, ↓q_dIfV, ↓q_dChain, ↓q_dNil, ↓q_dCons, ↓q_dL, ↓q_dTup, ↓q_dCB, ↓q_oAbs, ↓q_oI2, ↓q_oLen, ↓q_oLenS, ↓q_oInt, ↓q_oInt_1, ↓q_oSum, ↓q_oBs, ↓q_oTupOf, ↓q_dSeqOf, ↓q_dIsi, it_bool_none, it_bool_bool, it_bool_int, it_bool_str, it_bool_list, it_bool_tuple, it_bool_dict, it_int_none, it_int_bool, it_int_int, it_int_str, it_int_list, it_int_tuple, it_int_dict, it_str_none, it_str_bool, it_str_int, it_str_str, it_str_list, it_str_tuple, it_str_dict, it_list_none, it_list_bool, it_list_int, it_list_str, it_list_list, it_list_tuple, it_list_dict, it_tuple_none, it_tuple_bool, it_tuple_int, it_tuple_str, it_tuple_list, it_tuple_tuple, it_tuple_dict, it_dict_none, it_dict_bool, it_dict_int, it_dict_str, it_dict_list, it_dict_tuple, it_dict_dict, ↓q_dNoP, ↓q_dPart, ↓q_dSlT, ↓q_dSlL, ↓q_dSlS, ↓q_dCall, ↓q_dCallS, ↓q_dItL, ↓q_dItT, ↓q_dItS, ↓q_dR1, ↓q_dR2, ↓q_dZip, ↓q_dEnum, ↓q_gN, ↓q_gNi, ↓q_gCo, ↓q_gCo_1, ↓q_gT, ↓q_dLc, ↓q_dDc, ↓q_dK, ↓q_oLenD, ↓q_dCL, ↓q_oRep, ↓q_oRepT, ↓q_dSortSet, ↓q_dSort2, ↓q_sSame, ↓q_oStr, ↓q_oIntS, ↓q_oOrd, ↓q_oMulS, ↓q_dM0, ↓q_dM1, ↓q_sLower, ↓q_sUpper, ↓q_sStarts, ↓q_sEnds, ↓q_dSplit, ↓q_dJoin, ↓q_dFmt, ↓q_dJn, ↓q_dJc, ↓q_dFs, ↓q_dDg, ↓q_dDin, ↓q_dDgx, keyOf, Option.isSome_some, wipeE, eget, eset, List.set, ev0, List.map_cons, List.map_nil, List.cons_append, List.nil_append, List.replicate_succ, List.replicate_zero, noOwn, isOwn, List.all_cons, List.all_nil, List.length_cons, List.length_nil, Bool.true_eq_false, not_false_eq_true, not_true_eq_false]
  cases a0 with
  | tuple xs =>
    simp only [true_and, ↓q_sTake, ↓q_sTake0, ↓q_sPick, ↓q_sNumber, rng_1, rng_2, rng_3, rng_4, rng_6, ↓q_dKd, dix_0, dix_1, dix_2, dix_3, dix_4, dix_5, dix_6, dix_7, dix_8, dix_9, Bool.not_false, Bool.not_true, Bool.and_true, Bool.true_and, Bool.and_false, Bool.false_and, decide_eq_true_eq, Bool.not_eq_true', decide_eq_false_iff_not, Bool.false_eq_true, if_true, if_false, ↓q_F0, ↓q_F1, ↓q_F2, ↓q_F3, ↓q_F4, ↓q_F5, ↓q_F6, ↓q_dParO1, ↓q_dParO2, ↓q_dEnumT, ↓q_oRepr, ↓q_dUn, ↓q_oNeg, ↓q_dSeq, ↓q_dRet, ↓q_dRetN, ↓q_dIf, ↓q_dAsg, ↓q_dDrop, ↓q_dBreak, ↓q_dCont, ↓q_dNext, ↓q_dOwn, ↓q_dApp, ↓q_dSetIx, ↓q_dFrz, frz, ↓q_dPar, ↓q_dAug, ↓q_dFor, ↓q_dN, ↓q_dNB, ↓q_dC, ↓q_dOp, ↓q_oI, ↓q_oI0, ↓q_oB, ↓q_oEq, ↓q_oEqS, eqS, ↓q_oIsN, isNo, ↓q_oIx, ↓q_oIx_1, ↓q_oIxS, seqOf, ↓q_oCat, ↓q_oCatT, ↓q_oCatS, ↓q_oIn, ↓q_oInS, ↓q_dTb, ↓q_dAnd, ↓q_dOr, ↓q_dNot, ↓q_dYes, ↓q_dAndV, ↓q_dOrV, ↓q_dNotV, ↓q_dIfV, ↓q_dChain, ↓q_dNil, ↓q_dCons, ↓q_dL, ↓q_dTup, ↓q_dCB, ↓q_oAbs, ↓q_oI2, ↓q_oLen, ↓q_oLenS, ↓q_oInt, ↓q_oInt_1, ↓q_oSum, ↓q_oBs, ↓q_oTupOf, ↓q_dSeqOf, ↓q_dIsi, it_bool_none, it_bool_bool, it_bool_int, it_bool_str, it_bool_list, it_bool_tuple, it_bool_dict, it_int_none, it_int_bool, it_int_int, it_int_str, it_int_list, it_int_tuple, it_int_dict, it_str_none, it_str_bool, it_str_int, it_str_str, it_str_list, it_str_tuple, it_str_dict, it_list_none, it_list_bool, it_list_int, it_list_str, it_list_list, it_list_tuple, it_list_dict, it_tuple_none, it_tuple_bool, it_tuple_int, it_tuple_str, it_tuple_list, it_tuple_tuple, it_tuple_dict, it_dict_none, it_dict_bool, it_dict_int, it_dict_str, it_dict_list, it_dict_tuple, it_dict_dict, ↓q_dNoP, ↓q_dPart, ↓q_dSlT, ↓q_dSlL, ↓q_dSlS, ↓q_dCall, ↓q_dCallS, ↓q_dItL, ↓q_dItT, ↓q_dItS, ↓q_dR1, ↓q_dR2, ↓q_dZip, ↓q_dEnum, ↓q_gN, ↓q_gNi, ↓q_gCo, ↓q_gCo_1, ↓q_gT, ↓q_dLc, ↓q_dDc, ↓q_dK, ↓q_oLenD, ↓q_dCL, ↓q_oRep, ↓q_oRepT, ↓q_dSortSet, ↓q_dSort2, ↓q_sSame, ↓q_oStr, ↓q_oIntS, ↓q_oOrd, ↓q_oMulS, ↓q_dM0, ↓q_dM1, ↓q_sLower, ↓q_sUpper, ↓q_sStarts, ↓q_sEnds, ↓q_dSplit, ↓q_dJoin, ↓q_dFmt, ↓q_dJn, ↓q_dJc, ↓q_dFs, ↓q_dDg, ↓q_dDin, ↓q_dDgx, keyOf, Option.isSome_some, wipeE, eget, eset, List.set, ev0, List.map_cons, List.map_nil, List.cons_append, List.nil_append, List.replicate_succ, List.replicate_zero, noOwn, isOwn, List.all_cons, List.all_nil, List.length_cons, List.length_nil, Bool.true_eq_false, not_false_eq_true, not_true_eq_false]
    have hl' : xs.length ≤ 1000 := hl
    refine ⟨by decide, by decide, ?_⟩
    unfold rng
    refine lc_fun (fun i : Nat => PyData.int (1 + (i : Nat))) (fun i => some (.str (bw (i + 1)))) (as := List.range (32 - 1 : Int).toNat) (fun i hi R hR => ?_) ?_
    · have hi' : i < 31 := List.mem_range.mp hi
      obtain ⟨⟨f1, f2⟩, f3, f4⟩ := bw_f i hi'
      simp only [true_and, ↓q_sTake, ↓q_sTake0, ↓q_sPick, ↓q_sNumber, rng_1, rng_2, rng_3, rng_4, rng_6, ↓q_dKd, dix_0, dix_1, dix_2, dix_3, dix_4, dix_5, dix_6, dix_7, dix_8, dix_9, Bool.not_false, Bool.not_true, Bool.and_true, Bool.true_and, Bool.and_false, Bool.false_and, decide_eq_true_eq, Bool.not_eq_true', decide_eq_false_iff_not, Bool.false_eq_true, if_true, if_false, ↓q_F0, ↓q_F1, ↓q_F2, ↓q_F3, ↓q_F4, ↓q_F5, ↓q_F6, ↓q_dParO1, ↓q_dParO2, ↓q_dEnumT, ↓q_oRepr, ↓q_dUn, ↓q_oNeg, ↓q_dSeq, ↓q_dRet, ↓q_dRetN, ↓q_dIf, ↓q_dAsg, ↓q_dDrop, ↓q_dBreak, ↓q_dCont, ↓q_dNext, ↓q_dOwn, ↓q_dApp, ↓q_dSetIx, ↓q_dFrz, frz, ↓q_dPar, ↓q_dAug, ↓q_dFor, ↓q_dN, ↓q_dNB, ↓q_dC, ↓q_dOp, ↓q_oI, ↓q_oI0, ↓q_oB, ↓q_oEq, ↓q_oEqS, eqS, ↓q_oIsN, isNo, ↓q_oIx, ↓q_oIx_1, ↓q_oIxS, seqOf, ↓q_oCat, ↓q_oCatT, ↓q_oCatS, ↓q_oIn, ↓q_oInS, ↓q_dTb, ↓q_dAnd, ↓q_dOr, ↓q_dNot, ↓q_dYes, ↓q_dAndV, ↓q_dOrV, ↓q_dNotV, ↓q_dIfV, ↓q_dChain, ↓q_dNil, ↓q_dCons, ↓q_dL, ↓q_dTup, ↓q_dCB, ↓q_oAbs, ↓q_oI2, ↓q_oLen, ↓q_oLenS, ↓q_oInt, ↓q_oInt_1, ↓q_oSum, ↓q_oBs, ↓q_oTupOf, ↓q_dSeqOf, ↓q_dIsi, it_bool_none, it_bool_bool, it_bool_int, it_bool_str, it_bool_list, it_bool_tuple, it_bool_dict, it_int_none, it_int_bool, it_int_int, it_int_str, it_int_list, it_int_tuple, it_int_dict, it_str_none, it_str_bool, it_str_int, it_str_str, it_str_list, it_str_tuple, it_str_dict, it_list_none, it_list_bool, it_list_int, it_list_str, it_list_list, it_list_tuple, it_list_dict, it_tuple_none, it_tuple_bool, it_tuple_int, it_tuple_str, it_tuple_list, it_tuple_tuple, it_tuple_dict, it_dict_none, it_dict_bool, it_dict_int, it_dict_str, it_dict_list, it_dict_tuple, it_dict_dict, ↓q_dNoP, ↓q_dPart, ↓q_dSlT, ↓q_dSlL, ↓q_dSlS, ↓q_dCall, ↓q_dCallS, ↓q_dItL, ↓q_dItT, ↓q_dItS, ↓q_dR1, ↓q_dR2, ↓q_dZip, ↓q_dEnum, ↓q_gN, ↓q_gNi, ↓q_gCo, ↓q_gCo_1, ↓q_gT, ↓q_dLc, ↓q_dDc, ↓q_dK, ↓q_oLenD, ↓q_dCL, ↓q_oRep, ↓q_oRepT, ↓q_dSortSet, ↓q_dSort2, ↓q_sSame, ↓q_oStr, ↓q_oIntS, ↓q_oOrd, ↓q_oMulS, ↓q_dM0, ↓q_dM1, ↓q_sLower, ↓q_sUpper, ↓q_sStarts, ↓q_sEnds, ↓q_dSplit, ↓q_dJoin, ↓q_dFmt, ↓q_dJn, ↓q_dJc, ↓q_dFs, ↓q_dDg, ↓q_dDin, ↓q_dDgx, keyOf, Option.isSome_some, wipeE, eget, eset, List.set, ev0, List.map_cons, List.map_nil, List.cons_append, List.nil_append, List.replicate_succ, List.replicate_zero, noOwn, isOwn, List.all_cons, List.all_nil, List.length_cons, List.length_nil, Bool.true_eq_false, not_false_eq_true, not_true_eq_false]
      refine ⟨f2, f1, f3, ?_⟩
      rw [f4]
      exact hR
    rw [fm_some]
    have hw : WD.map PyData.str = PyData.str (Str.ofString "outside") :: PyData.str (Str.ofString "inside") :: PyData.str (Str.ofString "service") :: PyData.str (Str.ofString "kind") :: List.map (fun i => PyData.str (bw (i + 1))) (List.range (32 - 1 : Int).toNat) := by
      unfold WD
      rw [List.map_append, List.map_map]
      rfl
    have hwf : (WD.map PyData.str).all flatD = true := List.all_eq_true.mpr fun d hd => by
      obtain ⟨n, _, rfl⟩ := List.mem_map.mp hd
      rfl
    rw [List.length_map, List.length_range, ← hw]
    refine ⟨by rw [sizeLine_eq]; decide, by omega, ?_⟩
    refine lc_raw (fun x => some (.bool (isW x))) (fun x hx R hR => ?_) ?_
    · simp only [true_and, ↓q_sTake, ↓q_sTake0, ↓q_sPick, ↓q_sNumber, rng_1, rng_2, rng_3, rng_4, rng_6, ↓q_dKd, dix_0, dix_1, dix_2, dix_3, dix_4, dix_5, dix_6, dix_7, dix_8, dix_9, Bool.not_false, Bool.not_true, Bool.and_true, Bool.true_and, Bool.and_false, Bool.false_and, decide_eq_true_eq, Bool.not_eq_true', decide_eq_false_iff_not, Bool.false_eq_true, if_true, if_false, ↓q_F0, ↓q_F1, ↓q_F2, ↓q_F3, ↓q_F4, ↓q_F5, ↓q_F6, ↓q_dParO1, ↓q_dParO2, ↓q_dEnumT, ↓q_oRepr, ↓q_dUn, ↓q_oNeg, ↓q_dSeq, ↓q_dRet, ↓q_dRetN, ↓q_dIf, ↓q_dAsg, ↓q_dDrop, ↓q_dBreak, ↓q_dCont, ↓q_dNext, ↓q_dOwn, ↓q_dApp, ↓q_dSetIx, ↓q_dFrz, frz, ↓q_dPar, ↓q_dAug, ↓q_dFor, ↓q_dN, ↓q_dNB, ↓q_dC, ↓q_dOp, ↓q_oI, ↓q_oI0, ↓q_oB, ↓q_oEq, ↓q_oEqS, eqS, ↓q_oIsN, isNo, ↓q_oIx, ↓q_oIx_1, ↓q_oIxS, seqOf, ↓q_oCat, ↓q_oCatT, ↓q_oCatS, ↓q_oIn, ↓q_oInS, ↓q_dTb, ↓q_dAnd, ↓q_dOr, ↓q_dNot, ↓q_dYes, ↓q_dAndV, ↓q_dOrV, ↓q_dNotV, ↓q_dIfV, ↓q_dChain, ↓q_dNil, ↓q_dCons, ↓q_dL, ↓q_dTup, ↓q_dCB, ↓q_oAbs, ↓q_oI2, ↓q_oLen, ↓q_oLenS, ↓q_oInt, ↓q_oInt_1, ↓q_oSum, ↓q_oBs, ↓q_oTupOf, ↓q_dSeqOf, ↓q_dIsi, it_bool_none, it_bool_bool, it_bool_int, it_bool_str, it_bool_list, it_bool_tuple, it_bool_dict, it_int_none, it_int_bool, it_int_int, it_int_str, it_int_list, it_int_tuple, it_int_dict, it_str_none, it_str_bool, it_str_int, it_str_str, it_str_list, it_str_tuple, it_str_dict, it_list_none, it_list_bool, it_list_int, it_list_str, it_list_list, it_list_tuple, it_list_dict, it_tuple_none, it_tuple_bool, it_tuple_int, it_tuple_str, it_tuple_list, it_tuple_tuple, it_tuple_dict, it_dict_none, it_dict_bool, it_dict_int, it_dict_str, it_dict_list, it_dict_tuple, it_dict_dict, ↓q_dNoP, ↓q_dPart, ↓q_dSlT, ↓q_dSlL, ↓q_dSlS, ↓q_dCall, ↓q_dCallS, ↓q_dItL, ↓q_dItT, ↓q_dItS, ↓q_dR1, ↓q_dR2, ↓q_dZip, ↓q_dEnum, ↓q_gN, ↓q_gNi, ↓q_gCo, ↓q_gCo_1, ↓q_gT, ↓q_dLc, ↓q_dDc, ↓q_dK, ↓q_oLenD, ↓q_dCL, ↓q_oRep, ↓q_oRepT, ↓q_dSortSet, ↓q_dSort2, ↓q_sSame, ↓q_oStr, ↓q_oIntS, ↓q_oOrd, ↓q_oMulS, ↓q_dM0, ↓q_dM1, ↓q_sLower, ↓q_sUpper, ↓q_sStarts, ↓q_sEnds, ↓q_dSplit, ↓q_dJoin, ↓q_dFmt, ↓q_dJn, ↓q_dJc, ↓q_dFs, ↓q_dDg, ↓q_dDin, ↓q_dDgx, keyOf, Option.isSome_some, wipeE, eget, eset, List.set, ev0, List.map_cons, List.map_nil, List.cons_append, List.nil_append, List.replicate_succ, List.replicate_zero, noOwn, isOwn, List.all_cons, List.all_nil, List.length_cons, List.length_nil, Bool.true_eq_false, not_false_eq_true, not_true_eq_false]
      exact ⟨hf x hx, hwf, hR⟩
    rw [fm_some, bools_map]
    simp only [true_and, ↓q_sTake, ↓q_sTake0, ↓q_sPick, ↓q_sNumber, rng_1, rng_2, rng_3, rng_4, rng_6, ↓q_dKd, dix_0, dix_1, dix_2, dix_3, dix_4, dix_5, dix_6, dix_7, dix_8, dix_9, Bool.not_false, Bool.not_true, Bool.and_true, Bool.true_and, Bool.and_false, Bool.false_and, decide_eq_true_eq, Bool.not_eq_true', decide_eq_false_iff_not, Bool.false_eq_true, if_true, if_false, ↓q_F0, ↓q_F1, ↓q_F2, ↓q_F3, ↓q_F4, ↓q_F5, ↓q_F6, ↓q_dParO1, ↓q_dParO2, ↓q_dEnumT, ↓q_oRepr, ↓q_dUn, ↓q_oNeg, ↓q_dSeq, ↓q_dRet, ↓q_dRetN, ↓q_dIf, ↓q_dAsg, ↓q_dDrop, ↓q_dBreak, ↓q_dCont, ↓q_dNext, ↓q_dOwn, ↓q_dApp, ↓q_dSetIx, ↓q_dFrz, frz, ↓q_dPar, ↓q_dAug, ↓q_dFor, ↓q_dN, ↓q_dNB, ↓q_dC, ↓q_dOp, ↓q_oI, ↓q_oI0, ↓q_oB, ↓q_oEq, ↓q_oEqS, eqS, ↓q_oIsN, isNo, ↓q_oIx, ↓q_oIx_1, ↓q_oIxS, seqOf, ↓q_oCat, ↓q_oCatT, ↓q_oCatS, ↓q_oIn, ↓q_oInS, ↓q_dTb, ↓q_dAnd, ↓q_dOr, ↓q_dNot, ↓q_dYes, ↓q_dAndV, ↓q_dOrV, ↓q_dNotV, ↓q_dIfV, ↓q_dChain, ↓q_dNil, ↓q_dCons, ↓q_dL, ↓q_dTup, ↓q_dCB, ↓q_oAbs, ↓q_oI2, ↓q_oLen, ↓q_oLenS, ↓q_oInt, ↓q_oInt_1, ↓q_oSum, ↓q_oBs, ↓q_oTupOf, ↓q_dSeqOf, ↓q_dIsi, it_bool_none, it_bool_bool, it_bool_int, it_bool_str, it_bool_list, it_bool_tuple, it_bool_dict, it_int_none, it_int_bool, it_int_int, it_int_str, it_int_list, it_int_tuple, it_int_dict, it_str_none, it_str_bool, it_str_int, it_str_str, it_str_list, it_str_tuple, it_str_dict, it_list_none, it_list_bool, it_list_int, it_list_str, it_list_list, it_list_tuple, it_list_dict, it_tuple_none, it_tuple_bool, it_tuple_int, it_tuple_str, it_tuple_list, it_tuple_tuple, it_tuple_dict, it_dict_none, it_dict_bool, it_dict_int, it_dict_str, it_dict_list, it_dict_tuple, it_dict_dict, ↓q_dNoP, ↓q_dPart, ↓q_dSlT, ↓q_dSlL, ↓q_dSlS, ↓q_dCall, ↓q_dCallS, ↓q_dItL, ↓q_dItT, ↓q_dItS, ↓q_dR1, ↓q_dR2, ↓q_dZip, ↓q_dEnum, ↓q_gN, ↓q_gNi, ↓q_gCo, ↓q_gCo_1, ↓q_gT, ↓q_dLc, ↓q_dDc, ↓q_dK, ↓q_oLenD, ↓q_dCL, ↓q_oRep, ↓q_oRepT, ↓q_dSortSet, ↓q_dSort2, ↓q_sSame, ↓q_oStr, ↓q_oIntS, ↓q_oOrd, ↓q_oMulS, ↓q_dM0, ↓q_dM1, ↓q_sLower, ↓q_sUpper, ↓q_sStarts, ↓q_sEnds, ↓q_dSplit, ↓q_dJoin, ↓q_dFmt, ↓q_dJn, ↓q_dJc, ↓q_dFs, ↓q_dDg, ↓q_dDin, ↓q_dDgx, keyOf, Option.isSome_some, wipeE, eget, eset, List.set, ev0, List.map_cons, List.map_nil, List.cons_append, List.nil_append, List.replicate_succ, List.replicate_zero, noOwn, isOwn, List.all_cons, List.all_nil, List.length_cons, List.length_nil, Bool.true_eq_false, not_false_eq_true, not_true_eq_false]
    rw [all_id]
    rw [keyOk] at q
    by_cases c2 : xs.all isW = false
    · rw [c2, Bool.false_and] at q
      rw [if_pos c2]
      exact q
    · rw [bT c2, Bool.true_and] at q
      rw [if_neg c2]
      refine ⟨by omega, ?_⟩
      refine dc_raw (fun x => some (x, .bool true)) (fun x hx R hR => ?_) ?_
      · simp only [true_and, ↓q_sTake, ↓q_sTake0, ↓q_sPick, ↓q_sNumber, rng_1, rng_2, rng_3, rng_4, rng_6, ↓q_dKd, dix_0, dix_1, dix_2, dix_3, dix_4, dix_5, dix_6, dix_7, dix_8, dix_9, Bool.not_false, Bool.not_true, Bool.and_true, Bool.true_and, Bool.and_false, Bool.false_and, decide_eq_true_eq, Bool.not_eq_true', decide_eq_false_iff_not, Bool.false_eq_true, if_true, if_false, ↓q_F0, ↓q_F1, ↓q_F2, ↓q_F3, ↓q_F4, ↓q_F5, ↓q_F6, ↓q_dParO1, ↓q_dParO2, ↓q_dEnumT, ↓q_oRepr, ↓q_dUn, ↓q_oNeg, ↓q_dSeq, ↓q_dRet, ↓q_dRetN, ↓q_dIf, ↓q_dAsg, ↓q_dDrop, ↓q_dBreak, ↓q_dCont, ↓q_dNext, ↓q_dOwn, ↓q_dApp, ↓q_dSetIx, ↓q_dFrz, frz, ↓q_dPar, ↓q_dAug, ↓q_dFor, ↓q_dN, ↓q_dNB, ↓q_dC, ↓q_dOp, ↓q_oI, ↓q_oI0, ↓q_oB, ↓q_oEq, ↓q_oEqS, eqS, ↓q_oIsN, isNo, ↓q_oIx, ↓q_oIx_1, ↓q_oIxS, seqOf, ↓q_oCat, ↓q_oCatT, ↓q_oCatS, ↓q_oIn, ↓q_oInS, ↓q_dTb, ↓q_dAnd, ↓q_dOr, ↓q_dNot, ↓q_dYes, ↓q_dAndV, ↓q_dOrV, ↓q_dNotV, ↓q_dIfV, ↓q_dChain, ↓q_dNil, ↓q_dCons, ↓q_dL, ↓q_dTup, ↓q_dCB, ↓q_oAbs, ↓q_oI2, ↓q_oLen, ↓q_oLenS, ↓q_oInt, ↓q_oInt_1, ↓q_oSum, ↓q_oBs, ↓q_oTupOf, ↓q_dSeqOf, ↓q_dIsi, it_bool_none, it_bool_bool, it_bool_int, it_bool_str, it_bool_list, it_bool_tuple, it_bool_dict, it_int_none, it_int_bool, it_int_int, it_int_str, it_int_list, it_int_tuple, it_int_dict, it_str_none, it_str_bool, it_str_int, it_str_str, it_str_list, it_str_tuple, it_str_dict, it_list_none, it_list_bool, it_list_int, it_list_str, it_list_list, it_list_tuple, it_list_dict, it_tuple_none, it_tuple_bool, it_tuple_int, it_tuple_str, it_tuple_list, it_tuple_tuple, it_tuple_dict, it_dict_none, it_dict_bool, it_dict_int, it_dict_str, it_dict_list, it_dict_tuple, it_dict_dict, ↓q_dNoP, ↓q_dPart, ↓q_dSlT, ↓q_dSlL, ↓q_dSlS, ↓q_dCall, ↓q_dCallS, ↓q_dItL, ↓q_dItT, ↓q_dItS, ↓q_dR1, ↓q_dR2, ↓q_dZip, ↓q_dEnum, ↓q_gN, ↓q_gNi, ↓q_gCo, ↓q_gCo_1, ↓q_gT, ↓q_dLc, ↓q_dDc, ↓q_dK, ↓q_oLenD, ↓q_dCL, ↓q_oRep, ↓q_oRepT, ↓q_dSortSet, ↓q_dSort2, ↓q_sSame, ↓q_oStr, ↓q_oIntS, ↓q_oOrd, ↓q_oMulS, ↓q_dM0, ↓q_dM1, ↓q_sLower, ↓q_sUpper, ↓q_sStarts, ↓q_sEnds, ↓q_dSplit, ↓q_dJoin, ↓q_dFmt, ↓q_dJn, ↓q_dJc, ↓q_dFs, ↓q_dDg, ↓q_dDin, ↓q_dDgx, keyOf, Option.isSome_some, wipeE, eget, eset, List.set, ev0, List.map_cons, List.map_nil, List.cons_append, List.nil_append, List.replicate_succ, List.replicate_zero, noOwn, isOwn, List.all_cons, List.all_nil, List.length_cons, List.length_nil, Bool.true_eq_false, not_false_eq_true, not_true_eq_false]
        obtain ⟨z, rfl, _⟩ := isW_str (hf x hx) (List.all_eq_true.mp (bT c2) x hx)
        simp only [true_and, ↓q_sTake, ↓q_sTake0, ↓q_sPick, ↓q_sNumber, rng_1, rng_2, rng_3, rng_4, rng_6, ↓q_dKd, dix_0, dix_1, dix_2, dix_3, dix_4, dix_5, dix_6, dix_7, dix_8, dix_9, Bool.not_false, Bool.not_true, Bool.and_true, Bool.true_and, Bool.and_false, Bool.false_and, decide_eq_true_eq, Bool.not_eq_true', decide_eq_false_iff_not, Bool.false_eq_true, if_true, if_false, ↓q_F0, ↓q_F1, ↓q_F2, ↓q_F3, ↓q_F4, ↓q_F5, ↓q_F6, ↓q_dParO1, ↓q_dParO2, ↓q_dEnumT, ↓q_oRepr, ↓q_dUn, ↓q_oNeg, ↓q_dSeq, ↓q_dRet, ↓q_dRetN, ↓q_dIf, ↓q_dAsg, ↓q_dDrop, ↓q_dBreak, ↓q_dCont, ↓q_dNext, ↓q_dOwn, ↓q_dApp, ↓q_dSetIx, ↓q_dFrz, frz, ↓q_dPar, ↓q_dAug, ↓q_dFor, ↓q_dN, ↓q_dNB, ↓q_dC, ↓q_dOp, ↓q_oI, ↓q_oI0, ↓q_oB, ↓q_oEq, ↓q_oEqS, eqS, ↓q_oIsN, isNo, ↓q_oIx, ↓q_oIx_1, ↓q_oIxS, seqOf, ↓q_oCat, ↓q_oCatT, ↓q_oCatS, ↓q_oIn, ↓q_oInS, ↓q_dTb, ↓q_dAnd, ↓q_dOr, ↓q_dNot, ↓q_dYes, ↓q_dAndV, ↓q_dOrV, ↓q_dNotV, ↓q_dIfV, ↓q_dChain, ↓q_dNil, ↓q_dCons, ↓q_dL, ↓q_dTup, ↓q_dCB, ↓q_oAbs, ↓q_oI2, ↓q_oLen, ↓q_oLenS, ↓q_oInt, ↓q_oInt_1, ↓q_oSum, ↓q_oBs, ↓q_oTupOf, ↓q_dSeqOf, ↓q_dIsi, it_bool_none, it_bool_bool, it_bool_int, it_bool_str, it_bool_list, it_bool_tuple, it_bool_dict, it_int_none, it_int_bool, it_int_int, it_int_str, it_int_list, it_int_tuple, it_int_dict, it_str_none, it_str_bool, it_str_int, it_str_str, it_str_list, it_str_tuple, it_str_dict, it_list_none, it_list_bool, it_list_int, it_list_str, it_list_list, it_list_tuple, it_list_dict, it_tuple_none, it_tuple_bool, it_tuple_int, it_tuple_str, it_tuple_list, it_tuple_tuple, it_tuple_dict, it_dict_none, it_dict_bool, it_dict_int, it_dict_str, it_dict_list, it_dict_tuple, it_dict_dict, ↓q_dNoP, ↓q_dPart, ↓q_dSlT, ↓q_dSlL, ↓q_dSlS, ↓q_dCall, ↓q_dCallS, ↓q_dItL, ↓q_dItT, ↓q_dItS, ↓q_dR1, ↓q_dR2, ↓q_dZip, ↓q_dEnum, ↓q_gN, ↓q_gNi, ↓q_gCo, ↓q_gCo_1, ↓q_gT, ↓q_dLc, ↓q_dDc, ↓q_dK, ↓q_oLenD, ↓q_dCL, ↓q_oRep, ↓q_oRepT, ↓q_dSortSet, ↓q_dSort2, ↓q_sSame, ↓q_oStr, ↓q_oIntS, ↓q_oOrd, ↓q_oMulS, ↓q_dM0, ↓q_dM1, ↓q_sLower, ↓q_sUpper, ↓q_sStarts, ↓q_sEnds, ↓q_dSplit, ↓q_dJoin, ↓q_dFmt, ↓q_dJn, ↓q_dJc, ↓q_dFs, ↓q_dDg, ↓q_dDin, ↓q_dDgx, keyOf, Option.isSome_some, wipeE, eget, eset, List.set, ev0, List.map_cons, List.map_nil, List.cons_append, List.nil_append, List.replicate_succ, List.replicate_zero, noOwn, isOwn, List.all_cons, List.all_nil, List.length_cons, List.length_nil, Bool.true_eq_false, not_false_eq_true, not_true_eq_false]
        exact hR
      · rw [dkeys_fm, dkeys_all]
        exact q
  | _ => exact q
theorem ok_fault_of_limits (T : Tx K mg w) : FnOk P w K mg base CX0 4 T.ad_fault_of_limits T.fd_fault_of_limits ["rows"] (spD K (F1 fun a Q => ∃ rs : List LR, a = .tuple (rs.map eL) ∧ (∀ r ∈ rs, LSz r) ∧ Q (flt rs))) := by
  refine T.d_fault_of_limits.F.ok x_fault_of_limits (fun vs H Q E h => spD_len F1_len h) (fun cdv A outer s H vs Q E hr h => ?_)
  have nd := x_fault_of_limits.nd
  refine ⟨_, (pss_cons (ps_if (pt_cmpR op_gt (pe_callB call_len_seq (by rfl) T.b_len (by decide +kernel) (pa_cons (pv 0) pa_nil)) (pe_glob (v := .int 16) rfl T.c_MOST_ROWS ⟨_, rfl⟩) (nomark _)) (pss_one (ps_ret (pe_tup (pa_cons (pe_glob (v := .int 16) rfl T.c_MOST_ROWS ⟨_, rfl⟩) (pa_cons pe_str pa_nil))))) pss_nil)
        (pss_cons (ps_for PassesOwn.never rfl (pi_enumT (by rfl) T.b_enumerate (pa_cons (pv 0) pa_nil)) (pg_tup (n := 2) rfl (pgs_cons (pg_name (i := 1) nd rfl (Or.inl rfl)) (pgs_cons (pg_name (i := 2) nd rfl (Or.inl rfl)) pgs_nil))) (pss_cons (ps_asg (pv 2) (pg_tup (n := 4) rfl (pgs_cons (pg_name (i := 3) nd rfl (Or.inl rfl)) (pgs_cons (pg_name (i := 4) nd rfl (Or.inl rfl)) (pgs_cons (pg_name (i := 5) nd rfl (Or.inl rfl)) (pgs_cons (pg_name (i := 6) nd rfl (Or.inl rfl)) pgs_nil))))))
        (pss_cons (ps_set (i := 7) nd rfl (Or.inl rfl) (pe_call (ok_first_wrong T) (hr.mono (by decide)) (by rfl) T.d_first_wrong.g T.d_first_wrong.F.kp T.d_first_wrong.b .nil pass0 (pa_cons (pe_lst (pa_cons (pe_tup (pa_cons pe_str (pa_cons (pe_call (ok_is_name T) (hr.mono (by decide)) (by rfl) T.d_is_name.g T.d_is_name.F.kp T.d_is_name.b .nil pass0 (pa_cons (pv 3) pa_nil)) pa_nil))) (pa_cons (pe_tup (pa_cons pe_str (pa_cons (pe_cmpR op_notIn_seq (pv 3) (pe_lc (own := [("other", 8)]) (g := (gName 8)) rfl nd (pi_tup (pe_slice sl_tupA (pv 0) po_none (po_some (pv 1)))) (blkOk_by (own := [("other", 8)]) (N := Ns_fault_of_limits) (sc := defScope s_fault_of_limits) (by decide +kernel)) (fun _ _ _ _ _ => (pg_name (i := 8) nd rfl (Or.inl rfl))) (fun _ _ _ _ _ => pts_nil) (fun _ _ _ _ _ => (pe_ix (r := rIx K) ix_seq (pv 8) pe_int (fun _ _ => rfl)))) (by rfl)) pa_nil))) (pa_cons (pe_tup (pa_cons pe_str (pa_cons (pe_cmpR op_in_seq (pv 4) (pe_tup (pa_cons pe_str (pa_cons pe_str (pa_cons pe_str pa_nil)))) (by rfl)) pa_nil))) (pa_cons (pe_tup (pa_cons pe_str (pa_cons (pe_call (ok_are_numbers T) hr (by rfl) T.d_are_numbers.g T.d_are_numbers.F.kp T.d_are_numbers.b .nil pass0 (pa_cons (pv 4) (pa_cons (pv 5) pa_nil))) pa_nil))) (pa_cons (pe_tup (pa_cons pe_str (pa_cons (pe_call (ok_is_key T) (hr.mono (by decide)) (by rfl) T.d_is_key.g T.d_is_key.F.kp T.d_is_key.b .nil pass0 (pa_cons (pv 6) pa_nil)) pa_nil))) pa_nil)))))) pa_nil)))
        (pss_one (ps_if (pt_cmpR op_notN (pv 7) pe_non (nomark _)) (pss_one (ps_ret (pe_tup (pa_cons (pv 1) (pa_cons (pv 7) pa_nil))))) pss_nil)))))
        (pss_one (ps_ret pe_non)))), fn_pure ((rs_seq (rs_if (rt_test (ro rv_gt (RfE.b (re_cb ro_len (rbC (RfE.b (rn 0)) rbN))) (RfE.b (rc_int _)))) (rs_ret (re_tup (raC (rc_int _) (raC (rc_str _) raN)))) rs_next)
        (rs_seq (rs_for (ri_enumT (raC (rn 0) raN)) (rg_tup (rg_cons (rg_name 1) (rg_cons (rg_name 2) rg_nil))) (rs_seq (rs_asg (rn 2) (rg_tup (rg_cons (rg_name 3) (rg_cons (rg_name 4) (rg_cons (rg_name 5) (rg_cons (rg_name 6) rg_nil))))))
        (rs_seq (rs_asg (re_call (raC (RfF.e (rf_lst (raC (re_tup (raC (rc_str _) (raC (re_call (raC (rn 3) raN)) raN))) (raC (re_tup (raC (rc_str _) (raC (ro (rv_in true) (RfE.b (rn 3)) (RfE.b (RfF.e (rf_lc (ri_tup (re_slT (RfE.b (rn 0)) rp_no (rp_some (rn 1)))) (rg_name 8) rt_yes (ro rv_ix (RfE.b (rn 8)) (RfE.b (rc_int _))))))) raN))) (raC (re_tup (raC (rc_str _) (raC (ro (rv_in false) (RfE.b (rn 4)) (RfE.b (show RfE _ _ (dC (PyData.tuple [PyData.str "bucket", PyData.str "window", PyData.str "open"])) from re_tup (raC (rc_str _) (raC (rc_str _) (raC (rc_str _) raN)))))) raN))) (raC (re_tup (raC (rc_str _) (raC (re_call (raC (rn 4) (raC (rn 5) raN))) raN))) (raC (re_tup (raC (rc_str _) (raC (re_call (raC (rn 6) raN)) raN))) raN))))))) raN)) (rg_name 7))
        (rs_if (rt_test (ro rv_notN (RfE.b (rn 7)) (RfE.b rc_non))) (rs_ret (re_tup (raC (rn 1) (raC (rn 7) raN)))) rs_next))))
        (rs_ret rc_non)))) h (by rw [spD_len F1_len h]; decide) (F1_in fun a0 Qd q => ?_)⟩
  obtain ⟨rs, rfl, hs, q⟩ := q
  simp only [true_and, ↓q_sTake, ↓q_sTake0, ↓q_sPick, ↓q_sNumber, rng_1, rng_2, rng_3, rng_4, rng_6, ↓q_dKd, dix_0, dix_1, dix_2, dix_3, dix_4, dix_5, dix_6, dix_7, dix_8, dix_9, Bool.not_false, Bool.not_true, Bool.and_true, Bool.true_and, Bool.and_false, Bool.false_and, decide_eq_true_eq, Bool.not_eq_true', decide_eq_false_iff_not, Bool.false_eq_true, if_true, if_false, ↓q_F0, ↓q_F1, ↓q_F2, ↓q_F3, ↓q_F4, ↓q_F5, ↓q_F6, ↓q_dParO1, ↓q_dParO2, ↓q_dEnumT, ↓q_oRepr, ↓q_dUn, ↓q_oNeg, ↓q_dSeq, ↓q_dRet, ↓q_dRetN, ↓q_dIf, ↓q_dAsg, ↓q_dDrop, ↓q_dBreak, ↓q_dCont, ↓q_dNext, ↓q_dOwn, ↓q_dApp, ↓q_dSetIx, ↓q_dFrz, frz, ↓q_dPar, ↓q_dAug, ↓q_dFor, ↓q_dN, ↓q_dNB, ↓q_dC, ↓q_dOp, ↓q_oI, ↓q_oI0, ↓q_oB, ↓q_oEq, ↓q_oEqS, eqS, ↓q_oIsN, isNo, ↓q_oIx, ↓q_oIx_1, ↓q_oIxS, seqOf, ↓q_oCat, ↓q_oCatT, ↓q_oCatS, ↓q_oIn, ↓q_oInS, ↓q_dTb, ↓q_dAnd, ↓q_dOr, ↓q_dNot, ↓q_dYes, ↓q_dAndV, ↓q_dOrV, ↓q_dNotV, ↓q_dIfV, ↓q_dChain, ↓q_dNil, ↓q_dCons, ↓q_dL, ↓q_dTup, ↓q_dCB, ↓q_oAbs, ↓q_oI2, ↓q_oLen, ↓q_oLenS, ↓q_oInt, ↓q_oInt_1, ↓q_oSum, ↓q_oBs, ↓q_oTupOf, ↓q_dSeqOf, ↓q_dIsi, it_bool_none, it_bool_bool, it_bool_int, it_bool_str, it_bool_list, it_bool_tuple, it_bool_dict, it_int_none, it_int_bool, it_int_int, it_int_str, it_int_list, it_int_tuple, it_int_dict, it_str_none, it_str_bool, it_str_int, it_str_str, it_str_list, it_str_tuple, it_str_dict, it_list_none, it_list_bool, it_list_int, it_list_str, it_list_list, it_list_tuple, it_list_dict, it_tuple_none, it_tuple_bool, it_tuple_int, it_tuple_str, it_tuple_list, it_tuple_tuple, it_tuple_dict, it_dict_none, it_dict_bool, it_dict_int, it_dict_str, it_dict_list, it_dict_tuple, it_dict_dict, ↓q_dNoP, ↓q_dPart, ↓q_dSlT, ↓q_dSlL, ↓q_dSlS, ↓q_dCall, ↓q_dCallS, ↓q_dItL, ↓q_dItT, ↓q_dItS, ↓q_dR1, ↓q_dR2, ↓q_dZip, ↓q_dEnum, ↓q_gN, ↓q_gNi, ↓q_gCo, ↓q_gCo_1, ↓q_gT, ↓q_dLc, ↓q_dDc, ↓q_dK, ↓q_oLenD, ↓q_dCL, ↓q_oRep, ↓q_oRepT, ↓q_dSortSet, ↓q_dSort2, ↓q_sSame, ↓q_oStr, ↓q_oIntS, ↓q_oOrd, ↓q_oMulS, ↓q_dM0, ↓q_dM1, ↓q_sLower, ↓q_sUpper, ↓q_sStarts, ↓q_sEnds, ↓q_dSplit, ↓q_dJoin, ↓q_dFmt, ↓q_dJn, ↓q_dJc, ↓q_dFs, ↓q_dDg, ↓q_dDin, ↓q_dDgx, keyOf, Option.isSome_some, wipeE, eget, eset, List.set, ev0, List.map_cons, List.map_nil, List.cons_append, List.nil_append, List.replicate_succ, List.replicate_zero, noOwn, isOwn, List.all_cons, List.all_nil, List.length_cons, List.length_nil, Bool.true_eq_false, not_false_eq_true, not_true_eq_false, List.length_map]
  unfold flt at q
  by_cases c : 16 < rs.length
  · rw [if_pos c] at q
    rw [if_pos (by omega)]
    exact q
  rw [if_neg c] at q
  rw [if_neg (by omega), enum_map]
  refine loop_by (fun rest env => ∃ (pre us : List LR) (s1 s2 s3 s4 s5 s6 s7 : Option En), rest = (us.zipIdx pre.length).map (fun x => PyData.tuple [.int (x.2 : Nat), eL x.1]) ∧ rs = pre ++ us ∧ fltG rs pre.length us = fltG rs 0 rs ∧
    env = [some (En.d (.tuple (rs.map eL))), s1, s2, s3, s4, s5, s6, s7, none]) ?_ ?_ _ _ ⟨[], rs, none, none, none, none, none, none, none, rfl, rfl, rfl, rfl⟩
  · rintro env ⟨pre, us, s1, s2, s3, s4, s5, s6, s7, h1, h2, h3, rfl⟩
    cases us with
    | cons _ _ => rw [List.zipIdx_cons] at h1; cases h1
    | nil =>
      rw [← h3] at q
      exact q
  · rintro d rest env N ⟨pre, us, s1, s2, s3, s4, s5, s6, s7, h1, h2, h3, rfl⟩ hN
    cases us with
    | nil => cases h1
    | cons u us =>
      rw [List.zipIdx_cons, List.map_cons] at h1
      cases h1
      obtain ⟨g1, g2, g3, g4, g5, g6⟩ := hs u (by rw [h2]; exact List.mem_append_right _ List.mem_cons_self)
      simp only [eL, true_and, ↓q_sTake, ↓q_sTake0, ↓q_sPick, ↓q_sNumber, rng_1, rng_2, rng_3, rng_4, rng_6, ↓q_dKd, dix_0, dix_1, dix_2, dix_3, dix_4, dix_5, dix_6, dix_7, dix_8, dix_9, Bool.not_false, Bool.not_true, Bool.and_true, Bool.true_and, Bool.and_false, Bool.false_and, decide_eq_true_eq, Bool.not_eq_true', decide_eq_false_iff_not, Bool.false_eq_true, if_true, if_false, ↓q_F0, ↓q_F1, ↓q_F2, ↓q_F3, ↓q_F4, ↓q_F5, ↓q_F6, ↓q_dParO1, ↓q_dParO2, ↓q_dEnumT, ↓q_oRepr, ↓q_dUn, ↓q_oNeg, ↓q_dSeq, ↓q_dRet, ↓q_dRetN, ↓q_dIf, ↓q_dAsg, ↓q_dDrop, ↓q_dBreak, ↓q_dCont, ↓q_dNext, ↓q_dOwn, ↓q_dApp, ↓q_dSetIx, ↓q_dFrz, frz, ↓q_dPar, ↓q_dAug, ↓q_dFor, ↓q_dN, ↓q_dNB, ↓q_dC, ↓q_dOp, ↓q_oI, ↓q_oI0, ↓q_oB, ↓q_oEq, ↓q_oEqS, eqS, ↓q_oIsN, isNo, ↓q_oIx, ↓q_oIx_1, ↓q_oIxS, seqOf, ↓q_oCat, ↓q_oCatT, ↓q_oCatS, ↓q_oIn, ↓q_oInS, ↓q_dTb, ↓q_dAnd, ↓q_dOr, ↓q_dNot, ↓q_dYes, ↓q_dAndV, ↓q_dOrV, ↓q_dNotV, ↓q_dIfV, ↓q_dChain, ↓q_dNil, ↓q_dCons, ↓q_dL, ↓q_dTup, ↓q_dCB, ↓q_oAbs, ↓q_oI2, ↓q_oLen, ↓q_oLenS, ↓q_oInt, ↓q_oInt_1, ↓q_oSum, ↓q_oBs, ↓q_oTupOf, ↓q_dSeqOf, ↓q_dIsi, it_bool_none, it_bool_bool, it_bool_int, it_bool_str, it_bool_list, it_bool_tuple, it_bool_dict, it_int_none, it_int_bool, it_int_int, it_int_str, it_int_list, it_int_tuple, it_int_dict, it_str_none, it_str_bool, it_str_int, it_str_str, it_str_list, it_str_tuple, it_str_dict, it_list_none, it_list_bool, it_list_int, it_list_str, it_list_list, it_list_tuple, it_list_dict, it_tuple_none, it_tuple_bool, it_tuple_int, it_tuple_str, it_tuple_list, it_tuple_tuple, it_tuple_dict, it_dict_none, it_dict_bool, it_dict_int, it_dict_str, it_dict_list, it_dict_tuple, it_dict_dict, ↓q_dNoP, ↓q_dPart, ↓q_dSlT, ↓q_dSlL, ↓q_dSlS, ↓q_dCall, ↓q_dCallS, ↓q_dItL, ↓q_dItT, ↓q_dItS, ↓q_dR1, ↓q_dR2, ↓q_dZip, ↓q_dEnum, ↓q_gN, ↓q_gNi, ↓q_gCo, ↓q_gCo_1, ↓q_gT, ↓q_dLc, ↓q_dDc, ↓q_dK, ↓q_oLenD, ↓q_dCL, ↓q_oRep, ↓q_oRepT, ↓q_dSortSet, ↓q_dSort2, ↓q_sSame, ↓q_oStr, ↓q_oIntS, ↓q_oOrd, ↓q_oMulS, ↓q_dM0, ↓q_dM1, ↓q_sLower, ↓q_sUpper, ↓q_sStarts, ↓q_sEnds, ↓q_dSplit, ↓q_dJoin, ↓q_dFmt, ↓q_dJn, ↓q_dJc, ↓q_dFs, ↓q_dDg, ↓q_dDin, ↓q_dDgx, keyOf, Option.isSome_some, wipeE, eget, eset, List.set, ev0, List.map_cons, List.map_nil, List.cons_append, List.nil_append, List.replicate_succ, List.replicate_zero, noOwn, isOwn, List.all_cons, List.all_nil, List.length_cons, List.length_nil, Bool.true_eq_false, not_false_eq_true, not_true_eq_false]
      have ht : rs.take pre.length = pre := by rw [h2, List.take_left]
      have hl : pre.length ≤ rs.length := by rw [h2, List.length_append]; omega
      rw [cut_lo _ (show (0 : Int) ≤ (pre.length : Nat) by omega), Int.toNat_natCast, ← List.map_take, ht]
      refine ⟨g1, by rw [List.length_map]; omega, ?_⟩
      refine lc_fun eL (fun r => some r.1) (as := pre) (fun r hr R hR => ?_) ?_
      · simp only [eL, true_and, ↓q_sTake, ↓q_sTake0, ↓q_sPick, ↓q_sNumber, rng_1, rng_2, rng_3, rng_4, rng_6, ↓q_dKd, dix_0, dix_1, dix_2, dix_3, dix_4, dix_5, dix_6, dix_7, dix_8, dix_9, Bool.not_false, Bool.not_true, Bool.and_true, Bool.true_and, Bool.and_false, Bool.false_and, decide_eq_true_eq, Bool.not_eq_true', decide_eq_false_iff_not, Bool.false_eq_true, if_true, if_false, ↓q_F0, ↓q_F1, ↓q_F2, ↓q_F3, ↓q_F4, ↓q_F5, ↓q_F6, ↓q_dParO1, ↓q_dParO2, ↓q_dEnumT, ↓q_oRepr, ↓q_dUn, ↓q_oNeg, ↓q_dSeq, ↓q_dRet, ↓q_dRetN, ↓q_dIf, ↓q_dAsg, ↓q_dDrop, ↓q_dBreak, ↓q_dCont, ↓q_dNext, ↓q_dOwn, ↓q_dApp, ↓q_dSetIx, ↓q_dFrz, frz, ↓q_dPar, ↓q_dAug, ↓q_dFor, ↓q_dN, ↓q_dNB, ↓q_dC, ↓q_dOp, ↓q_oI, ↓q_oI0, ↓q_oB, ↓q_oEq, ↓q_oEqS, eqS, ↓q_oIsN, isNo, ↓q_oIx, ↓q_oIx_1, ↓q_oIxS, seqOf, ↓q_oCat, ↓q_oCatT, ↓q_oCatS, ↓q_oIn, ↓q_oInS, ↓q_dTb, ↓q_dAnd, ↓q_dOr, ↓q_dNot, ↓q_dYes, ↓q_dAndV, ↓q_dOrV, ↓q_dNotV, ↓q_dIfV, ↓q_dChain, ↓q_dNil, ↓q_dCons, ↓q_dL, ↓q_dTup, ↓q_dCB, ↓q_oAbs, ↓q_oI2, ↓q_oLen, ↓q_oLenS, ↓q_oInt, ↓q_oInt_1, ↓q_oSum, ↓q_oBs, ↓q_oTupOf, ↓q_dSeqOf, ↓q_dIsi, it_bool_none, it_bool_bool, it_bool_int, it_bool_str, it_bool_list, it_bool_tuple, it_bool_dict, it_int_none, it_int_bool, it_int_int, it_int_str, it_int_list, it_int_tuple, it_int_dict, it_str_none, it_str_bool, it_str_int, it_str_str, it_str_list, it_str_tuple, it_str_dict, it_list_none, it_list_bool, it_list_int, it_list_str, it_list_list, it_list_tuple, it_list_dict, it_tuple_none, it_tuple_bool, it_tuple_int, it_tuple_str, it_tuple_list, it_tuple_tuple, it_tuple_dict, it_dict_none, it_dict_bool, it_dict_int, it_dict_str, it_dict_list, it_dict_tuple, it_dict_dict, ↓q_dNoP, ↓q_dPart, ↓q_dSlT, ↓q_dSlL, ↓q_dSlS, ↓q_dCall, ↓q_dCallS, ↓q_dItL, ↓q_dItT, ↓q_dItS, ↓q_dR1, ↓q_dR2, ↓q_dZip, ↓q_dEnum, ↓q_gN, ↓q_gNi, ↓q_gCo, ↓q_gCo_1, ↓q_gT, ↓q_dLc, ↓q_dDc, ↓q_dK, ↓q_oLenD, ↓q_dCL, ↓q_oRep, ↓q_oRepT, ↓q_dSortSet, ↓q_dSort2, ↓q_sSame, ↓q_oStr, ↓q_oIntS, ↓q_oOrd, ↓q_oMulS, ↓q_dM0, ↓q_dM1, ↓q_sLower, ↓q_sUpper, ↓q_sStarts, ↓q_sEnds, ↓q_dSplit, ↓q_dJoin, ↓q_dFmt, ↓q_dJn, ↓q_dJc, ↓q_dFs, ↓q_dDg, ↓q_dDin, ↓q_dDgx, keyOf, Option.isSome_some, wipeE, eget, eset, List.set, ev0, List.map_cons, List.map_nil, List.cons_append, List.nil_append, List.replicate_succ, List.replicate_zero, noOwn, isOwn, List.all_cons, List.all_nil, List.length_cons, List.length_nil, Bool.true_eq_false, not_false_eq_true, not_true_eq_false]
        exact hR
      rw [fm_some]
      have hk : inD u.2.1 KD = (leasts u.2.1).isSome := by
        rcases kind_cases g3 with ⟨k1, k2⟩ | ⟨z, ls, -, k1, k2, -, -⟩
        · rw [k1, k2]; rfl
        · rw [k1, k2]; rfl
      have hfw : fwL rs pre.length u = fw [("name", isNm u.1), ("twice", !inD u.1 (pre.map (·.1))), ("kind", inD u.2.1 KD), ("numbers", nums u.2.1 u.2.2.1), ("key", keyOk u.2.2.2)] := by
        unfold fwL
        rw [ht, hk]
      refine ⟨g2, List.all_eq_true.mpr fun d hd => ?_, g3, rfl, g3, g4, g5, g6, [("name", isNm u.1), ("twice", !inD u.1 (pre.map (·.1))), ("kind", inD u.2.1 KD), ("numbers", nums u.2.1 u.2.2.1), ("key", keyOk u.2.2.2)], rfl, ?_⟩
      · obtain ⟨r, hr, rfl⟩ := List.mem_map.mp hd
        exact (hs r (by rw [h2]; exact List.mem_append_left _ hr)).2.1
      · have key : ∀ (b : Prop) (n : Prop), (isNo (fwL rs pre.length u) = false → b) → (isNo (fwL rs pre.length u) = true → n) → if isNo (fw [("name", isNm u.1), ("twice", !inD u.1 (pre.map (·.1))), ("kind", inD u.2.1 KD), ("numbers", nums u.2.1 u.2.2.1), ("key", keyOk u.2.2.2)]) = false then b else n := fun b n hb hn => by
          rw [← hfw]
          cases e : isNo (fwL rs pre.length u) with
          | true => rw [if_neg (by decide)]; exact hn e
          | false => rw [if_pos rfl]; exact hb e
        rw [fltG] at h3
        refine key _ _ (fun hb => ?_) (fun hn => ?_)
        · rw [if_neg (by rw [hb]; decide)] at h3
          rw [← h3, hfw] at q
          exact q
        · rw [if_pos hn] at h3
          exact hN _ ⟨pre ++ [u], us, _, _, _, _, _, _, _, by rw [List.length_append]; rfl, by rw [h2, List.append_assoc]; rfl, by rw [List.length_append]; exact h3, rfl⟩
end
section
variable {P : Program} {w : World} {K : PySem.W.Frag} {mg : Str → Option Value} {base : Heap}
inductive Wd
  | out
  | ins
  | srv
  | knd
  | bit (n : Nat)
def Wd.str : Wd → Str | .out => "outside" | .ins => "inside" | .srv => "service" | .knd => "kind" | .bit n => bw n
def Wd.ok : Wd → Prop | .bit n => 1 ≤ n ∧ n < 32 | _ => True
def eA (k : D) (o : Option Int) (i s : D) : D := .tuple [k, (match o with | none => .none | some a => .int a), i, s]
def eO (o : Option Int) : D := match o with | none => .none | some a => .int a
def told (k : D) (o : Option Int) (i s : D) : Wd → D
  | .out => eO o
  | .ins => i
  | .srv => s
  | .knd => k
  | .bit n => match o with | none => .none | some a => .int (a / 2 ^ (32 - n))
theorem bw_ne : ∀ n < 32, ¬ bw n = Str.ofString "kind" ∧ ¬ bw n = Str.ofString "inside" ∧ ¬ bw n = Str.ofString "service" ∧ ¬ bw n = Str.ofString "outside" := by decide +kernel
theorem bw_split : ∀ n < 32, Txt.split (bw n) (Str.ofString " ") = [Str.ofString "outside", Str.ofString (toString (n : Int))] ∧ PySem.intText? (Str.ofString (toString (n : Int))) = some (n : Int) ∧ (Str.ofString (toString (n : Int))).length ≤ 640 ∧ (bw n).length ≤ 10 ∧ cutS (bw n) (some 8) none = Str.ofString (toString (n : Int)) := by decide +kernel
theorem w_1 : ¬ Str.ofString "outside" = Str.ofString "kind" := by decide +kernel
theorem w_2 : ¬ Str.ofString "outside" = Str.ofString "inside" := by decide +kernel
theorem w_3 : ¬ Str.ofString "outside" = Str.ofString "service" := by decide +kernel
theorem w_4 : ¬ Str.ofString "inside" = Str.ofString "kind" := by decide +kernel
theorem w_5 : ¬ Str.ofString "service" = Str.ofString "kind" := by decide +kernel
theorem w_6 : ¬ Str.ofString "service" = Str.ofString "inside" := by decide +kernel
theorem w_7 : ¬ Str.ofString "inside" = Str.ofString "outside" := by decide +kernel
theorem w_8 : ¬ Str.ofString "service" = Str.ofString "outside" := by decide +kernel
theorem w_9 : ¬ Str.ofString "kind" = Str.ofString "outside" := by decide +kernel
theorem w_10 : ¬ Str.ofString "kind" = Str.ofString "inside" := by decide +kernel
theorem w_11 : ¬ Str.ofString "kind" = Str.ofString "service" := by decide +kernel
theorem ok_told_by (T : Tx K mg w) : FnOk P w K mg base CX0 1 T.ad_told_by T.fd_told_by ["word", "asker"] (spD K (F2 fun a b Q => ∃ wd k o i s, a = .str (Wd.str wd) ∧ b = .tuple [k, eO o, i, s] ∧ wd.ok ∧ Q (told k o i s wd))) := by
  refine T.d_told_by.F.ok x_told_by (fun vs H Q E h => spD_len F2_len h) (fun cdv A outer s H vs Q E hr h => ?_)
  have nd := x_told_by.nd
  refine ⟨_, (pss_cons (ps_asg (pv 1) (pg_tup (n := 4) rfl (pgs_cons (pg_name (i := 2) nd rfl (Or.inl rfl)) (pgs_cons (pg_name (i := 3) nd rfl (Or.inl rfl)) (pgs_cons (pg_name (i := 4) nd rfl (Or.inl rfl)) (pgs_cons (pg_name (i := 5) nd rfl (Or.inl rfl)) pgs_nil))))))
        (pss_cons (ps_if (pt_cmpR op_eq (pv 0) pe_str (nomark _)) (pss_one (ps_ret (pv 2))) pss_nil)
        (pss_cons (ps_if (pt_cmpR op_eq (pv 0) pe_str (nomark _)) (pss_one (ps_ret (pv 4))) pss_nil)
        (pss_cons (ps_if (pt_cmpR op_eq (pv 0) pe_str (nomark _)) (pss_one (ps_ret (pv 5))) pss_nil)
        (pss_cons (ps_if (PW.pt (pw_or (pt_cmpR op_eq (pv 0) pe_str (nomark _)) (pw_or1 (pt_cmpR op_isN (pv 3) pe_non (nomark _))))) (pss_one (ps_ret (pv 3))) pss_nil)
        (pss_cons (ps_set (i := 6) nd rfl (Or.inl rfl) (pe_callTy call_int_str (by rfl) T.b_int (by decide +kernel) (pa_cons (pe_ix ix_seq (pe_split (pv 0) pe_str) pe_int (fun _ _ => rfl)) pa_nil)))
        (pss_one (ps_ret (pe_op op_shr (pv 3) (pe_op op_sub pe_int (pv 6))))))))))), fn_pure ((rs_seq (rs_asg (rn 1) (rg_tup (rg_cons (rg_name 2) (rg_cons (rg_name 3) (rg_cons (rg_name 4) (rg_cons (rg_name 5) rg_nil))))))
        (rs_seq (rs_if (rt_test (ro rv_eq (RfE.b (rn 0)) (RfE.b (rc_str _)))) (rs_ret (rn 2)) rs_next)
        (rs_seq (rs_if (rt_test (ro rv_eq (RfE.b (rn 0)) (RfE.b (rc_str _)))) (rs_ret (rn 4)) rs_next)
        (rs_seq (rs_if (rt_test (ro rv_eq (RfE.b (rn 0)) (RfE.b (rc_str _)))) (rs_ret (rn 5)) rs_next)
        (rs_seq (rs_if (rt_or (rt_test (ro rv_eq (RfE.b (rn 0)) (RfE.b (rc_str _)))) (rt_test (ro rv_isN (RfE.b (rn 3)) (RfE.b rc_non)))) (rs_ret (rn 3)) rs_next)
        (rs_seq (rs_asg (re_cb ro_intS (rbC (RfE.b (ro rv_ix (RfE.b (RfF.e (rf_split (rn 0) (rc_str _)))) (RfE.b (rc_int _)))) rbN)) (rg_name 6))
        (rs_ret (ro rv_shr (RfE.b (rn 3)) (RfE.b (ro rv_sub (RfE.b (rc_int _)) (RfE.b (rn 6))))))))))))) h (by rw [spD_len F2_len h]; decide) (F2_in fun a0 a1 Qd q => ?_)⟩
  obtain ⟨wd, k, o, i, s, rfl, rfl, ok, q⟩ := q
  cases wd with
  | bit n =>
    simp only [Wd.str, true_and, ↓q_sTake, ↓q_sTake0, ↓q_sPick, ↓q_sNumber, rng_1, rng_2, rng_3, rng_4, rng_6, ↓q_dKd, dix_0, dix_1, dix_2, dix_3, dix_4, dix_5, dix_6, dix_7, dix_8, dix_9, Bool.not_false, Bool.not_true, Bool.and_true, Bool.true_and, Bool.and_false, Bool.false_and, decide_eq_true_eq, Bool.not_eq_true', decide_eq_false_iff_not, Bool.false_eq_true, if_true, if_false, ↓q_F0, ↓q_F1, ↓q_F2, ↓q_F3, ↓q_F4, ↓q_F5, ↓q_F6, ↓q_dParO1, ↓q_dParO2, ↓q_dEnumT, ↓q_oRepr, ↓q_dUn, ↓q_oNeg, ↓q_dSeq, ↓q_dRet, ↓q_dRetN, ↓q_dIf, ↓q_dAsg, ↓q_dDrop, ↓q_dBreak, ↓q_dCont, ↓q_dNext, ↓q_dOwn, ↓q_dApp, ↓q_dSetIx, ↓q_dFrz, frz, ↓q_dPar, ↓q_dAug, ↓q_dFor, ↓q_dN, ↓q_dNB, ↓q_dC, ↓q_dOp, ↓q_oI, ↓q_oI0, ↓q_oB, ↓q_oEq, ↓q_oEqS, eqS, ↓q_oIsN, isNo, ↓q_oIx, ↓q_oIx_1, ↓q_oIxS, seqOf, ↓q_oCat, ↓q_oCatT, ↓q_oCatS, ↓q_oIn, ↓q_oInS, ↓q_dTb, ↓q_dAnd, ↓q_dOr, ↓q_dNot, ↓q_dYes, ↓q_dAndV, ↓q_dOrV, ↓q_dNotV, ↓q_dIfV, ↓q_dChain, ↓q_dNil, ↓q_dCons, ↓q_dL, ↓q_dTup, ↓q_dCB, ↓q_oAbs, ↓q_oI2, ↓q_oLen, ↓q_oLenS, ↓q_oInt, ↓q_oInt_1, ↓q_oSum, ↓q_oBs, ↓q_oTupOf, ↓q_dSeqOf, ↓q_dIsi, it_bool_none, it_bool_bool, it_bool_int, it_bool_str, it_bool_list, it_bool_tuple, it_bool_dict, it_int_none, it_int_bool, it_int_int, it_int_str, it_int_list, it_int_tuple, it_int_dict, it_str_none, it_str_bool, it_str_int, it_str_str, it_str_list, it_str_tuple, it_str_dict, it_list_none, it_list_bool, it_list_int, it_list_str, it_list_list, it_list_tuple, it_list_dict, it_tuple_none, it_tuple_bool, it_tuple_int, it_tuple_str, it_tuple_list, it_tuple_tuple, it_tuple_dict, it_dict_none, it_dict_bool, it_dict_int, it_dict_str, it_dict_list, it_dict_tuple, it_dict_dict, ↓q_dNoP, ↓q_dPart, ↓q_dSlT, ↓q_dSlL, ↓q_dSlS, ↓q_dCall, ↓q_dCallS, ↓q_dItL, ↓q_dItT, ↓q_dItS, ↓q_dR1, ↓q_dR2, ↓q_dZip, ↓q_dEnum, ↓q_gN, ↓q_gNi, ↓q_gCo, ↓q_gCo_1, ↓q_gT, ↓q_dLc, ↓q_dDc, ↓q_dK, ↓q_oLenD, ↓q_dCL, ↓q_oRep, ↓q_oRepT, ↓q_dSortSet, ↓q_dSort2, ↓q_sSame, ↓q_oStr, ↓q_oIntS, ↓q_oOrd, ↓q_oMulS, ↓q_dM0, ↓q_dM1, ↓q_sLower, ↓q_sUpper, ↓q_sStarts, ↓q_sEnds, ↓q_dSplit, ↓q_dJoin, ↓q_dFmt, ↓q_dJn, ↓q_dJc, ↓q_dFs, ↓q_dDg, ↓q_dDin, ↓q_dDgx, keyOf, Option.isSome_some, wipeE, eget, eset, List.set, ev0, List.map_cons, List.map_nil, List.cons_append, List.nil_append, List.replicate_succ, List.replicate_zero, noOwn, isOwn, List.all_cons, List.all_nil, List.length_cons, List.length_nil, Bool.true_eq_false, not_false_eq_true, not_true_eq_false]
    obtain ⟨b1, b2, b3, b4⟩ := bw_ne n ok.2
    obtain ⟨e1, e2, e3, e4, e5⟩ := bw_split n ok.2
    cases o with
    | none =>
      simp only [eO, true_and, ↓q_sTake, ↓q_sTake0, ↓q_sPick, ↓q_sNumber, rng_1, rng_2, rng_3, rng_4, rng_6, ↓q_dKd, dix_0, dix_1, dix_2, dix_3, dix_4, dix_5, dix_6, dix_7, dix_8, dix_9, Bool.not_false, Bool.not_true, Bool.and_true, Bool.true_and, Bool.and_false, Bool.false_and, decide_eq_true_eq, Bool.not_eq_true', decide_eq_false_iff_not, Bool.false_eq_true, if_true, if_false, ↓q_F0, ↓q_F1, ↓q_F2, ↓q_F3, ↓q_F4, ↓q_F5, ↓q_F6, ↓q_dParO1, ↓q_dParO2, ↓q_dEnumT, ↓q_oRepr, ↓q_dUn, ↓q_oNeg, ↓q_dSeq, ↓q_dRet, ↓q_dRetN, ↓q_dIf, ↓q_dAsg, ↓q_dDrop, ↓q_dBreak, ↓q_dCont, ↓q_dNext, ↓q_dOwn, ↓q_dApp, ↓q_dSetIx, ↓q_dFrz, frz, ↓q_dPar, ↓q_dAug, ↓q_dFor, ↓q_dN, ↓q_dNB, ↓q_dC, ↓q_dOp, ↓q_oI, ↓q_oI0, ↓q_oB, ↓q_oEq, ↓q_oEqS, eqS, ↓q_oIsN, isNo, ↓q_oIx, ↓q_oIx_1, ↓q_oIxS, seqOf, ↓q_oCat, ↓q_oCatT, ↓q_oCatS, ↓q_oIn, ↓q_oInS, ↓q_dTb, ↓q_dAnd, ↓q_dOr, ↓q_dNot, ↓q_dYes, ↓q_dAndV, ↓q_dOrV, ↓q_dNotV, ↓q_dIfV, ↓q_dChain, ↓q_dNil, ↓q_dCons, ↓q_dL, ↓q_dTup, ↓q_dCB, ↓q_oAbs, ↓q_oI2, ↓q_oLen, ↓q_oLenS, ↓q_oInt, ↓q_oInt_1, ↓q_oSum, ↓q_oBs, ↓q_oTupOf, ↓q_dSeqOf, ↓q_dIsi, it_bool_none, it_bool_bool, it_bool_int, it_bool_str, it_bool_list, it_bool_tuple, it_bool_dict, it_int_none, it_int_bool, it_int_int, it_int_str, it_int_list, it_int_tuple, it_int_dict, it_str_none, it_str_bool, it_str_int, it_str_str, it_str_list, it_str_tuple, it_str_dict, it_list_none, it_list_bool, it_list_int, it_list_str, it_list_list, it_list_tuple, it_list_dict, it_tuple_none, it_tuple_bool, it_tuple_int, it_tuple_str, it_tuple_list, it_tuple_tuple, it_tuple_dict, it_dict_none, it_dict_bool, it_dict_int, it_dict_str, it_dict_list, it_dict_tuple, it_dict_dict, ↓q_dNoP, ↓q_dPart, ↓q_dSlT, ↓q_dSlL, ↓q_dSlS, ↓q_dCall, ↓q_dCallS, ↓q_dItL, ↓q_dItT, ↓q_dItS, ↓q_dR1, ↓q_dR2, ↓q_dZip, ↓q_dEnum, ↓q_gN, ↓q_gNi, ↓q_gCo, ↓q_gCo_1, ↓q_gT, ↓q_dLc, ↓q_dDc, ↓q_dK, ↓q_oLenD, ↓q_dCL, ↓q_oRep, ↓q_oRepT, ↓q_dSortSet, ↓q_dSort2, ↓q_sSame, ↓q_oStr, ↓q_oIntS, ↓q_oOrd, ↓q_oMulS, ↓q_dM0, ↓q_dM1, ↓q_sLower, ↓q_sUpper, ↓q_sStarts, ↓q_sEnds, ↓q_dSplit, ↓q_dJoin, ↓q_dFmt, ↓q_dJn, ↓q_dJc, ↓q_dFs, ↓q_dDg, ↓q_dDin, ↓q_dDgx, keyOf, Option.isSome_some, wipeE, eget, eset, List.set, ev0, List.map_cons, List.map_nil, List.cons_append, List.nil_append, List.replicate_succ, List.replicate_zero, noOwn, isOwn, List.all_cons, List.all_nil, List.length_cons, List.length_nil, Bool.true_eq_false, not_false_eq_true, not_true_eq_false]
      rw [if_neg b1, if_neg b2, if_neg b3, if_neg b4]
      exact q
    | some a =>
      simp only [eO, true_and, ↓q_sTake, ↓q_sTake0, ↓q_sPick, ↓q_sNumber, rng_1, rng_2, rng_3, rng_4, rng_6, ↓q_dKd, dix_0, dix_1, dix_2, dix_3, dix_4, dix_5, dix_6, dix_7, dix_8, dix_9, Bool.not_false, Bool.not_true, Bool.and_true, Bool.true_and, Bool.and_false, Bool.false_and, decide_eq_true_eq, Bool.not_eq_true', decide_eq_false_iff_not, Bool.false_eq_true, if_true, if_false, ↓q_F0, ↓q_F1, ↓q_F2, ↓q_F3, ↓q_F4, ↓q_F5, ↓q_F6, ↓q_dParO1, ↓q_dParO2, ↓q_dEnumT, ↓q_oRepr, ↓q_dUn, ↓q_oNeg, ↓q_dSeq, ↓q_dRet, ↓q_dRetN, ↓q_dIf, ↓q_dAsg, ↓q_dDrop, ↓q_dBreak, ↓q_dCont, ↓q_dNext, ↓q_dOwn, ↓q_dApp, ↓q_dSetIx, ↓q_dFrz, frz, ↓q_dPar, ↓q_dAug, ↓q_dFor, ↓q_dN, ↓q_dNB, ↓q_dC, ↓q_dOp, ↓q_oI, ↓q_oI0, ↓q_oB, ↓q_oEq, ↓q_oEqS, eqS, ↓q_oIsN, isNo, ↓q_oIx, ↓q_oIx_1, ↓q_oIxS, seqOf, ↓q_oCat, ↓q_oCatT, ↓q_oCatS, ↓q_oIn, ↓q_oInS, ↓q_dTb, ↓q_dAnd, ↓q_dOr, ↓q_dNot, ↓q_dYes, ↓q_dAndV, ↓q_dOrV, ↓q_dNotV, ↓q_dIfV, ↓q_dChain, ↓q_dNil, ↓q_dCons, ↓q_dL, ↓q_dTup, ↓q_dCB, ↓q_oAbs, ↓q_oI2, ↓q_oLen, ↓q_oLenS, ↓q_oInt, ↓q_oInt_1, ↓q_oSum, ↓q_oBs, ↓q_oTupOf, ↓q_dSeqOf, ↓q_dIsi, it_bool_none, it_bool_bool, it_bool_int, it_bool_str, it_bool_list, it_bool_tuple, it_bool_dict, it_int_none, it_int_bool, it_int_int, it_int_str, it_int_list, it_int_tuple, it_int_dict, it_str_none, it_str_bool, it_str_int, it_str_str, it_str_list, it_str_tuple, it_str_dict, it_list_none, it_list_bool, it_list_int, it_list_str, it_list_list, it_list_tuple, it_list_dict, it_tuple_none, it_tuple_bool, it_tuple_int, it_tuple_str, it_tuple_list, it_tuple_tuple, it_tuple_dict, it_dict_none, it_dict_bool, it_dict_int, it_dict_str, it_dict_list, it_dict_tuple, it_dict_dict, ↓q_dNoP, ↓q_dPart, ↓q_dSlT, ↓q_dSlL, ↓q_dSlS, ↓q_dCall, ↓q_dCallS, ↓q_dItL, ↓q_dItT, ↓q_dItS, ↓q_dR1, ↓q_dR2, ↓q_dZip, ↓q_dEnum, ↓q_gN, ↓q_gNi, ↓q_gCo, ↓q_gCo_1, ↓q_gT, ↓q_dLc, ↓q_dDc, ↓q_dK, ↓q_oLenD, ↓q_dCL, ↓q_oRep, ↓q_oRepT, ↓q_dSortSet, ↓q_dSort2, ↓q_sSame, ↓q_oStr, ↓q_oIntS, ↓q_oOrd, ↓q_oMulS, ↓q_dM0, ↓q_dM1, ↓q_sLower, ↓q_sUpper, ↓q_sStarts, ↓q_sEnds, ↓q_dSplit, ↓q_dJoin, ↓q_dFmt, ↓q_dJn, ↓q_dJc, ↓q_dFs, ↓q_dDg, ↓q_dDin, ↓q_dDgx, keyOf, Option.isSome_some, wipeE, eget, eset, List.set, ev0, List.map_cons, List.map_nil, List.cons_append, List.nil_append, List.replicate_succ, List.replicate_zero, noOwn, isOwn, List.all_cons, List.all_nil, List.length_cons, List.length_nil, Bool.true_eq_false, not_false_eq_true, not_true_eq_false]
      rw [if_neg b1, if_neg b2, if_neg b3, if_neg b4, e1]
      refine ⟨by decide, by omega, ?_⟩
      simp only [List.map_cons, List.map_nil, true_and, ↓q_sTake, ↓q_sTake0, ↓q_sPick, ↓q_sNumber, rng_1, rng_2, rng_3, rng_4, rng_6, ↓q_dKd, dix_0, dix_1, dix_2, dix_3, dix_4, dix_5, dix_6, dix_7, dix_8, dix_9, Bool.not_false, Bool.not_true, Bool.and_true, Bool.true_and, Bool.and_false, Bool.false_and, decide_eq_true_eq, Bool.not_eq_true', decide_eq_false_iff_not, Bool.false_eq_true, if_true, if_false, ↓q_F0, ↓q_F1, ↓q_F2, ↓q_F3, ↓q_F4, ↓q_F5, ↓q_F6, ↓q_dParO1, ↓q_dParO2, ↓q_dEnumT, ↓q_oRepr, ↓q_dUn, ↓q_oNeg, ↓q_dSeq, ↓q_dRet, ↓q_dRetN, ↓q_dIf, ↓q_dAsg, ↓q_dDrop, ↓q_dBreak, ↓q_dCont, ↓q_dNext, ↓q_dOwn, ↓q_dApp, ↓q_dSetIx, ↓q_dFrz, frz, ↓q_dPar, ↓q_dAug, ↓q_dFor, ↓q_dN, ↓q_dNB, ↓q_dC, ↓q_dOp, ↓q_oI, ↓q_oI0, ↓q_oB, ↓q_oEq, ↓q_oEqS, eqS, ↓q_oIsN, isNo, ↓q_oIx, ↓q_oIx_1, ↓q_oIxS, seqOf, ↓q_oCat, ↓q_oCatT, ↓q_oCatS, ↓q_oIn, ↓q_oInS, ↓q_dTb, ↓q_dAnd, ↓q_dOr, ↓q_dNot, ↓q_dYes, ↓q_dAndV, ↓q_dOrV, ↓q_dNotV, ↓q_dIfV, ↓q_dChain, ↓q_dNil, ↓q_dCons, ↓q_dL, ↓q_dTup, ↓q_dCB, ↓q_oAbs, ↓q_oI2, ↓q_oLen, ↓q_oLenS, ↓q_oInt, ↓q_oInt_1, ↓q_oSum, ↓q_oBs, ↓q_oTupOf, ↓q_dSeqOf, ↓q_dIsi, it_bool_none, it_bool_bool, it_bool_int, it_bool_str, it_bool_list, it_bool_tuple, it_bool_dict, it_int_none, it_int_bool, it_int_int, it_int_str, it_int_list, it_int_tuple, it_int_dict, it_str_none, it_str_bool, it_str_int, it_str_str, it_str_list, it_str_tuple, it_str_dict, it_list_none, it_list_bool, it_list_int, it_list_str, it_list_list, it_list_tuple, it_list_dict, it_tuple_none, it_tuple_bool, it_tuple_int, it_tuple_str, it_tuple_list, it_tuple_tuple, it_tuple_dict, it_dict_none, it_dict_bool, it_dict_int, it_dict_str, it_dict_list, it_dict_tuple, it_dict_dict, ↓q_dNoP, ↓q_dPart, ↓q_dSlT, ↓q_dSlL, ↓q_dSlS, ↓q_dCall, ↓q_dCallS, ↓q_dItL, ↓q_dItT, ↓q_dItS, ↓q_dR1, ↓q_dR2, ↓q_dZip, ↓q_dEnum, ↓q_gN, ↓q_gNi, ↓q_gCo, ↓q_gCo_1, ↓q_gT, ↓q_dLc, ↓q_dDc, ↓q_dK, ↓q_oLenD, ↓q_dCL, ↓q_oRep, ↓q_oRepT, ↓q_dSortSet, ↓q_dSort2, ↓q_sSame, ↓q_oStr, ↓q_oIntS, ↓q_oOrd, ↓q_oMulS, ↓q_dM0, ↓q_dM1, ↓q_sLower, ↓q_sUpper, ↓q_sStarts, ↓q_sEnds, ↓q_dSplit, ↓q_dJoin, ↓q_dFmt, ↓q_dJn, ↓q_dJc, ↓q_dFs, ↓q_dDg, ↓q_dDin, ↓q_dDgx, keyOf, Option.isSome_some, wipeE, eget, eset, List.set, ev0, List.map_cons, List.map_nil, List.cons_append, List.nil_append, List.replicate_succ, List.replicate_zero, noOwn, isOwn, List.all_cons, List.all_nil, List.length_cons, List.length_nil, Bool.true_eq_false, not_false_eq_true, not_true_eq_false]
      have hn := ok.2
      refine ⟨_, e2, e3, ?_⟩
      refine ⟨by omega, ?_⟩
      rw [show (32 - (n : Int)).toNat = 32 - n by omega]
      exact q
  | out => simp only [Wd.str, true_and, ↓q_sTake, ↓q_sTake0, ↓q_sPick, ↓q_sNumber, rng_1, rng_2, rng_3, rng_4, rng_6, ↓q_dKd, dix_0, dix_1, dix_2, dix_3, dix_4, dix_5, dix_6, dix_7, dix_8, dix_9, Bool.not_false, Bool.not_true, Bool.and_true, Bool.true_and, Bool.and_false, Bool.false_and, decide_eq_true_eq, Bool.not_eq_true', decide_eq_false_iff_not, Bool.false_eq_true, if_true, if_false, ↓q_F0, ↓q_F1, ↓q_F2, ↓q_F3, ↓q_F4, ↓q_F5, ↓q_F6, ↓q_dParO1, ↓q_dParO2, ↓q_dEnumT, ↓q_oRepr, ↓q_dUn, ↓q_oNeg, ↓q_dSeq, ↓q_dRet, ↓q_dRetN, ↓q_dIf, ↓q_dAsg, ↓q_dDrop, ↓q_dBreak, ↓q_dCont, ↓q_dNext, ↓q_dOwn, ↓q_dApp, ↓q_dSetIx, ↓q_dFrz, frz, ↓q_dPar, ↓q_dAug, ↓q_dFor, ↓q_dN, ↓q_dNB, ↓q_dC, ↓q_dOp, ↓q_oI, ↓q_oI0, ↓q_oB, ↓q_oEq, ↓q_oEqS, eqS, ↓q_oIsN, isNo, ↓q_oIx, ↓q_oIx_1, ↓q_oIxS, seqOf, ↓q_oCat, ↓q_oCatT, ↓q_oCatS, ↓q_oIn, ↓q_oInS, ↓q_dTb, ↓q_dAnd, ↓q_dOr, ↓q_dNot, ↓q_dYes, ↓q_dAndV, ↓q_dOrV, ↓q_dNotV, ↓q_dIfV, ↓q_dChain, ↓q_dNil, ↓q_dCons, ↓q_dL, ↓q_dTup, ↓q_dCB, ↓q_oAbs, ↓q_oI2, ↓q_oLen, ↓q_oLenS, ↓q_oInt, ↓q_oInt_1, ↓q_oSum, ↓q_oBs, ↓q_oTupOf, ↓q_dSeqOf, ↓q_dIsi, it_bool_none, it_bool_bool, it_bool_int, it_bool_str, it_bool_list, it_bool_tuple, it_bool_dict, it_int_none, it_int_bool, it_int_int, it_int_str, it_int_list, it_int_tuple, it_int_dict, it_str_none, it_str_bool, it_str_int, it_str_str, it_str_list, it_str_tuple, it_str_dict, it_list_none, it_list_bool, it_list_int, it_list_str, it_list_list, it_list_tuple, it_list_dict, it_tuple_none, it_tuple_bool, it_tuple_int, it_tuple_str, it_tuple_list, it_tuple_tuple, it_tuple_dict, it_dict_none, it_dict_bool, it_dict_int, it_dict_str, it_dict_list, it_dict_tuple, it_dict_dict, ↓q_dNoP, ↓q_dPart, ↓q_dSlT, ↓q_dSlL, ↓q_dSlS, ↓q_dCall, ↓q_dCallS, ↓q_dItL, ↓q_dItT, ↓q_dItS, ↓q_dR1, ↓q_dR2, ↓q_dZip, ↓q_dEnum, ↓q_gN, ↓q_gNi, ↓q_gCo, ↓q_gCo_1, ↓q_gT, ↓q_dLc, ↓q_dDc, ↓q_dK, ↓q_oLenD, ↓q_dCL, ↓q_oRep, ↓q_oRepT, ↓q_dSortSet, ↓q_dSort2, ↓q_sSame, ↓q_oStr, ↓q_oIntS, ↓q_oOrd, ↓q_oMulS, ↓q_dM0, ↓q_dM1, ↓q_sLower, ↓q_sUpper, ↓q_sStarts, ↓q_sEnds, ↓q_dSplit, ↓q_dJoin, ↓q_dFmt, ↓q_dJn, ↓q_dJc, ↓q_dFs, ↓q_dDg, ↓q_dDin, ↓q_dDgx, keyOf, Option.isSome_some, wipeE, eget, eset, List.set, ev0, List.map_cons, List.map_nil, List.cons_append, List.nil_append, List.replicate_succ, List.replicate_zero, noOwn, isOwn, List.all_cons, List.all_nil, List.length_cons, List.length_nil, Bool.true_eq_false, not_false_eq_true, not_true_eq_false]; rw [if_neg w_1, if_neg w_2, if_neg w_3]; exact q
  | ins => simp only [Wd.str, true_and, ↓q_sTake, ↓q_sTake0, ↓q_sPick, ↓q_sNumber, rng_1, rng_2, rng_3, rng_4, rng_6, ↓q_dKd, dix_0, dix_1, dix_2, dix_3, dix_4, dix_5, dix_6, dix_7, dix_8, dix_9, Bool.not_false, Bool.not_true, Bool.and_true, Bool.true_and, Bool.and_false, Bool.false_and, decide_eq_true_eq, Bool.not_eq_true', decide_eq_false_iff_not, Bool.false_eq_true, if_true, if_false, ↓q_F0, ↓q_F1, ↓q_F2, ↓q_F3, ↓q_F4, ↓q_F5, ↓q_F6, ↓q_dParO1, ↓q_dParO2, ↓q_dEnumT, ↓q_oRepr, ↓q_dUn, ↓q_oNeg, ↓q_dSeq, ↓q_dRet, ↓q_dRetN, ↓q_dIf, ↓q_dAsg, ↓q_dDrop, ↓q_dBreak, ↓q_dCont, ↓q_dNext, ↓q_dOwn, ↓q_dApp, ↓q_dSetIx, ↓q_dFrz, frz, ↓q_dPar, ↓q_dAug, ↓q_dFor, ↓q_dN, ↓q_dNB, ↓q_dC, ↓q_dOp, ↓q_oI, ↓q_oI0, ↓q_oB, ↓q_oEq, ↓q_oEqS, eqS, ↓q_oIsN, isNo, ↓q_oIx, ↓q_oIx_1, ↓q_oIxS, seqOf, ↓q_oCat, ↓q_oCatT, ↓q_oCatS, ↓q_oIn, ↓q_oInS, ↓q_dTb, ↓q_dAnd, ↓q_dOr, ↓q_dNot, ↓q_dYes, ↓q_dAndV, ↓q_dOrV, ↓q_dNotV, ↓q_dIfV, ↓q_dChain, ↓q_dNil, ↓q_dCons, ↓q_dL, ↓q_dTup, ↓q_dCB, ↓q_oAbs, ↓q_oI2, ↓q_oLen, ↓q_oLenS, ↓q_oInt, ↓q_oInt_1, ↓q_oSum, ↓q_oBs, ↓q_oTupOf, ↓q_dSeqOf, ↓q_dIsi, it_bool_none, it_bool_bool, it_bool_int, it_bool_str, it_bool_list, it_bool_tuple, it_bool_dict, it_int_none, it_int_bool, it_int_int, it_int_str, it_int_list, it_int_tuple, it_int_dict, it_str_none, it_str_bool, it_str_int, it_str_str, it_str_list, it_str_tuple, it_str_dict, it_list_none, it_list_bool, it_list_int, it_list_str, it_list_list, it_list_tuple, it_list_dict, it_tuple_none, it_tuple_bool, it_tuple_int, it_tuple_str, it_tuple_list, it_tuple_tuple, it_tuple_dict, it_dict_none, it_dict_bool, it_dict_int, it_dict_str, it_dict_list, it_dict_tuple, it_dict_dict, ↓q_dNoP, ↓q_dPart, ↓q_dSlT, ↓q_dSlL, ↓q_dSlS, ↓q_dCall, ↓q_dCallS, ↓q_dItL, ↓q_dItT, ↓q_dItS, ↓q_dR1, ↓q_dR2, ↓q_dZip, ↓q_dEnum, ↓q_gN, ↓q_gNi, ↓q_gCo, ↓q_gCo_1, ↓q_gT, ↓q_dLc, ↓q_dDc, ↓q_dK, ↓q_oLenD, ↓q_dCL, ↓q_oRep, ↓q_oRepT, ↓q_dSortSet, ↓q_dSort2, ↓q_sSame, ↓q_oStr, ↓q_oIntS, ↓q_oOrd, ↓q_oMulS, ↓q_dM0, ↓q_dM1, ↓q_sLower, ↓q_sUpper, ↓q_sStarts, ↓q_sEnds, ↓q_dSplit, ↓q_dJoin, ↓q_dFmt, ↓q_dJn, ↓q_dJc, ↓q_dFs, ↓q_dDg, ↓q_dDin, ↓q_dDgx, keyOf, Option.isSome_some, wipeE, eget, eset, List.set, ev0, List.map_cons, List.map_nil, List.cons_append, List.nil_append, List.replicate_succ, List.replicate_zero, noOwn, isOwn, List.all_cons, List.all_nil, List.length_cons, List.length_nil, Bool.true_eq_false, not_false_eq_true, not_true_eq_false]; rw [if_neg w_4]; exact q
  | srv => simp only [Wd.str, true_and, ↓q_sTake, ↓q_sTake0, ↓q_sPick, ↓q_sNumber, rng_1, rng_2, rng_3, rng_4, rng_6, ↓q_dKd, dix_0, dix_1, dix_2, dix_3, dix_4, dix_5, dix_6, dix_7, dix_8, dix_9, Bool.not_false, Bool.not_true, Bool.and_true, Bool.true_and, Bool.and_false, Bool.false_and, decide_eq_true_eq, Bool.not_eq_true', decide_eq_false_iff_not, Bool.false_eq_true, if_true, if_false, ↓q_F0, ↓q_F1, ↓q_F2, ↓q_F3, ↓q_F4, ↓q_F5, ↓q_F6, ↓q_dParO1, ↓q_dParO2, ↓q_dEnumT, ↓q_oRepr, ↓q_dUn, ↓q_oNeg, ↓q_dSeq, ↓q_dRet, ↓q_dRetN, ↓q_dIf, ↓q_dAsg, ↓q_dDrop, ↓q_dBreak, ↓q_dCont, ↓q_dNext, ↓q_dOwn, ↓q_dApp, ↓q_dSetIx, ↓q_dFrz, frz, ↓q_dPar, ↓q_dAug, ↓q_dFor, ↓q_dN, ↓q_dNB, ↓q_dC, ↓q_dOp, ↓q_oI, ↓q_oI0, ↓q_oB, ↓q_oEq, ↓q_oEqS, eqS, ↓q_oIsN, isNo, ↓q_oIx, ↓q_oIx_1, ↓q_oIxS, seqOf, ↓q_oCat, ↓q_oCatT, ↓q_oCatS, ↓q_oIn, ↓q_oInS, ↓q_dTb, ↓q_dAnd, ↓q_dOr, ↓q_dNot, ↓q_dYes, ↓q_dAndV, ↓q_dOrV, ↓q_dNotV, ↓q_dIfV, ↓q_dChain, ↓q_dNil, ↓q_dCons, ↓q_dL, ↓q_dTup, ↓q_dCB, ↓q_oAbs, ↓q_oI2, ↓q_oLen, ↓q_oLenS, ↓q_oInt, ↓q_oInt_1, ↓q_oSum, ↓q_oBs, ↓q_oTupOf, ↓q_dSeqOf, ↓q_dIsi, it_bool_none, it_bool_bool, it_bool_int, it_bool_str, it_bool_list, it_bool_tuple, it_bool_dict, it_int_none, it_int_bool, it_int_int, it_int_str, it_int_list, it_int_tuple, it_int_dict, it_str_none, it_str_bool, it_str_int, it_str_str, it_str_list, it_str_tuple, it_str_dict, it_list_none, it_list_bool, it_list_int, it_list_str, it_list_list, it_list_tuple, it_list_dict, it_tuple_none, it_tuple_bool, it_tuple_int, it_tuple_str, it_tuple_list, it_tuple_tuple, it_tuple_dict, it_dict_none, it_dict_bool, it_dict_int, it_dict_str, it_dict_list, it_dict_tuple, it_dict_dict, ↓q_dNoP, ↓q_dPart, ↓q_dSlT, ↓q_dSlL, ↓q_dSlS, ↓q_dCall, ↓q_dCallS, ↓q_dItL, ↓q_dItT, ↓q_dItS, ↓q_dR1, ↓q_dR2, ↓q_dZip, ↓q_dEnum, ↓q_gN, ↓q_gNi, ↓q_gCo, ↓q_gCo_1, ↓q_gT, ↓q_dLc, ↓q_dDc, ↓q_dK, ↓q_oLenD, ↓q_dCL, ↓q_oRep, ↓q_oRepT, ↓q_dSortSet, ↓q_dSort2, ↓q_sSame, ↓q_oStr, ↓q_oIntS, ↓q_oOrd, ↓q_oMulS, ↓q_dM0, ↓q_dM1, ↓q_sLower, ↓q_sUpper, ↓q_sStarts, ↓q_sEnds, ↓q_dSplit, ↓q_dJoin, ↓q_dFmt, ↓q_dJn, ↓q_dJc, ↓q_dFs, ↓q_dDg, ↓q_dDin, ↓q_dDgx, keyOf, Option.isSome_some, wipeE, eget, eset, List.set, ev0, List.map_cons, List.map_nil, List.cons_append, List.nil_append, List.replicate_succ, List.replicate_zero, noOwn, isOwn, List.all_cons, List.all_nil, List.length_cons, List.length_nil, Bool.true_eq_false, not_false_eq_true, not_true_eq_false]; rw [if_neg w_5, if_neg w_6]; exact q
  | knd => simp only [Wd.str, true_and, ↓q_sTake, ↓q_sTake0, ↓q_sPick, ↓q_sNumber, rng_1, rng_2, rng_3, rng_4, rng_6, ↓q_dKd, dix_0, dix_1, dix_2, dix_3, dix_4, dix_5, dix_6, dix_7, dix_8, dix_9, Bool.not_false, Bool.not_true, Bool.and_true, Bool.true_and, Bool.and_false, Bool.false_and, decide_eq_true_eq, Bool.not_eq_true', decide_eq_false_iff_not, Bool.false_eq_true, if_true, if_false, ↓q_F0, ↓q_F1, ↓q_F2, ↓q_F3, ↓q_F4, ↓q_F5, ↓q_F6, ↓q_dParO1, ↓q_dParO2, ↓q_dEnumT, ↓q_oRepr, ↓q_dUn, ↓q_oNeg, ↓q_dSeq, ↓q_dRet, ↓q_dRetN, ↓q_dIf, ↓q_dAsg, ↓q_dDrop, ↓q_dBreak, ↓q_dCont, ↓q_dNext, ↓q_dOwn, ↓q_dApp, ↓q_dSetIx, ↓q_dFrz, frz, ↓q_dPar, ↓q_dAug, ↓q_dFor, ↓q_dN, ↓q_dNB, ↓q_dC, ↓q_dOp, ↓q_oI, ↓q_oI0, ↓q_oB, ↓q_oEq, ↓q_oEqS, eqS, ↓q_oIsN, isNo, ↓q_oIx, ↓q_oIx_1, ↓q_oIxS, seqOf, ↓q_oCat, ↓q_oCatT, ↓q_oCatS, ↓q_oIn, ↓q_oInS, ↓q_dTb, ↓q_dAnd, ↓q_dOr, ↓q_dNot, ↓q_dYes, ↓q_dAndV, ↓q_dOrV, ↓q_dNotV, ↓q_dIfV, ↓q_dChain, ↓q_dNil, ↓q_dCons, ↓q_dL, ↓q_dTup, ↓q_dCB, ↓q_oAbs, ↓q_oI2, ↓q_oLen, ↓q_oLenS, ↓q_oInt, ↓q_oInt_1, ↓q_oSum, ↓q_oBs, ↓q_oTupOf, ↓q_dSeqOf, ↓q_dIsi, it_bool_none, it_bool_bool, it_bool_int, it_bool_str, it_bool_list, it_bool_tuple, it_bool_dict, it_int_none, it_int_bool, it_int_int, it_int_str, it_int_list, it_int_tuple, it_int_dict, it_str_none, it_str_bool, it_str_int, it_str_str, it_str_list, it_str_tuple, it_str_dict, it_list_none, it_list_bool, it_list_int, it_list_str, it_list_list, it_list_tuple, it_list_dict, it_tuple_none, it_tuple_bool, it_tuple_int, it_tuple_str, it_tuple_list, it_tuple_tuple, it_tuple_dict, it_dict_none, it_dict_bool, it_dict_int, it_dict_str, it_dict_list, it_dict_tuple, it_dict_dict, ↓q_dNoP, ↓q_dPart, ↓q_dSlT, ↓q_dSlL, ↓q_dSlS, ↓q_dCall, ↓q_dCallS, ↓q_dItL, ↓q_dItT, ↓q_dItS, ↓q_dR1, ↓q_dR2, ↓q_dZip, ↓q_dEnum, ↓q_gN, ↓q_gNi, ↓q_gCo, ↓q_gCo_1, ↓q_gT, ↓q_dLc, ↓q_dDc, ↓q_dK, ↓q_oLenD, ↓q_dCL, ↓q_oRep, ↓q_oRepT, ↓q_dSortSet, ↓q_dSort2, ↓q_sSame, ↓q_oStr, ↓q_oIntS, ↓q_oOrd, ↓q_oMulS, ↓q_dM0, ↓q_dM1, ↓q_sLower, ↓q_sUpper, ↓q_sStarts, ↓q_sEnds, ↓q_dSplit, ↓q_dJoin, ↓q_dFmt, ↓q_dJn, ↓q_dJc, ↓q_dFs, ↓q_dDg, ↓q_dDin, ↓q_dDgx, keyOf, Option.isSome_some, wipeE, eget, eset, List.set, ev0, List.map_cons, List.map_nil, List.cons_append, List.nil_append, List.replicate_succ, List.replicate_zero, noOwn, isOwn, List.all_cons, List.all_nil, List.length_cons, List.length_nil, Bool.true_eq_false, not_false_eq_true, not_true_eq_false]; exact q
theorem ok_key_of (T : Tx K mg w) : FnOk P w K mg base CX0 2 T.ad_key_of T.fd_key_of ["row", "asker"] (spD K (F2 fun a b Q => ∃ (x0 x1 x2 : D) (ws : List Wd) (k : D) (o : Option Int) (i s : D), a = .tuple [x0, x1, x2, .tuple (ws.map fun w => .str (Wd.str w))] ∧ b = .tuple [k, eO o, i, s] ∧ ws.length ≤ 1000 ∧ (∀ w ∈ ws, w.ok) ∧ Q (.tuple (ws.map (told k o i s))))) := by
  refine T.d_key_of.F.ok x_key_of (fun vs H Q E h => spD_len F2_len h) (fun cdv A outer s H vs Q E hr h => ?_)
  have nd := x_key_of.nd
  refine ⟨_, (pss_one (ps_ret (pe_callTy call_tuple_of (by rfl) T.b_tuple (by decide +kernel) (pa_cons (pe_lc (own := [("word", 2)]) (g := (gName 2)) rfl nd (pi_tup (pe_ix ix_seq (pv 0) pe_int (fun _ _ => rfl))) (blkOk_by (own := [("word", 2)]) (N := Ns_key_of) (sc := defScope s_key_of) (by decide +kernel)) (fun _ _ _ _ _ => (pg_name (i := 2) nd rfl (Or.inl rfl))) (fun _ _ _ _ _ => pts_nil) (fun _ _ _ _ _ => (pe_call (ok_told_by T) hr (by rfl) T.d_told_by.g T.d_told_by.F.kp T.d_told_by.b .nil pass0 (pa_cons (pv 2) (pa_cons (pv 1) pa_nil))))) pa_nil)))), fn_pure ((rs_ret (re_cb ro_tupOf (rbC (RfE.b (RfF.e (rf_lc (ri_tup (ro rv_ix (RfE.b (rn 0)) (RfE.b (rc_int _)))) (rg_name 2) rt_yes (re_call (raC (rn 2) (raC (rn 1) raN)))))) rbN)))) h (by rw [spD_len F2_len h]; decide) (F2_in fun a0 a1 Qd q => ?_)⟩
  obtain ⟨x0, x1, x2, ws, k, o, i, s, rfl, rfl, hl, ok, q⟩ := q
  simp only [true_and, ↓q_sTake, ↓q_sTake0, ↓q_sPick, ↓q_sNumber, rng_1, rng_2, rng_3, rng_4, rng_6, ↓q_dKd, dix_0, dix_1, dix_2, dix_3, dix_4, dix_5, dix_6, dix_7, dix_8, dix_9, Bool.not_false, Bool.not_true, Bool.and_true, Bool.true_and, Bool.and_false, Bool.false_and, decide_eq_true_eq, Bool.not_eq_true', decide_eq_false_iff_not, Bool.false_eq_true, if_true, if_false, ↓q_F0, ↓q_F1, ↓q_F2, ↓q_F3, ↓q_F4, ↓q_F5, ↓q_F6, ↓q_dParO1, ↓q_dParO2, ↓q_dEnumT, ↓q_oRepr, ↓q_dUn, ↓q_oNeg, ↓q_dSeq, ↓q_dRet, ↓q_dRetN, ↓q_dIf, ↓q_dAsg, ↓q_dDrop, ↓q_dBreak, ↓q_dCont, ↓q_dNext, ↓q_dOwn, ↓q_dApp, ↓q_dSetIx, ↓q_dFrz, frz, ↓q_dPar, ↓q_dAug, ↓q_dFor, ↓q_dN, ↓q_dNB, ↓q_dC, ↓q_dOp, ↓q_oI, ↓q_oI0, ↓q_oB, ↓q_oEq, ↓q_oEqS, eqS, ↓q_oIsN, isNo, ↓q_oIx, ↓q_oIx_1, ↓q_oIxS, seqOf, ↓q_oCat, ↓q_oCatT, ↓q_oCatS, ↓q_oIn, ↓q_oInS, ↓q_dTb, ↓q_dAnd, ↓q_dOr, ↓q_dNot, ↓q_dYes, ↓q_dAndV, ↓q_dOrV, ↓q_dNotV, ↓q_dIfV, ↓q_dChain, ↓q_dNil, ↓q_dCons, ↓q_dL, ↓q_dTup, ↓q_dCB, ↓q_oAbs, ↓q_oI2, ↓q_oLen, ↓q_oLenS, ↓q_oInt, ↓q_oInt_1, ↓q_oSum, ↓q_oBs, ↓q_oTupOf, ↓q_dSeqOf, ↓q_dIsi, it_bool_none, it_bool_bool, it_bool_int, it_bool_str, it_bool_list, it_bool_tuple, it_bool_dict, it_int_none, it_int_bool, it_int_int, it_int_str, it_int_list, it_int_tuple, it_int_dict, it_str_none, it_str_bool, it_str_int, it_str_str, it_str_list, it_str_tuple, it_str_dict, it_list_none, it_list_bool, it_list_int, it_list_str, it_list_list, it_list_tuple, it_list_dict, it_tuple_none, it_tuple_bool, it_tuple_int, it_tuple_str, it_tuple_list, it_tuple_tuple, it_tuple_dict, it_dict_none, it_dict_bool, it_dict_int, it_dict_str, it_dict_list, it_dict_tuple, it_dict_dict, ↓q_dNoP, ↓q_dPart, ↓q_dSlT, ↓q_dSlL, ↓q_dSlS, ↓q_dCall, ↓q_dCallS, ↓q_dItL, ↓q_dItT, ↓q_dItS, ↓q_dR1, ↓q_dR2, ↓q_dZip, ↓q_dEnum, ↓q_gN, ↓q_gNi, ↓q_gCo, ↓q_gCo_1, ↓q_gT, ↓q_dLc, ↓q_dDc, ↓q_dK, ↓q_oLenD, ↓q_dCL, ↓q_oRep, ↓q_oRepT, ↓q_dSortSet, ↓q_dSort2, ↓q_sSame, ↓q_oStr, ↓q_oIntS, ↓q_oOrd, ↓q_oMulS, ↓q_dM0, ↓q_dM1, ↓q_sLower, ↓q_sUpper, ↓q_sStarts, ↓q_sEnds, ↓q_dSplit, ↓q_dJoin, ↓q_dFmt, ↓q_dJn, ↓q_dJc, ↓q_dFs, ↓q_dDg, ↓q_dDin, ↓q_dDgx, keyOf, Option.isSome_some, wipeE, eget, eset, List.set, ev0, List.map_cons, List.map_nil, List.cons_append, List.nil_append, List.replicate_succ, List.replicate_zero, noOwn, isOwn, List.all_cons, List.all_nil, List.length_cons, List.length_nil, Bool.true_eq_false, not_false_eq_true, not_true_eq_false]
  refine ⟨by rw [List.length_map]; omega, ?_⟩
  refine lc_fun (fun w => PyData.str (Wd.str w)) (fun w => some (told k o i s w)) (as := ws) (fun w hw R hR => ?_) ?_
  · simp only [true_and, ↓q_sTake, ↓q_sTake0, ↓q_sPick, ↓q_sNumber, rng_1, rng_2, rng_3, rng_4, rng_6, ↓q_dKd, dix_0, dix_1, dix_2, dix_3, dix_4, dix_5, dix_6, dix_7, dix_8, dix_9, Bool.not_false, Bool.not_true, Bool.and_true, Bool.true_and, Bool.and_false, Bool.false_and, decide_eq_true_eq, Bool.not_eq_true', decide_eq_false_iff_not, Bool.false_eq_true, if_true, if_false, ↓q_F0, ↓q_F1, ↓q_F2, ↓q_F3, ↓q_F4, ↓q_F5, ↓q_F6, ↓q_dParO1, ↓q_dParO2, ↓q_dEnumT, ↓q_oRepr, ↓q_dUn, ↓q_oNeg, ↓q_dSeq, ↓q_dRet, ↓q_dRetN, ↓q_dIf, ↓q_dAsg, ↓q_dDrop, ↓q_dBreak, ↓q_dCont, ↓q_dNext, ↓q_dOwn, ↓q_dApp, ↓q_dSetIx, ↓q_dFrz, frz, ↓q_dPar, ↓q_dAug, ↓q_dFor, ↓q_dN, ↓q_dNB, ↓q_dC, ↓q_dOp, ↓q_oI, ↓q_oI0, ↓q_oB, ↓q_oEq, ↓q_oEqS, eqS, ↓q_oIsN, isNo, ↓q_oIx, ↓q_oIx_1, ↓q_oIxS, seqOf, ↓q_oCat, ↓q_oCatT, ↓q_oCatS, ↓q_oIn, ↓q_oInS, ↓q_dTb, ↓q_dAnd, ↓q_dOr, ↓q_dNot, ↓q_dYes, ↓q_dAndV, ↓q_dOrV, ↓q_dNotV, ↓q_dIfV, ↓q_dChain, ↓q_dNil, ↓q_dCons, ↓q_dL, ↓q_dTup, ↓q_dCB, ↓q_oAbs, ↓q_oI2, ↓q_oLen, ↓q_oLenS, ↓q_oInt, ↓q_oInt_1, ↓q_oSum, ↓q_oBs, ↓q_oTupOf, ↓q_dSeqOf, ↓q_dIsi, it_bool_none, it_bool_bool, it_bool_int, it_bool_str, it_bool_list, it_bool_tuple, it_bool_dict, it_int_none, it_int_bool, it_int_int, it_int_str, it_int_list, it_int_tuple, it_int_dict, it_str_none, it_str_bool, it_str_int, it_str_str, it_str_list, it_str_tuple, it_str_dict, it_list_none, it_list_bool, it_list_int, it_list_str, it_list_list, it_list_tuple, it_list_dict, it_tuple_none, it_tuple_bool, it_tuple_int, it_tuple_str, it_tuple_list, it_tuple_tuple, it_tuple_dict, it_dict_none, it_dict_bool, it_dict_int, it_dict_str, it_dict_list, it_dict_tuple, it_dict_dict, ↓q_dNoP, ↓q_dPart, ↓q_dSlT, ↓q_dSlL, ↓q_dSlS, ↓q_dCall, ↓q_dCallS, ↓q_dItL, ↓q_dItT, ↓q_dItS, ↓q_dR1, ↓q_dR2, ↓q_dZip, ↓q_dEnum, ↓q_gN, ↓q_gNi, ↓q_gCo, ↓q_gCo_1, ↓q_gT, ↓q_dLc, ↓q_dDc, ↓q_dK, ↓q_oLenD, ↓q_dCL, ↓q_oRep, ↓q_oRepT, ↓q_dSortSet, ↓q_dSort2, ↓q_sSame, ↓q_oStr, ↓q_oIntS, ↓q_oOrd, ↓q_oMulS, ↓q_dM0, ↓q_dM1, ↓q_sLower, ↓q_sUpper, ↓q_sStarts, ↓q_sEnds, ↓q_dSplit, ↓q_dJoin, ↓q_dFmt, ↓q_dJn, ↓q_dJc, ↓q_dFs, ↓q_dDg, ↓q_dDin, ↓q_dDgx, keyOf, Option.isSome_some, wipeE, eget, eset, List.set, ev0, List.map_cons, List.map_nil, List.cons_append, List.nil_append, List.replicate_succ, List.replicate_zero, noOwn, isOwn, List.all_cons, List.all_nil, List.length_cons, List.length_nil, Bool.true_eq_false, not_false_eq_true, not_true_eq_false]
    exact ⟨w, k, o, i, s, rfl, rfl, ok w hw, hR⟩
  rw [fm_some]
  exact q
theorem ok_law_high (T : Tx K mg w) : FnOk P w K mg base CX0 1 T.ad_law_high T.fd_law_high ["address", "bits"] (spD K (F2 fun a b Q => ∃ (x : Int) (n : Nat), a = .int x ∧ b = .int n ∧ 0 ≤ x ∧ x < 2 ^ 32 ∧ n < 32 ∧ Q (.int (x / 2 ^ (32 - n))))) := by
  refine T.d_law_high.F.ok x_law_high (fun vs H Q E h => spD_len F2_len h) (fun cdv A outer s H vs Q E hr h => ?_)
  have nd := x_law_high.nd
  refine ⟨_, (pss_cons (ps_set (i := 2) nd rfl (Or.inl rfl) pe_int)
        (pss_cons (ps_for PassesOwn.never rfl (pi_range1 (by rfl) T.b_range (pa_cons (pv 1) pa_nil)) (pg_name (i := 3) nd rfl (Or.inl rfl)) (pss_one (ps_set (i := 2) nd rfl (Or.inl rfl) (pe_op op_add (pe_op op_mul pe_int (pv 2)) (pe_op op_mod (pe_callTy call_int1 (by rfl) T.b_int (by decide +kernel) (pa_cons (pe_op op_fdivW (pv 0) (pe_op op_shl pe_int (pe_op op_sub pe_int (pv 3)))) pa_nil)) pe_int)))))
        (pss_one (ps_ret (pv 2))))), fn_pure ((rs_seq (rs_asg (rc_int _) (rg_name 2))
        (rs_seq (rs_for (ri_r1 (rbC (RfE.b (rn 1)) rbN)) (rg_name 3) (rs_asg (ro rv_add (RfE.b (ro rv_mul (RfE.b (rc_int _)) (RfE.b (rn 2)))) (RfE.b (ro rv_mod (RfE.b (re_cb ro_int (rbC (RfE.b (ro rv_fdivW (RfE.b (rn 0)) (RfE.b (ro rv_shl (RfE.b (rc_int _)) (RfE.b (ro rv_sub (RfE.b (rc_int _)) (RfE.b (rn 3)))))))) rbN))) (RfE.b (rc_int _))))) (rg_name 2)))
        (rs_ret (rn 2))))) h (by rw [spD_len F2_len h]; decide) (F2_in fun a0 a1 Qd q => ?_)⟩
  obtain ⟨x, n, rfl, rfl, h0, h1, hn, q⟩ := q
  simp only [true_and, ↓q_sTake, ↓q_sTake0, ↓q_sPick, ↓q_sNumber, rng_1, rng_2, rng_3, rng_4, rng_6, ↓q_dKd, dix_0, dix_1, dix_2, dix_3, dix_4, dix_5, dix_6, dix_7, dix_8, dix_9, Bool.not_false, Bool.not_true, Bool.and_true, Bool.true_and, Bool.and_false, Bool.false_and, decide_eq_true_eq, Bool.not_eq_true', decide_eq_false_iff_not, Bool.false_eq_true, if_true, if_false, ↓q_F0, ↓q_F1, ↓q_F2, ↓q_F3, ↓q_F4, ↓q_F5, ↓q_F6, ↓q_dParO1, ↓q_dParO2, ↓q_dEnumT, ↓q_oRepr, ↓q_dUn, ↓q_oNeg, ↓q_dSeq, ↓q_dRet, ↓q_dRetN, ↓q_dIf, ↓q_dAsg, ↓q_dDrop, ↓q_dBreak, ↓q_dCont, ↓q_dNext, ↓q_dOwn, ↓q_dApp, ↓q_dSetIx, ↓q_dFrz, frz, ↓q_dPar, ↓q_dAug, ↓q_dFor, ↓q_dN, ↓q_dNB, ↓q_dC, ↓q_dOp, ↓q_oI, ↓q_oI0, ↓q_oB, ↓q_oEq, ↓q_oEqS, eqS, ↓q_oIsN, isNo, ↓q_oIx, ↓q_oIx_1, ↓q_oIxS, seqOf, ↓q_oCat, ↓q_oCatT, ↓q_oCatS, ↓q_oIn, ↓q_oInS, ↓q_dTb, ↓q_dAnd, ↓q_dOr, ↓q_dNot, ↓q_dYes, ↓q_dAndV, ↓q_dOrV, ↓q_dNotV, ↓q_dIfV, ↓q_dChain, ↓q_dNil, ↓q_dCons, ↓q_dL, ↓q_dTup, ↓q_dCB, ↓q_oAbs, ↓q_oI2, ↓q_oLen, ↓q_oLenS, ↓q_oInt, ↓q_oInt_1, ↓q_oSum, ↓q_oBs, ↓q_oTupOf, ↓q_dSeqOf, ↓q_dIsi, it_bool_none, it_bool_bool, it_bool_int, it_bool_str, it_bool_list, it_bool_tuple, it_bool_dict, it_int_none, it_int_bool, it_int_int, it_int_str, it_int_list, it_int_tuple, it_int_dict, it_str_none, it_str_bool, it_str_int, it_str_str, it_str_list, it_str_tuple, it_str_dict, it_list_none, it_list_bool, it_list_int, it_list_str, it_list_list, it_list_tuple, it_list_dict, it_tuple_none, it_tuple_bool, it_tuple_int, it_tuple_str, it_tuple_list, it_tuple_tuple, it_tuple_dict, it_dict_none, it_dict_bool, it_dict_int, it_dict_str, it_dict_list, it_dict_tuple, it_dict_dict, ↓q_dNoP, ↓q_dPart, ↓q_dSlT, ↓q_dSlL, ↓q_dSlS, ↓q_dCall, ↓q_dCallS, ↓q_dItL, ↓q_dItT, ↓q_dItS, ↓q_dR1, ↓q_dR2, ↓q_dZip, ↓q_dEnum, ↓q_gN, ↓q_gNi, ↓q_gCo, ↓q_gCo_1, ↓q_gT, ↓q_dLc, ↓q_dDc, ↓q_dK, ↓q_oLenD, ↓q_dCL, ↓q_oRep, ↓q_oRepT, ↓q_dSortSet, ↓q_dSort2, ↓q_sSame, ↓q_oStr, ↓q_oIntS, ↓q_oOrd, ↓q_oMulS, ↓q_dM0, ↓q_dM1, ↓q_sLower, ↓q_sUpper, ↓q_sStarts, ↓q_sEnds, ↓q_dSplit, ↓q_dJoin, ↓q_dFmt, ↓q_dJn, ↓q_dJc, ↓q_dFs, ↓q_dDg, ↓q_dDin, ↓q_dDgx, keyOf, Option.isSome_some, wipeE, eget, eset, List.set, ev0, List.map_cons, List.map_nil, List.cons_append, List.nil_append, List.replicate_succ, List.replicate_zero, noOwn, isOwn, List.all_cons, List.all_nil, List.length_cons, List.length_nil, Bool.true_eq_false, not_false_eq_true, not_true_eq_false]
  refine ⟨by omega, by omega, ?_⟩
  rw [Int.toNat_natCast, show rng 0 n = ixn n 0 from rng_eq _]
  refine loop_by (fun rest env => ∃ (j : Nat) (s3 : Option En), j ≤ n ∧ rest = ixn n j ∧ env = [some (En.d (.int x)), some (En.d (.int (n : Nat))), some (En.d (.int (x / 2 ^ (32 - j)))), s3]) ?_ ?_ _ _ ⟨0, none, Nat.zero_le _, rfl, by rw [Int.ediv_eq_zero_of_lt h0 h1]⟩
  · rintro env ⟨j, s3, hj, h2, rfl⟩
    obtain rfl := ixn_nil hj h2
    exact q
  · rintro d rest env N ⟨j, s3, hj, h2, rfl⟩ hN
    obtain ⟨h6, rfl, rfl⟩ := ixn_cons h2
    simp only [true_and, ↓q_sTake, ↓q_sTake0, ↓q_sPick, ↓q_sNumber, rng_1, rng_2, rng_3, rng_4, rng_6, ↓q_dKd, dix_0, dix_1, dix_2, dix_3, dix_4, dix_5, dix_6, dix_7, dix_8, dix_9, Bool.not_false, Bool.not_true, Bool.and_true, Bool.true_and, Bool.and_false, Bool.false_and, decide_eq_true_eq, Bool.not_eq_true', decide_eq_false_iff_not, Bool.false_eq_true, if_true, if_false, ↓q_F0, ↓q_F1, ↓q_F2, ↓q_F3, ↓q_F4, ↓q_F5, ↓q_F6, ↓q_dParO1, ↓q_dParO2, ↓q_dEnumT, ↓q_oRepr, ↓q_dUn, ↓q_oNeg, ↓q_dSeq, ↓q_dRet, ↓q_dRetN, ↓q_dIf, ↓q_dAsg, ↓q_dDrop, ↓q_dBreak, ↓q_dCont, ↓q_dNext, ↓q_dOwn, ↓q_dApp, ↓q_dSetIx, ↓q_dFrz, frz, ↓q_dPar, ↓q_dAug, ↓q_dFor, ↓q_dN, ↓q_dNB, ↓q_dC, ↓q_dOp, ↓q_oI, ↓q_oI0, ↓q_oB, ↓q_oEq, ↓q_oEqS, eqS, ↓q_oIsN, isNo, ↓q_oIx, ↓q_oIx_1, ↓q_oIxS, seqOf, ↓q_oCat, ↓q_oCatT, ↓q_oCatS, ↓q_oIn, ↓q_oInS, ↓q_dTb, ↓q_dAnd, ↓q_dOr, ↓q_dNot, ↓q_dYes, ↓q_dAndV, ↓q_dOrV, ↓q_dNotV, ↓q_dIfV, ↓q_dChain, ↓q_dNil, ↓q_dCons, ↓q_dL, ↓q_dTup, ↓q_dCB, ↓q_oAbs, ↓q_oI2, ↓q_oLen, ↓q_oLenS, ↓q_oInt, ↓q_oInt_1, ↓q_oSum, ↓q_oBs, ↓q_oTupOf, ↓q_dSeqOf, ↓q_dIsi, it_bool_none, it_bool_bool, it_bool_int, it_bool_str, it_bool_list, it_bool_tuple, it_bool_dict, it_int_none, it_int_bool, it_int_int, it_int_str, it_int_list, it_int_tuple, it_int_dict, it_str_none, it_str_bool, it_str_int, it_str_str, it_str_list, it_str_tuple, it_str_dict, it_list_none, it_list_bool, it_list_int, it_list_str, it_list_list, it_list_tuple, it_list_dict, it_tuple_none, it_tuple_bool, it_tuple_int, it_tuple_str, it_tuple_list, it_tuple_tuple, it_tuple_dict, it_dict_none, it_dict_bool, it_dict_int, it_dict_str, it_dict_list, it_dict_tuple, it_dict_dict, ↓q_dNoP, ↓q_dPart, ↓q_dSlT, ↓q_dSlL, ↓q_dSlS, ↓q_dCall, ↓q_dCallS, ↓q_dItL, ↓q_dItT, ↓q_dItS, ↓q_dR1, ↓q_dR2, ↓q_dZip, ↓q_dEnum, ↓q_gN, ↓q_gNi, ↓q_gCo, ↓q_gCo_1, ↓q_gT, ↓q_dLc, ↓q_dDc, ↓q_dK, ↓q_oLenD, ↓q_dCL, ↓q_oRep, ↓q_oRepT, ↓q_dSortSet, ↓q_dSort2, ↓q_sSame, ↓q_oStr, ↓q_oIntS, ↓q_oOrd, ↓q_oMulS, ↓q_dM0, ↓q_dM1, ↓q_sLower, ↓q_sUpper, ↓q_sStarts, ↓q_sEnds, ↓q_dSplit, ↓q_dJoin, ↓q_dFmt, ↓q_dJn, ↓q_dJc, ↓q_dFs, ↓q_dDg, ↓q_dDin, ↓q_dDgx, keyOf, Option.isSome_some, wipeE, eget, eset, List.set, ev0, List.map_cons, List.map_nil, List.cons_append, List.nil_append, List.replicate_succ, List.replicate_zero, noOwn, isOwn, List.all_cons, List.all_nil, List.length_cons, List.length_nil, Bool.true_eq_false, not_false_eq_true, not_true_eq_false]
    have e : 2 * (x / 2 ^ (32 - j)) + x / 2 ^ (31 - j) % 2 = x / 2 ^ (32 - (j + 1)) := by
      rw [show 32 - j = (31 - j) + 1 by omega, Int.pow_succ, ← Int.ediv_ediv_of_nonneg (by exact Int.le_of_lt (Int.pow_pos (by decide))), show 32 - (j + 1) = 31 - j by omega]
      omega
    rw [show (31 - (j : Int)).toNat = 31 - j by omega, Int.one_mul]
    refine ⟨.inl ⟨by decide, by decide⟩, ⟨by omega, by omega, by decide⟩, wide_div (b := 40) (Int.pow_pos (by decide)) ?_ (by decide) (by decide), by decide, ?_⟩
    · rw [Int.natAbs_pow]
      exact Nat.pow_lt_pow_right (by decide) (by omega)
    · rw [e]
      exact hN _ ⟨j + 1, _, by omega, rfl, rfl⟩
theorem ok_law_key (T : Tx K mg w) : FnOk P w K mg base CX0 2 T.ad_law_key T.fd_law_key ["row", "asker"] (spD K (F2 fun a b Q => ∃ (x0 x1 x2 : D) (ws : List Wd) (k : D) (o : Option Int) (i s : D), a = .tuple [x0, x1, x2, .tuple (ws.map fun w => .str (Wd.str w))] ∧ b = .tuple [k, eO o, i, s] ∧ ws.length ≤ 1000 ∧ (∀ w ∈ ws, w.ok) ∧ (∀ x, o = some x → 0 ≤ x ∧ x < 2 ^ 32) ∧ Q (.tuple (ws.map (told k o i s))))) := by
  refine T.d_law_key.F.ok x_law_key (fun vs H Q E h => spD_len F2_len h) (fun cdv A outer s H vs Q E hr h => ?_)
  have nd := x_law_key.nd
  refine ⟨_, (pss_cons (ps_asg (pv 1) (pg_tup (n := 4) rfl (pgs_cons (pg_name (i := 2) nd rfl (Or.inl rfl)) (pgs_cons (pg_name (i := 3) nd rfl (Or.inl rfl)) (pgs_cons (pg_name (i := 4) nd rfl (Or.inl rfl)) (pgs_cons (pg_name (i := 5) nd rfl (Or.inl rfl)) pgs_nil))))))
        (pss_cons (ps_set (i := 6) nd rfl (Or.inl rfl) (pe_lst pa_nil))
        (pss_cons (ps_for PassesOwn.never rfl (pi_tup (pe_ix ix_seq (pv 0) pe_int (fun _ _ => rfl))) (pg_name (i := 7) nd rfl (Or.inl rfl)) (pss_one (ps_if (pt_cmpR op_eq (pv 7) pe_str (nomark _)) (pss_one (ps_expr (pe_bm PySem.F.plainAttrs_list PySem.F.slot_list_append PySem.F.type_list_append mt_append (pv 6) (pa_cons (pv 3) pa_nil)))) (pss_one (ps_if (pt_cmpR op_eq (pv 7) pe_str (nomark _)) (pss_one (ps_expr (pe_bm PySem.F.plainAttrs_list PySem.F.slot_list_append PySem.F.type_list_append mt_append (pv 6) (pa_cons (pv 4) pa_nil)))) (pss_one (ps_if (pt_cmpR op_eq (pv 7) pe_str (nomark _)) (pss_one (ps_expr (pe_bm PySem.F.plainAttrs_list PySem.F.slot_list_append PySem.F.type_list_append mt_append (pv 6) (pa_cons (pv 5) pa_nil)))) (pss_one (ps_if (pt_cmpR op_eq (pv 7) pe_str (nomark _)) (pss_one (ps_expr (pe_bm PySem.F.plainAttrs_list PySem.F.slot_list_append PySem.F.type_list_append mt_append (pv 6) (pa_cons (pv 2) pa_nil)))) (pss_one (ps_expr (pe_bm PySem.F.plainAttrs_list PySem.F.slot_list_append PySem.F.type_list_append mt_append (pv 6) (pa_cons (pe_ifExp (pt_cmpR op_isN (pv 3) pe_non (nomark _)) pe_non (pe_call (ok_law_high T) hr (by rfl) T.d_law_high.g T.d_law_high.F.kp T.d_law_high.b .nil pass0 (pa_cons (pv 3) (pa_cons (pe_callTy call_int_str (by rfl) T.b_int (by decide +kernel) (pa_cons (pe_slice sl_str (pv 7) (po_some pe_int) po_none) pa_nil)) pa_nil)))) pa_nil)))))))))))))
        (pss_one (ps_ret (pe_callTy call_tuple_of (by rfl) T.b_tuple (by decide +kernel) (pa_cons (pv 6) pa_nil))))))), fn_pure ((rs_seq (rs_asg (rn 1) (rg_tup (rg_cons (rg_name 2) (rg_cons (rg_name 3) (rg_cons (rg_name 4) (rg_cons (rg_name 5) rg_nil))))))
        (rs_seq (rs_own 6 (show RfF _ _ (dCL ([])) from rf_lst raN))
        (rs_seq (rs_for (ri_tup (ro rv_ix (RfE.b (rn 0)) (RfE.b (rc_int _)))) (rg_name 7) (rs_if (rt_test (ro rv_eq (RfE.b (rn 7)) (RfE.b (rc_str _)))) (rs_app 6 (rn 3)) (rs_if (rt_test (ro rv_eq (RfE.b (rn 7)) (RfE.b (rc_str _)))) (rs_app 6 (rn 4)) (rs_if (rt_test (ro rv_eq (RfE.b (rn 7)) (RfE.b (rc_str _)))) (rs_app 6 (rn 5)) (rs_if (rt_test (ro rv_eq (RfE.b (rn 7)) (RfE.b (rc_str _)))) (rs_app 6 (rn 2)) (rs_app 6 (re_if (rt_test (ro rv_isN (RfE.b (rn 3)) (RfE.b rc_non))) rc_non (re_call (raC (rn 3) (raC (re_cb ro_intS (rbC (RfE.b (re_slS (RfE.b (rn 7)) (rp_some (rc_int _)) rp_no)) rbN)) raN))))))))))
        (rs_ret (re_cb ro_tupOf (rbC (rnb 6) rbN))))))) h (by rw [spD_len F2_len h]; decide) (F2_in fun a0 a1 Qd q => ?_)⟩
  obtain ⟨x0, x1, x2, ws, k, o, i, s, rfl, rfl, hl, ok, ho, q⟩ := q
  simp only [true_and, ↓q_sTake, ↓q_sTake0, ↓q_sPick, ↓q_sNumber, rng_1, rng_2, rng_3, rng_4, rng_6, ↓q_dKd, dix_0, dix_1, dix_2, dix_3, dix_4, dix_5, dix_6, dix_7, dix_8, dix_9, Bool.not_false, Bool.not_true, Bool.and_true, Bool.true_and, Bool.and_false, Bool.false_and, decide_eq_true_eq, Bool.not_eq_true', decide_eq_false_iff_not, Bool.false_eq_true, if_true, if_false, ↓q_F0, ↓q_F1, ↓q_F2, ↓q_F3, ↓q_F4, ↓q_F5, ↓q_F6, ↓q_dParO1, ↓q_dParO2, ↓q_dEnumT, ↓q_oRepr, ↓q_dUn, ↓q_oNeg, ↓q_dSeq, ↓q_dRet, ↓q_dRetN, ↓q_dIf, ↓q_dAsg, ↓q_dDrop, ↓q_dBreak, ↓q_dCont, ↓q_dNext, ↓q_dOwn, ↓q_dApp, ↓q_dSetIx, ↓q_dFrz, frz, ↓q_dPar, ↓q_dAug, ↓q_dFor, ↓q_dN, ↓q_dNB, ↓q_dC, ↓q_dOp, ↓q_oI, ↓q_oI0, ↓q_oB, ↓q_oEq, ↓q_oEqS, eqS, ↓q_oIsN, isNo, ↓q_oIx, ↓q_oIx_1, ↓q_oIxS, seqOf, ↓q_oCat, ↓q_oCatT, ↓q_oCatS, ↓q_oIn, ↓q_oInS, ↓q_dTb, ↓q_dAnd, ↓q_dOr, ↓q_dNot, ↓q_dYes, ↓q_dAndV, ↓q_dOrV, ↓q_dNotV, ↓q_dIfV, ↓q_dChain, ↓q_dNil, ↓q_dCons, ↓q_dL, ↓q_dTup, ↓q_dCB, ↓q_oAbs, ↓q_oI2, ↓q_oLen, ↓q_oLenS, ↓q_oInt, ↓q_oInt_1, ↓q_oSum, ↓q_oBs, ↓q_oTupOf, ↓q_dSeqOf, ↓q_dIsi, it_bool_none, it_bool_bool, it_bool_int, it_bool_str, it_bool_list, it_bool_tuple, it_bool_dict, it_int_none, it_int_bool, it_int_int, it_int_str, it_int_list, it_int_tuple, it_int_dict, it_str_none, it_str_bool, it_str_int, it_str_str, it_str_list, it_str_tuple, it_str_dict, it_list_none, it_list_bool, it_list_int, it_list_str, it_list_list, it_list_tuple, it_list_dict, it_tuple_none, it_tuple_bool, it_tuple_int, it_tuple_str, it_tuple_list, it_tuple_tuple, it_tuple_dict, it_dict_none, it_dict_bool, it_dict_int, it_dict_str, it_dict_list, it_dict_tuple, it_dict_dict, ↓q_dNoP, ↓q_dPart, ↓q_dSlT, ↓q_dSlL, ↓q_dSlS, ↓q_dCall, ↓q_dCallS, ↓q_dItL, ↓q_dItT, ↓q_dItS, ↓q_dR1, ↓q_dR2, ↓q_dZip, ↓q_dEnum, ↓q_gN, ↓q_gNi, ↓q_gCo, ↓q_gCo_1, ↓q_gT, ↓q_dLc, ↓q_dDc, ↓q_dK, ↓q_oLenD, ↓q_dCL, ↓q_oRep, ↓q_oRepT, ↓q_dSortSet, ↓q_dSort2, ↓q_sSame, ↓q_oStr, ↓q_oIntS, ↓q_oOrd, ↓q_oMulS, ↓q_dM0, ↓q_dM1, ↓q_sLower, ↓q_sUpper, ↓q_sStarts, ↓q_sEnds, ↓q_dSplit, ↓q_dJoin, ↓q_dFmt, ↓q_dJn, ↓q_dJc, ↓q_dFs, ↓q_dDg, ↓q_dDin, ↓q_dDgx, keyOf, Option.isSome_some, wipeE, eget, eset, List.set, ev0, List.map_cons, List.map_nil, List.cons_append, List.nil_append, List.replicate_succ, List.replicate_zero, noOwn, isOwn, List.all_cons, List.all_nil, List.length_cons, List.length_nil, Bool.true_eq_false, not_false_eq_true, not_true_eq_false]
  refine ⟨by decide, ?_⟩
  refine loop_by (fun rest env => ∃ (pre us : List Wd) (s7 : Option En), ws = pre ++ us ∧ rest = us.map (fun w => PyData.str (Wd.str w)) ∧
    env = [some (En.d (PyData.tuple [x0, x1, x2, PyData.tuple (ws.map fun w => PyData.str w.str)])), some (En.d (PyData.tuple [k, eO o, i, s])), some (En.d k), some (En.d (eO o)), some (En.d i), some (En.d s), some (En.own (pre.map (told k o i s))), s7]) ?_ ?_ _ _ ⟨[], ws, none, rfl, rfl, rfl⟩
  · rintro env ⟨pre, us, s7, h1, h2, rfl⟩
    cases us with
    | cons _ _ => cases h2
    | nil =>
      rw [List.append_nil] at h1
      subst h1
      simp only [true_and, ↓q_sTake, ↓q_sTake0, ↓q_sPick, ↓q_sNumber, rng_1, rng_2, rng_3, rng_4, rng_6, ↓q_dKd, dix_0, dix_1, dix_2, dix_3, dix_4, dix_5, dix_6, dix_7, dix_8, dix_9, Bool.not_false, Bool.not_true, Bool.and_true, Bool.true_and, Bool.and_false, Bool.false_and, decide_eq_true_eq, Bool.not_eq_true', decide_eq_false_iff_not, Bool.false_eq_true, if_true, if_false, ↓q_F0, ↓q_F1, ↓q_F2, ↓q_F3, ↓q_F4, ↓q_F5, ↓q_F6, ↓q_dParO1, ↓q_dParO2, ↓q_dEnumT, ↓q_oRepr, ↓q_dUn, ↓q_oNeg, ↓q_dSeq, ↓q_dRet, ↓q_dRetN, ↓q_dIf, ↓q_dAsg, ↓q_dDrop, ↓q_dBreak, ↓q_dCont, ↓q_dNext, ↓q_dOwn, ↓q_dApp, ↓q_dSetIx, ↓q_dFrz, frz, ↓q_dPar, ↓q_dAug, ↓q_dFor, ↓q_dN, ↓q_dNB, ↓q_dC, ↓q_dOp, ↓q_oI, ↓q_oI0, ↓q_oB, ↓q_oEq, ↓q_oEqS, eqS, ↓q_oIsN, isNo, ↓q_oIx, ↓q_oIx_1, ↓q_oIxS, seqOf, ↓q_oCat, ↓q_oCatT, ↓q_oCatS, ↓q_oIn, ↓q_oInS, ↓q_dTb, ↓q_dAnd, ↓q_dOr, ↓q_dNot, ↓q_dYes, ↓q_dAndV, ↓q_dOrV, ↓q_dNotV, ↓q_dIfV, ↓q_dChain, ↓q_dNil, ↓q_dCons, ↓q_dL, ↓q_dTup, ↓q_dCB, ↓q_oAbs, ↓q_oI2, ↓q_oLen, ↓q_oLenS, ↓q_oInt, ↓q_oInt_1, ↓q_oSum, ↓q_oBs, ↓q_oTupOf, ↓q_dSeqOf, ↓q_dIsi, it_bool_none, it_bool_bool, it_bool_int, it_bool_str, it_bool_list, it_bool_tuple, it_bool_dict, it_int_none, it_int_bool, it_int_int, it_int_str, it_int_list, it_int_tuple, it_int_dict, it_str_none, it_str_bool, it_str_int, it_str_str, it_str_list, it_str_tuple, it_str_dict, it_list_none, it_list_bool, it_list_int, it_list_str, it_list_list, it_list_tuple, it_list_dict, it_tuple_none, it_tuple_bool, it_tuple_int, it_tuple_str, it_tuple_list, it_tuple_tuple, it_tuple_dict, it_dict_none, it_dict_bool, it_dict_int, it_dict_str, it_dict_list, it_dict_tuple, it_dict_dict, ↓q_dNoP, ↓q_dPart, ↓q_dSlT, ↓q_dSlL, ↓q_dSlS, ↓q_dCall, ↓q_dCallS, ↓q_dItL, ↓q_dItT, ↓q_dItS, ↓q_dR1, ↓q_dR2, ↓q_dZip, ↓q_dEnum, ↓q_gN, ↓q_gNi, ↓q_gCo, ↓q_gCo_1, ↓q_gT, ↓q_dLc, ↓q_dDc, ↓q_dK, ↓q_oLenD, ↓q_dCL, ↓q_oRep, ↓q_oRepT, ↓q_dSortSet, ↓q_dSort2, ↓q_sSame, ↓q_oStr, ↓q_oIntS, ↓q_oOrd, ↓q_oMulS, ↓q_dM0, ↓q_dM1, ↓q_sLower, ↓q_sUpper, ↓q_sStarts, ↓q_sEnds, ↓q_dSplit, ↓q_dJoin, ↓q_dFmt, ↓q_dJn, ↓q_dJc, ↓q_dFs, ↓q_dDg, ↓q_dDin, ↓q_dDgx, keyOf, Option.isSome_some, wipeE, eget, eset, List.set, ev0, List.map_cons, List.map_nil, List.cons_append, List.nil_append, List.replicate_succ, List.replicate_zero, noOwn, isOwn, List.all_cons, List.all_nil, List.length_cons, List.length_nil, Bool.true_eq_false, not_false_eq_true, not_true_eq_false]
      exact q
  · rintro d rest env N ⟨pre, us, s7, h1, h2, rfl⟩ hN
    cases us with
    | nil => cases h2
    | cons u us =>
      rw [List.map_cons] at h2
      cases h2
      have hN' : ∀ s7 : Option En, N [some (En.d (PyData.tuple [x0, x1, x2, PyData.tuple (ws.map fun w => PyData.str w.str)])), some (En.d (PyData.tuple [k, eO o, i, s])), some (En.d k), some (En.d (eO o)), some (En.d i), some (En.d s), some (En.own (pre.map (told k o i s) ++ [told k o i s u])), s7] := fun s7 => hN _ ⟨pre ++ [u], us, _, by rw [h1, List.append_assoc]; rfl, rfl, by rw [List.map_append]; rfl⟩
      have ok' := ok u (by rw [h1]; exact List.mem_append_right _ List.mem_cons_self)
      have hp : (pre.map (told k o i s)).length ≤ 100000 := by
        have := congrArg List.length h1
        rw [List.length_append] at this
        rw [List.length_map]
        omega
      cases u with
      | out => simp only [Wd.str, true_and, ↓q_sTake, ↓q_sTake0, ↓q_sPick, ↓q_sNumber, rng_1, rng_2, rng_3, rng_4, rng_6, ↓q_dKd, dix_0, dix_1, dix_2, dix_3, dix_4, dix_5, dix_6, dix_7, dix_8, dix_9, Bool.not_false, Bool.not_true, Bool.and_true, Bool.true_and, Bool.and_false, Bool.false_and, decide_eq_true_eq, Bool.not_eq_true', decide_eq_false_iff_not, Bool.false_eq_true, if_true, if_false, ↓q_F0, ↓q_F1, ↓q_F2, ↓q_F3, ↓q_F4, ↓q_F5, ↓q_F6, ↓q_dParO1, ↓q_dParO2, ↓q_dEnumT, ↓q_oRepr, ↓q_dUn, ↓q_oNeg, ↓q_dSeq, ↓q_dRet, ↓q_dRetN, ↓q_dIf, ↓q_dAsg, ↓q_dDrop, ↓q_dBreak, ↓q_dCont, ↓q_dNext, ↓q_dOwn, ↓q_dApp, ↓q_dSetIx, ↓q_dFrz, frz, ↓q_dPar, ↓q_dAug, ↓q_dFor, ↓q_dN, ↓q_dNB, ↓q_dC, ↓q_dOp, ↓q_oI, ↓q_oI0, ↓q_oB, ↓q_oEq, ↓q_oEqS, eqS, ↓q_oIsN, isNo, ↓q_oIx, ↓q_oIx_1, ↓q_oIxS, seqOf, ↓q_oCat, ↓q_oCatT, ↓q_oCatS, ↓q_oIn, ↓q_oInS, ↓q_dTb, ↓q_dAnd, ↓q_dOr, ↓q_dNot, ↓q_dYes, ↓q_dAndV, ↓q_dOrV, ↓q_dNotV, ↓q_dIfV, ↓q_dChain, ↓q_dNil, ↓q_dCons, ↓q_dL, ↓q_dTup, ↓q_dCB, ↓q_oAbs, ↓q_oI2, ↓q_oLen, ↓q_oLenS, ↓q_oInt, ↓q_oInt_1, ↓q_oSum, ↓q_oBs, ↓q_oTupOf, ↓q_dSeqOf, ↓q_dIsi, it_bool_none, it_bool_bool, it_bool_int, it_bool_str, it_bool_list, it_bool_tuple, it_bool_dict, it_int_none, it_int_bool, it_int_int, it_int_str, it_int_list, it_int_tuple, it_int_dict, it_str_none, it_str_bool, it_str_int, it_str_str, it_str_list, it_str_tuple, it_str_dict, it_list_none, it_list_bool, it_list_int, it_list_str, it_list_list, it_list_tuple, it_list_dict, it_tuple_none, it_tuple_bool, it_tuple_int, it_tuple_str, it_tuple_list, it_tuple_tuple, it_tuple_dict, it_dict_none, it_dict_bool, it_dict_int, it_dict_str, it_dict_list, it_dict_tuple, it_dict_dict, ↓q_dNoP, ↓q_dPart, ↓q_dSlT, ↓q_dSlL, ↓q_dSlS, ↓q_dCall, ↓q_dCallS, ↓q_dItL, ↓q_dItT, ↓q_dItS, ↓q_dR1, ↓q_dR2, ↓q_dZip, ↓q_dEnum, ↓q_gN, ↓q_gNi, ↓q_gCo, ↓q_gCo_1, ↓q_gT, ↓q_dLc, ↓q_dDc, ↓q_dK, ↓q_oLenD, ↓q_dCL, ↓q_oRep, ↓q_oRepT, ↓q_dSortSet, ↓q_dSort2, ↓q_sSame, ↓q_oStr, ↓q_oIntS, ↓q_oOrd, ↓q_oMulS, ↓q_dM0, ↓q_dM1, ↓q_sLower, ↓q_sUpper, ↓q_sStarts, ↓q_sEnds, ↓q_dSplit, ↓q_dJoin, ↓q_dFmt, ↓q_dJn, ↓q_dJc, ↓q_dFs, ↓q_dDg, ↓q_dDin, ↓q_dDgx, keyOf, Option.isSome_some, wipeE, eget, eset, List.set, ev0, List.map_cons, List.map_nil, List.cons_append, List.nil_append, List.replicate_succ, List.replicate_zero, noOwn, isOwn, List.all_cons, List.all_nil, List.length_cons, List.length_nil, Bool.true_eq_false, not_false_eq_true, not_true_eq_false]; exact ⟨hp, hN' _⟩
      | ins => simp only [Wd.str, true_and, ↓q_sTake, ↓q_sTake0, ↓q_sPick, ↓q_sNumber, rng_1, rng_2, rng_3, rng_4, rng_6, ↓q_dKd, dix_0, dix_1, dix_2, dix_3, dix_4, dix_5, dix_6, dix_7, dix_8, dix_9, Bool.not_false, Bool.not_true, Bool.and_true, Bool.true_and, Bool.and_false, Bool.false_and, decide_eq_true_eq, Bool.not_eq_true', decide_eq_false_iff_not, Bool.false_eq_true, if_true, if_false, ↓q_F0, ↓q_F1, ↓q_F2, ↓q_F3, ↓q_F4, ↓q_F5, ↓q_F6, ↓q_dParO1, ↓q_dParO2, ↓q_dEnumT, ↓q_oRepr, ↓q_dUn, ↓q_oNeg, ↓q_dSeq, ↓q_dRet, ↓q_dRetN, ↓q_dIf, ↓q_dAsg, ↓q_dDrop, ↓q_dBreak, ↓q_dCont, ↓q_dNext, ↓q_dOwn, ↓q_dApp, ↓q_dSetIx, ↓q_dFrz, frz, ↓q_dPar, ↓q_dAug, ↓q_dFor, ↓q_dN, ↓q_dNB, ↓q_dC, ↓q_dOp, ↓q_oI, ↓q_oI0, ↓q_oB, ↓q_oEq, ↓q_oEqS, eqS, ↓q_oIsN, isNo, ↓q_oIx, ↓q_oIx_1, ↓q_oIxS, seqOf, ↓q_oCat, ↓q_oCatT, ↓q_oCatS, ↓q_oIn, ↓q_oInS, ↓q_dTb, ↓q_dAnd, ↓q_dOr, ↓q_dNot, ↓q_dYes, ↓q_dAndV, ↓q_dOrV, ↓q_dNotV, ↓q_dIfV, ↓q_dChain, ↓q_dNil, ↓q_dCons, ↓q_dL, ↓q_dTup, ↓q_dCB, ↓q_oAbs, ↓q_oI2, ↓q_oLen, ↓q_oLenS, ↓q_oInt, ↓q_oInt_1, ↓q_oSum, ↓q_oBs, ↓q_oTupOf, ↓q_dSeqOf, ↓q_dIsi, it_bool_none, it_bool_bool, it_bool_int, it_bool_str, it_bool_list, it_bool_tuple, it_bool_dict, it_int_none, it_int_bool, it_int_int, it_int_str, it_int_list, it_int_tuple, it_int_dict, it_str_none, it_str_bool, it_str_int, it_str_str, it_str_list, it_str_tuple, it_str_dict, it_list_none, it_list_bool, it_list_int, it_list_str, it_list_list, it_list_tuple, it_list_dict, it_tuple_none, it_tuple_bool, it_tuple_int, it_tuple_str, it_tuple_list, it_tuple_tuple, it_tuple_dict, it_dict_none, it_dict_bool, it_dict_int, it_dict_str, it_dict_list, it_dict_tuple, it_dict_dict, ↓q_dNoP, ↓q_dPart, ↓q_dSlT, ↓q_dSlL, ↓q_dSlS, ↓q_dCall, ↓q_dCallS, ↓q_dItL, ↓q_dItT, ↓q_dItS, ↓q_dR1, ↓q_dR2, ↓q_dZip, ↓q_dEnum, ↓q_gN, ↓q_gNi, ↓q_gCo, ↓q_gCo_1, ↓q_gT, ↓q_dLc, ↓q_dDc, ↓q_dK, ↓q_oLenD, ↓q_dCL, ↓q_oRep, ↓q_oRepT, ↓q_dSortSet, ↓q_dSort2, ↓q_sSame, ↓q_oStr, ↓q_oIntS, ↓q_oOrd, ↓q_oMulS, ↓q_dM0, ↓q_dM1, ↓q_sLower, ↓q_sUpper, ↓q_sStarts, ↓q_sEnds, ↓q_dSplit, ↓q_dJoin, ↓q_dFmt, ↓q_dJn, ↓q_dJc, ↓q_dFs, ↓q_dDg, ↓q_dDin, ↓q_dDgx, keyOf, Option.isSome_some, wipeE, eget, eset, List.set, ev0, List.map_cons, List.map_nil, List.cons_append, List.nil_append, List.replicate_succ, List.replicate_zero, noOwn, isOwn, List.all_cons, List.all_nil, List.length_cons, List.length_nil, Bool.true_eq_false, not_false_eq_true, not_true_eq_false]; rw [if_neg w_7]; exact ⟨hp, hN' _⟩
      | srv => simp only [Wd.str, true_and, ↓q_sTake, ↓q_sTake0, ↓q_sPick, ↓q_sNumber, rng_1, rng_2, rng_3, rng_4, rng_6, ↓q_dKd, dix_0, dix_1, dix_2, dix_3, dix_4, dix_5, dix_6, dix_7, dix_8, dix_9, Bool.not_false, Bool.not_true, Bool.and_true, Bool.true_and, Bool.and_false, Bool.false_and, decide_eq_true_eq, Bool.not_eq_true', decide_eq_false_iff_not, Bool.false_eq_true, if_true, if_false, ↓q_F0, ↓q_F1, ↓q_F2, ↓q_F3, ↓q_F4, ↓q_F5, ↓q_F6, ↓q_dParO1, ↓q_dParO2, ↓q_dEnumT, ↓q_oRepr, ↓q_dUn, ↓q_oNeg, ↓q_dSeq, ↓q_dRet, ↓q_dRetN, ↓q_dIf, ↓q_dAsg, ↓q_dDrop, ↓q_dBreak, ↓q_dCont, ↓q_dNext, ↓q_dOwn, ↓q_dApp, ↓q_dSetIx, ↓q_dFrz, frz, ↓q_dPar, ↓q_dAug, ↓q_dFor, ↓q_dN, ↓q_dNB, ↓q_dC, ↓q_dOp, ↓q_oI, ↓q_oI0, ↓q_oB, ↓q_oEq, ↓q_oEqS, eqS, ↓q_oIsN, isNo, ↓q_oIx, ↓q_oIx_1, ↓q_oIxS, seqOf, ↓q_oCat, ↓q_oCatT, ↓q_oCatS, ↓q_oIn, ↓q_oInS, ↓q_dTb, ↓q_dAnd, ↓q_dOr, ↓q_dNot, ↓q_dYes, ↓q_dAndV, ↓q_dOrV, ↓q_dNotV, ↓q_dIfV, ↓q_dChain, ↓q_dNil, ↓q_dCons, ↓q_dL, ↓q_dTup, ↓q_dCB, ↓q_oAbs, ↓q_oI2, ↓q_oLen, ↓q_oLenS, ↓q_oInt, ↓q_oInt_1, ↓q_oSum, ↓q_oBs, ↓q_oTupOf, ↓q_dSeqOf, ↓q_dIsi, it_bool_none, it_bool_bool, it_bool_int, it_bool_str, it_bool_list, it_bool_tuple, it_bool_dict, it_int_none, it_int_bool, it_int_int, it_int_str, it_int_list, it_int_tuple, it_int_dict, it_str_none, it_str_bool, it_str_int, it_str_str, it_str_list, it_str_tuple, it_str_dict, it_list_none, it_list_bool, it_list_int, it_list_str, it_list_list, it_list_tuple, it_list_dict, it_tuple_none, it_tuple_bool, it_tuple_int, it_tuple_str, it_tuple_list, it_tuple_tuple, it_tuple_dict, it_dict_none, it_dict_bool, it_dict_int, it_dict_str, it_dict_list, it_dict_tuple, it_dict_dict, ↓q_dNoP, ↓q_dPart, ↓q_dSlT, ↓q_dSlL, ↓q_dSlS, ↓q_dCall, ↓q_dCallS, ↓q_dItL, ↓q_dItT, ↓q_dItS, ↓q_dR1, ↓q_dR2, ↓q_dZip, ↓q_dEnum, ↓q_gN, ↓q_gNi, ↓q_gCo, ↓q_gCo_1, ↓q_gT, ↓q_dLc, ↓q_dDc, ↓q_dK, ↓q_oLenD, ↓q_dCL, ↓q_oRep, ↓q_oRepT, ↓q_dSortSet, ↓q_dSort2, ↓q_sSame, ↓q_oStr, ↓q_oIntS, ↓q_oOrd, ↓q_oMulS, ↓q_dM0, ↓q_dM1, ↓q_sLower, ↓q_sUpper, ↓q_sStarts, ↓q_sEnds, ↓q_dSplit, ↓q_dJoin, ↓q_dFmt, ↓q_dJn, ↓q_dJc, ↓q_dFs, ↓q_dDg, ↓q_dDin, ↓q_dDgx, keyOf, Option.isSome_some, wipeE, eget, eset, List.set, ev0, List.map_cons, List.map_nil, List.cons_append, List.nil_append, List.replicate_succ, List.replicate_zero, noOwn, isOwn, List.all_cons, List.all_nil, List.length_cons, List.length_nil, Bool.true_eq_false, not_false_eq_true, not_true_eq_false]; rw [if_neg w_8, if_neg w_6]; exact ⟨hp, hN' _⟩
      | knd => simp only [Wd.str, true_and, ↓q_sTake, ↓q_sTake0, ↓q_sPick, ↓q_sNumber, rng_1, rng_2, rng_3, rng_4, rng_6, ↓q_dKd, dix_0, dix_1, dix_2, dix_3, dix_4, dix_5, dix_6, dix_7, dix_8, dix_9, Bool.not_false, Bool.not_true, Bool.and_true, Bool.true_and, Bool.and_false, Bool.false_and, decide_eq_true_eq, Bool.not_eq_true', decide_eq_false_iff_not, Bool.false_eq_true, if_true, if_false, ↓q_F0, ↓q_F1, ↓q_F2, ↓q_F3, ↓q_F4, ↓q_F5, ↓q_F6, ↓q_dParO1, ↓q_dParO2, ↓q_dEnumT, ↓q_oRepr, ↓q_dUn, ↓q_oNeg, ↓q_dSeq, ↓q_dRet, ↓q_dRetN, ↓q_dIf, ↓q_dAsg, ↓q_dDrop, ↓q_dBreak, ↓q_dCont, ↓q_dNext, ↓q_dOwn, ↓q_dApp, ↓q_dSetIx, ↓q_dFrz, frz, ↓q_dPar, ↓q_dAug, ↓q_dFor, ↓q_dN, ↓q_dNB, ↓q_dC, ↓q_dOp, ↓q_oI, ↓q_oI0, ↓q_oB, ↓q_oEq, ↓q_oEqS, eqS, ↓q_oIsN, isNo, ↓q_oIx, ↓q_oIx_1, ↓q_oIxS, seqOf, ↓q_oCat, ↓q_oCatT, ↓q_oCatS, ↓q_oIn, ↓q_oInS, ↓q_dTb, ↓q_dAnd, ↓q_dOr, ↓q_dNot, ↓q_dYes, ↓q_dAndV, ↓q_dOrV, ↓q_dNotV, ↓q_dIfV, ↓q_dChain, ↓q_dNil, ↓q_dCons, ↓q_dL, ↓q_dTup, ↓q_dCB, ↓q_oAbs, ↓q_oI2, ↓q_oLen, ↓q_oLenS, ↓q_oInt, ↓q_oInt_1, ↓q_oSum, ↓q_oBs, ↓q_oTupOf, ↓q_dSeqOf, ↓q_dIsi, it_bool_none, it_bool_bool, it_bool_int, it_bool_str, it_bool_list, it_bool_tuple, it_bool_dict, it_int_none, it_int_bool, it_int_int, it_int_str, it_int_list, it_int_tuple, it_int_dict, it_str_none, it_str_bool, it_str_int, it_str_str, it_str_list, it_str_tuple, it_str_dict, it_list_none, it_list_bool, it_list_int, it_list_str, it_list_list, it_list_tuple, it_list_dict, it_tuple_none, it_tuple_bool, it_tuple_int, it_tuple_str, it_tuple_list, it_tuple_tuple, it_tuple_dict, it_dict_none, it_dict_bool, it_dict_int, it_dict_str, it_dict_list, it_dict_tuple, it_dict_dict, ↓q_dNoP, ↓q_dPart, ↓q_dSlT, ↓q_dSlL, ↓q_dSlS, ↓q_dCall, ↓q_dCallS, ↓q_dItL, ↓q_dItT, ↓q_dItS, ↓q_dR1, ↓q_dR2, ↓q_dZip, ↓q_dEnum, ↓q_gN, ↓q_gNi, ↓q_gCo, ↓q_gCo_1, ↓q_gT, ↓q_dLc, ↓q_dDc, ↓q_dK, ↓q_oLenD, ↓q_dCL, ↓q_oRep, ↓q_oRepT, ↓q_dSortSet, ↓q_dSort2, ↓q_sSame, ↓q_oStr, ↓q_oIntS, ↓q_oOrd, ↓q_oMulS, ↓q_dM0, ↓q_dM1, ↓q_sLower, ↓q_sUpper, ↓q_sStarts, ↓q_sEnds, ↓q_dSplit, ↓q_dJoin, ↓q_dFmt, ↓q_dJn, ↓q_dJc, ↓q_dFs, ↓q_dDg, ↓q_dDin, ↓q_dDgx, keyOf, Option.isSome_some, wipeE, eget, eset, List.set, ev0, List.map_cons, List.map_nil, List.cons_append, List.nil_append, List.replicate_succ, List.replicate_zero, noOwn, isOwn, List.all_cons, List.all_nil, List.length_cons, List.length_nil, Bool.true_eq_false, not_false_eq_true, not_true_eq_false]; rw [if_neg w_9, if_neg w_10, if_neg w_11]; exact ⟨hp, hN' _⟩
      | bit n =>
        obtain ⟨b1, b2, b3, b4⟩ := bw_ne n ok'.2
        obtain ⟨e1, e2, e3, e4, e5⟩ := bw_split n ok'.2
        simp only [Wd.str, true_and, ↓q_sTake, ↓q_sTake0, ↓q_sPick, ↓q_sNumber, rng_1, rng_2, rng_3, rng_4, rng_6, ↓q_dKd, dix_0, dix_1, dix_2, dix_3, dix_4, dix_5, dix_6, dix_7, dix_8, dix_9, Bool.not_false, Bool.not_true, Bool.and_true, Bool.true_and, Bool.and_false, Bool.false_and, decide_eq_true_eq, Bool.not_eq_true', decide_eq_false_iff_not, Bool.false_eq_true, if_true, if_false, ↓q_F0, ↓q_F1, ↓q_F2, ↓q_F3, ↓q_F4, ↓q_F5, ↓q_F6, ↓q_dParO1, ↓q_dParO2, ↓q_dEnumT, ↓q_oRepr, ↓q_dUn, ↓q_oNeg, ↓q_dSeq, ↓q_dRet, ↓q_dRetN, ↓q_dIf, ↓q_dAsg, ↓q_dDrop, ↓q_dBreak, ↓q_dCont, ↓q_dNext, ↓q_dOwn, ↓q_dApp, ↓q_dSetIx, ↓q_dFrz, frz, ↓q_dPar, ↓q_dAug, ↓q_dFor, ↓q_dN, ↓q_dNB, ↓q_dC, ↓q_dOp, ↓q_oI, ↓q_oI0, ↓q_oB, ↓q_oEq, ↓q_oEqS, eqS, ↓q_oIsN, isNo, ↓q_oIx, ↓q_oIx_1, ↓q_oIxS, seqOf, ↓q_oCat, ↓q_oCatT, ↓q_oCatS, ↓q_oIn, ↓q_oInS, ↓q_dTb, ↓q_dAnd, ↓q_dOr, ↓q_dNot, ↓q_dYes, ↓q_dAndV, ↓q_dOrV, ↓q_dNotV, ↓q_dIfV, ↓q_dChain, ↓q_dNil, ↓q_dCons, ↓q_dL, ↓q_dTup, ↓q_dCB, ↓q_oAbs, ↓q_oI2, ↓q_oLen, ↓q_oLenS, ↓q_oInt, ↓q_oInt_1, ↓q_oSum, ↓q_oBs, ↓q_oTupOf, ↓q_dSeqOf, ↓q_dIsi, it_bool_none, it_bool_bool, it_bool_int, it_bool_str, it_bool_list, it_bool_tuple, it_bool_dict, it_int_none, it_int_bool, it_int_int, it_int_str, it_int_list, it_int_tuple, it_int_dict, it_str_none, it_str_bool, it_str_int, it_str_str, it_str_list, it_str_tuple, it_str_dict, it_list_none, it_list_bool, it_list_int, it_list_str, it_list_list, it_list_tuple, it_list_dict, it_tuple_none, it_tuple_bool, it_tuple_int, it_tuple_str, it_tuple_list, it_tuple_tuple, it_tuple_dict, it_dict_none, it_dict_bool, it_dict_int, it_dict_str, it_dict_list, it_dict_tuple, it_dict_dict, ↓q_dNoP, ↓q_dPart, ↓q_dSlT, ↓q_dSlL, ↓q_dSlS, ↓q_dCall, ↓q_dCallS, ↓q_dItL, ↓q_dItT, ↓q_dItS, ↓q_dR1, ↓q_dR2, ↓q_dZip, ↓q_dEnum, ↓q_gN, ↓q_gNi, ↓q_gCo, ↓q_gCo_1, ↓q_gT, ↓q_dLc, ↓q_dDc, ↓q_dK, ↓q_oLenD, ↓q_dCL, ↓q_oRep, ↓q_oRepT, ↓q_dSortSet, ↓q_dSort2, ↓q_sSame, ↓q_oStr, ↓q_oIntS, ↓q_oOrd, ↓q_oMulS, ↓q_dM0, ↓q_dM1, ↓q_sLower, ↓q_sUpper, ↓q_sStarts, ↓q_sEnds, ↓q_dSplit, ↓q_dJoin, ↓q_dFmt, ↓q_dJn, ↓q_dJc, ↓q_dFs, ↓q_dDg, ↓q_dDin, ↓q_dDgx, keyOf, Option.isSome_some, wipeE, eget, eset, List.set, ev0, List.map_cons, List.map_nil, List.cons_append, List.nil_append, List.replicate_succ, List.replicate_zero, noOwn, isOwn, List.all_cons, List.all_nil, List.length_cons, List.length_nil, Bool.true_eq_false, not_false_eq_true, not_true_eq_false]
        rw [if_neg b4, if_neg b2, if_neg b3, if_neg b1]
        cases o with
        | none =>
          simp only [eO, true_and, ↓q_sTake, ↓q_sTake0, ↓q_sPick, ↓q_sNumber, rng_1, rng_2, rng_3, rng_4, rng_6, ↓q_dKd, dix_0, dix_1, dix_2, dix_3, dix_4, dix_5, dix_6, dix_7, dix_8, dix_9, Bool.not_false, Bool.not_true, Bool.and_true, Bool.true_and, Bool.and_false, Bool.false_and, decide_eq_true_eq, Bool.not_eq_true', decide_eq_false_iff_not, Bool.false_eq_true, if_true, if_false, ↓q_F0, ↓q_F1, ↓q_F2, ↓q_F3, ↓q_F4, ↓q_F5, ↓q_F6, ↓q_dParO1, ↓q_dParO2, ↓q_dEnumT, ↓q_oRepr, ↓q_dUn, ↓q_oNeg, ↓q_dSeq, ↓q_dRet, ↓q_dRetN, ↓q_dIf, ↓q_dAsg, ↓q_dDrop, ↓q_dBreak, ↓q_dCont, ↓q_dNext, ↓q_dOwn, ↓q_dApp, ↓q_dSetIx, ↓q_dFrz, frz, ↓q_dPar, ↓q_dAug, ↓q_dFor, ↓q_dN, ↓q_dNB, ↓q_dC, ↓q_dOp, ↓q_oI, ↓q_oI0, ↓q_oB, ↓q_oEq, ↓q_oEqS, eqS, ↓q_oIsN, isNo, ↓q_oIx, ↓q_oIx_1, ↓q_oIxS, seqOf, ↓q_oCat, ↓q_oCatT, ↓q_oCatS, ↓q_oIn, ↓q_oInS, ↓q_dTb, ↓q_dAnd, ↓q_dOr, ↓q_dNot, ↓q_dYes, ↓q_dAndV, ↓q_dOrV, ↓q_dNotV, ↓q_dIfV, ↓q_dChain, ↓q_dNil, ↓q_dCons, ↓q_dL, ↓q_dTup, ↓q_dCB, ↓q_oAbs, ↓q_oI2, ↓q_oLen, ↓q_oLenS, ↓q_oInt, ↓q_oInt_1, ↓q_oSum, ↓q_oBs, ↓q_oTupOf, ↓q_dSeqOf, ↓q_dIsi, it_bool_none, it_bool_bool, it_bool_int, it_bool_str, it_bool_list, it_bool_tuple, it_bool_dict, it_int_none, it_int_bool, it_int_int, it_int_str, it_int_list, it_int_tuple, it_int_dict, it_str_none, it_str_bool, it_str_int, it_str_str, it_str_list, it_str_tuple, it_str_dict, it_list_none, it_list_bool, it_list_int, it_list_str, it_list_list, it_list_tuple, it_list_dict, it_tuple_none, it_tuple_bool, it_tuple_int, it_tuple_str, it_tuple_list, it_tuple_tuple, it_tuple_dict, it_dict_none, it_dict_bool, it_dict_int, it_dict_str, it_dict_list, it_dict_tuple, it_dict_dict, ↓q_dNoP, ↓q_dPart, ↓q_dSlT, ↓q_dSlL, ↓q_dSlS, ↓q_dCall, ↓q_dCallS, ↓q_dItL, ↓q_dItT, ↓q_dItS, ↓q_dR1, ↓q_dR2, ↓q_dZip, ↓q_dEnum, ↓q_gN, ↓q_gNi, ↓q_gCo, ↓q_gCo_1, ↓q_gT, ↓q_dLc, ↓q_dDc, ↓q_dK, ↓q_oLenD, ↓q_dCL, ↓q_oRep, ↓q_oRepT, ↓q_dSortSet, ↓q_dSort2, ↓q_sSame, ↓q_oStr, ↓q_oIntS, ↓q_oOrd, ↓q_oMulS, ↓q_dM0, ↓q_dM1, ↓q_sLower, ↓q_sUpper, ↓q_sStarts, ↓q_sEnds, ↓q_dSplit, ↓q_dJoin, ↓q_dFmt, ↓q_dJn, ↓q_dJc, ↓q_dFs, ↓q_dDg, ↓q_dDin, ↓q_dDgx, keyOf, Option.isSome_some, wipeE, eget, eset, List.set, ev0, List.map_cons, List.map_nil, List.cons_append, List.nil_append, List.replicate_succ, List.replicate_zero, noOwn, isOwn, List.all_cons, List.all_nil, List.length_cons, List.length_nil, Bool.true_eq_false, not_false_eq_true, not_true_eq_false]
          exact ⟨hp, hN' _⟩
        | some a =>
          simp only [eO, true_and, ↓q_sTake, ↓q_sTake0, ↓q_sPick, ↓q_sNumber, rng_1, rng_2, rng_3, rng_4, rng_6, ↓q_dKd, dix_0, dix_1, dix_2, dix_3, dix_4, dix_5, dix_6, dix_7, dix_8, dix_9, Bool.not_false, Bool.not_true, Bool.and_true, Bool.true_and, Bool.and_false, Bool.false_and, decide_eq_true_eq, Bool.not_eq_true', decide_eq_false_iff_not, Bool.false_eq_true, if_true, if_false, ↓q_F0, ↓q_F1, ↓q_F2, ↓q_F3, ↓q_F4, ↓q_F5, ↓q_F6, ↓q_dParO1, ↓q_dParO2, ↓q_dEnumT, ↓q_oRepr, ↓q_dUn, ↓q_oNeg, ↓q_dSeq, ↓q_dRet, ↓q_dRetN, ↓q_dIf, ↓q_dAsg, ↓q_dDrop, ↓q_dBreak, ↓q_dCont, ↓q_dNext, ↓q_dOwn, ↓q_dApp, ↓q_dSetIx, ↓q_dFrz, frz, ↓q_dPar, ↓q_dAug, ↓q_dFor, ↓q_dN, ↓q_dNB, ↓q_dC, ↓q_dOp, ↓q_oI, ↓q_oI0, ↓q_oB, ↓q_oEq, ↓q_oEqS, eqS, ↓q_oIsN, isNo, ↓q_oIx, ↓q_oIx_1, ↓q_oIxS, seqOf, ↓q_oCat, ↓q_oCatT, ↓q_oCatS, ↓q_oIn, ↓q_oInS, ↓q_dTb, ↓q_dAnd, ↓q_dOr, ↓q_dNot, ↓q_dYes, ↓q_dAndV, ↓q_dOrV, ↓q_dNotV, ↓q_dIfV, ↓q_dChain, ↓q_dNil, ↓q_dCons, ↓q_dL, ↓q_dTup, ↓q_dCB, ↓q_oAbs, ↓q_oI2, ↓q_oLen, ↓q_oLenS, ↓q_oInt, ↓q_oInt_1, ↓q_oSum, ↓q_oBs, ↓q_oTupOf, ↓q_dSeqOf, ↓q_dIsi, it_bool_none, it_bool_bool, it_bool_int, it_bool_str, it_bool_list, it_bool_tuple, it_bool_dict, it_int_none, it_int_bool, it_int_int, it_int_str, it_int_list, it_int_tuple, it_int_dict, it_str_none, it_str_bool, it_str_int, it_str_str, it_str_list, it_str_tuple, it_str_dict, it_list_none, it_list_bool, it_list_int, it_list_str, it_list_list, it_list_tuple, it_list_dict, it_tuple_none, it_tuple_bool, it_tuple_int, it_tuple_str, it_tuple_list, it_tuple_tuple, it_tuple_dict, it_dict_none, it_dict_bool, it_dict_int, it_dict_str, it_dict_list, it_dict_tuple, it_dict_dict, ↓q_dNoP, ↓q_dPart, ↓q_dSlT, ↓q_dSlL, ↓q_dSlS, ↓q_dCall, ↓q_dCallS, ↓q_dItL, ↓q_dItT, ↓q_dItS, ↓q_dR1, ↓q_dR2, ↓q_dZip, ↓q_dEnum, ↓q_gN, ↓q_gNi, ↓q_gCo, ↓q_gCo_1, ↓q_gT, ↓q_dLc, ↓q_dDc, ↓q_dK, ↓q_oLenD, ↓q_dCL, ↓q_oRep, ↓q_oRepT, ↓q_dSortSet, ↓q_dSort2, ↓q_sSame, ↓q_oStr, ↓q_oIntS, ↓q_oOrd, ↓q_oMulS, ↓q_dM0, ↓q_dM1, ↓q_sLower, ↓q_sUpper, ↓q_sStarts, ↓q_sEnds, ↓q_dSplit, ↓q_dJoin, ↓q_dFmt, ↓q_dJn, ↓q_dJc, ↓q_dFs, ↓q_dDg, ↓q_dDin, ↓q_dDgx, keyOf, Option.isSome_some, wipeE, eget, eset, List.set, ev0, List.map_cons, List.map_nil, List.cons_append, List.nil_append, List.replicate_succ, List.replicate_zero, noOwn, isOwn, List.all_cons, List.all_nil, List.length_cons, List.length_nil, Bool.true_eq_false, not_false_eq_true, not_true_eq_false]
          exact ⟨by rw [sizeLine_eq]; omega, (n : Int), by rw [e5]; exact e2, by rw [e5]; exact e3, a, n, rfl, rfl, (ho a rfl).1, (ho a rfl).2, ok'.2, hp, hN' _⟩
end
section
variable {P : Program} {w : World} {K : PySem.W.Frag} {mg : Str → Option Value} {base : Heap}
def first : D → Option Nat | .str z => z.cps.toList.head? | _ => none
def wsD (ws : List Wd) : D := .tuple (ws.map fun w => .str (Wd.str w))
structure GL (k : Nat) (r : LR) : Prop where
  sz : LSz r
  nm : isNm r.1 = true
  fst : first r.1 = some (97 + k)
  kd : (leasts r.2.1).isSome = true
  nu : nums r.2.1 r.2.2.1 = true
  ke : keyOk r.2.2.2 = true
  sh : ∃ (z : Str) (ns : List D) (ws : List Wd), r.2.1 = .str z ∧ r.2.2.1 = .tuple ns ∧ 1 ≤ ns.length ∧ ns.length ≤ 3 ∧ r.2.2.2 = wsD ws ∧ ws.length ≤ 7 ∧ ∀ w ∈ ws, w.ok
theorem n_wb : ¬ Str.ofString "window" = Str.ofString "bucket" := by decide +kernel
theorem n_ob : ¬ Str.ofString "open" = Str.ofString "bucket" := by decide +kernel
theorem n_ow : ¬ Str.ofString "open" = Str.ofString "window" := by decide +kernel
theorem n_bw : ¬ Str.ofString "bucket" = Str.ofString "window" := by decide +kernel
theorem n_bo : ¬ Str.ofString "bucket" = Str.ofString "open" := by decide +kernel
theorem n_wo : ¬ Str.ofString "window" = Str.ofString "open" := by decide +kernel
theorem le_b : leasts (.str (Str.ofString "bucket")) = some [0, 1, 0] := by rw [leasts, if_pos rfl]
theorem le_w : leasts (.str (Str.ofString "window")) = some [0, 1] := by rw [leasts, if_neg n_wb, if_pos rfl]
theorem le_o : leasts (.str (Str.ofString "open")) = some [0] := by rw [leasts, if_neg n_ob, if_neg n_ow, if_pos rfl]
theorem nu_b {x y z : D} : nums (.str (Str.ofString "bucket")) (.tuple [x, y, z]) = (whole x 0 1000000 && (whole y 1 1000000 && whole z 0 1000000)) := by
  unfold nums; rw [le_b]; simp
theorem nu_w {x y : D} : nums (.str (Str.ofString "window")) (.tuple [x, y]) = (whole x 0 1000000 && whole y 1 1000000) := by
  unfold nums; rw [le_w]; simp
theorem nu_o {x : D} : nums (.str (Str.ofString "open")) (.tuple [x]) = whole x 0 1000000 := by
  unfold nums; rw [le_o]; simp
theorem wh {n lo hi : Int} (h : lo ≤ n ∧ n ≤ hi) : whole (.int n) lo hi = true := by
  rw [whole, decT h.1, decT h.2]; rfl
theorem ltr : ∀ k < 16, atI (Str.ofString "abcdefghijklmnop").cps.toList ((k : Nat) : Int) = some (97 + k) := by decide +kernel
theorem nmF : ∀ k < 16, ∀ m < 10, isNm (.str (Txt.mul ⟨#[97 + k]⟩ (1 + (m : Nat)))) = true ∧ first (.str (Txt.mul ⟨#[97 + k]⟩ (1 + (m : Nat)))) = some (97 + k) ∧ (Txt.mul ⟨#[97 + k]⟩ (1 + (m : Nat))).length ≤ 10 := by decide +kernel
theorem sel {T : D → Option D → Prop} (hT : ∀ d o, T d o → o = some d ∨ o = none) : ∀ {ds : List D} {os : List (Option D)}, Paired T ds os → (os.filterMap id).length ≤ ds.length ∧ ∀ x ∈ os.filterMap id, x ∈ ds
  | _, _, .nil => ⟨Nat.le_refl _, fun _ h => nomatch h⟩
  | _, _, .cons t r => by
    obtain ⟨h1, h2⟩ := sel hT r
    rcases hT _ _ t with rfl | rfl
    · exact ⟨by simp only [List.filterMap_cons, id, List.length_cons]; omega, fun x hx => by
        simp only [List.filterMap_cons, id, List.mem_cons] at hx
        rcases hx with rfl | hx
        · exact List.mem_cons_self
        · exact List.mem_cons_of_mem _ (h2 x hx)⟩
    · exact ⟨by simp only [List.filterMap_cons, id, List.length_cons]; omega, fun x hx => by
        simp only [List.filterMap_cons, id] at hx
        exact List.mem_cons_of_mem _ (h2 x hx)⟩
theorem ws_of : ∀ {xs : List D}, (∀ x ∈ xs, ∃ w : Wd, w.ok ∧ x = .str w.str) → ∃ ws : List Wd, xs = ws.map (fun w => PyData.str w.str) ∧ ∀ w ∈ ws, w.ok
  | [], _ => ⟨[], rfl, fun _ h => nomatch h⟩
  | x :: r, h => by
    obtain ⟨w, ok, rfl⟩ := h x List.mem_cons_self
    obtain ⟨ws, rfl, hw⟩ := ws_of (xs := r) fun e he => h e (List.mem_cons_of_mem _ he)
    exact ⟨w :: ws, rfl, fun v hv => by
      rcases List.mem_cons.mp hv with rfl | hv
      · exact ok
      · exact hw v hv⟩
theorem bwF : ∀ m < 29, (2 + ((m : Nat) : Int)).natAbs.log2 < 1920 ∧ (Str.ofString "outside ").length + (Str.ofString (toString (2 + ((m : Nat) : Int)))).length ≤ 100 ∧ Str.ofString "outside " ++ Str.ofString (toString (2 + ((m : Nat) : Int))) = bw (m + 2) := by decide +kernel
theorem bw_1 : bw 1 = Str.ofString "outside 1" := by decide +kernel
theorem bw_31 : bw 31 = Str.ofString "outside 31" := by decide +kernel
/-- what is left of a row of words -/
def ddW (ws : List Wd) (i : Nat) : Option Wd := match ws[i]? with | some w => if w.str ∈ (ws.take i).map Wd.str then none else some w | none => none
def dd (ws : List Wd) : List Wd := (List.range ws.length).filterMap (ddW ws)
def ddF (ws : List Wd) (i : Nat) : Option D := (ddW ws i).map fun w => .str w.str
theorem dd_eq {ws : List Wd} : (List.range ws.length).filterMap (ddF ws) = (dd ws).map fun w => PyData.str w.str := by
  unfold dd
  rw [List.map_filterMap]
  rfl
theorem dd_mem {ws : List Wd} : ∀ w ∈ dd ws, w ∈ ws := fun w hw => by
  obtain ⟨i, _, h⟩ := List.mem_filterMap.mp hw
  unfold ddW at h
  cases e : ws[i]? with
  | none => rw [e] at h; cases h
  | some v =>
    rw [e] at h
    dsimp only at h
    split at h
    · cases h
    · cases h
      exact List.mem_of_getElem? e
theorem dd_len {ws : List Wd} : (dd ws).length ≤ ws.length := by
  have := List.length_filterMap_le (ddW ws) (List.range ws.length)
  rw [List.length_range] at this
  exact this
theorem dd_nd {ws : List Wd} : ((dd ws).map Wd.str).Nodup := by
  unfold dd List.Nodup
  rw [List.pairwise_map, List.pairwise_filterMap]
  refine List.pairwise_lt_range.imp fun {i j} hij x hx y hy e => ?_
  unfold ddW at hx hy
  cases e1 : ws[i]? with
  | none => rw [e1] at hx; cases hx
  | some v =>
    cases e2 : ws[j]? with
    | none => rw [e2] at hy; cases hy
    | some u =>
      rw [e1] at hx
      rw [e2] at hy
      dsimp only at hx hy
      split at hx
      · cases hx
      · split at hy
        · cases hy
        · rename_i c
          cases hx
          cases hy
          refine c (List.mem_map.mpr ⟨x, ?_, e⟩)
          refine List.mem_of_getElem? (i := i) ?_
          rw [List.getElem?_take, if_pos hij, e1]
theorem wd_in {w : Wd} (ok : w.ok) : w.str ∈ WD := by
  unfold WD
  cases w with
  | bit n =>
    refine List.mem_append_right _ (List.mem_map.mpr ⟨n - 1, List.mem_range.mpr ?_, ?_⟩)
    · have := ok.2; omega
    · have := ok.1
      rw [show n - 1 + 1 = n by omega]
      rfl
  | out => exact List.mem_append_left _ List.mem_cons_self
  | ins => exact List.mem_append_left _ (List.mem_cons_of_mem _ List.mem_cons_self)
  | srv => exact List.mem_append_left _ (List.mem_cons_of_mem _ (List.mem_cons_of_mem _ List.mem_cons_self))
  | knd => exact List.mem_append_left _ (List.mem_cons_of_mem _ (List.mem_cons_of_mem _ (List.mem_cons_of_mem _ List.mem_cons_self)))
theorem key_good {ws : List Wd} (ok : ∀ w ∈ ws, w.ok) (nd : (ws.map Wd.str).Nodup) : keyOk (wsD ws) = true := by
  rw [wsD, keyOk]
  have h1 : (ws.map fun w => PyData.str w.str).all isW = true := List.all_eq_true.mpr fun d hd => by
    obtain ⟨w, hw, rfl⟩ := List.mem_map.mp hd
    unfold isW
    rw [inD_strs]
    exact decide_eq_true (wd_in (ok w hw))
  rw [h1, Bool.true_and, decide_eq_true_eq, List.map_map]
  have e : (keyOf ∘ fun w : Wd => PyData.str w.str) = fun w => some (.inr w.str) := rfl
  rw [e]
  unfold List.Nodup at nd ⊢
  rw [List.pairwise_map] at nd ⊢
  exact nd.imp fun h z => h (Sum.inr.inj (Option.some.inj z))
theorem dd_good {k : Nat} {z kz : Str} {ns : List D} {ws : List Wd} (z1 : isNm (.str z) = true) (z2 : first (.str z) = some (97 + k)) (z3 : z.length ≤ 10) (hkz : kz = Str.ofString "bucket" ∨ kz = Str.ofString "window" ∨ kz = Str.ofString "open")
    (n1 : nums (.str kz) (.tuple ns) = true) (n2 : 1 ≤ ns.length) (n3 : ns.length ≤ 3) (ok : ∀ w ∈ ws, w.ok) (l3 : ws.length ≤ 7) : GL k (.str z, .str kz, .tuple ns, wsD (dd ws)) := by
  have hl := dd_len (ws := ws)
  have ok' : ∀ w ∈ dd ws, w.ok := fun w hw => ok w (dd_mem w hw)
  refine ⟨⟨Nat.le_trans z3 (by decide), rfl, rfl, Nat.le_trans n3 (by decide), ?_, fun d hd => ?_⟩, z1, z2, ?_, n1, key_good ok' dd_nd, ⟨kz, ns, dd ws, rfl, rfl, n2, n3, rfl, by omega, ok'⟩⟩
  · show ((dd ws).map _).length ≤ 1000
    rw [List.length_map]
    omega
  · obtain ⟨w, _, rfl⟩ := List.mem_map.mp hd
    rfl
  · rcases hkz with rfl | rfl | rfl
    · show (leasts (.str _)).isSome = true
      rw [le_b]; rfl
    · show (leasts (.str _)).isSome = true
      rw [le_w]; rfl
    · show (leasts (.str _)).isSome = true
      rw [le_o]; rfl
theorem ok_law_limit (T : Tx K mg w) : FnOk P w K mg base CX0 2 T.ad_law_limit T.fd_law_limit ["state", "k"] (spS K (F1 fun a Q => ∃ k : Nat, a = .int k ∧ k < 16 ∧ ∀ r, GL k r → Q (eL r))) := by
  refine T.d_law_limit.F.ok x_law_limit (fun vs H Q E h => spS_len F1_len h) (fun cdv A outer s H vs Q E hr h => ?_)
  have nd := x_law_limit.nd
  refine ⟨_, (pss_cons (ps_set (i := 2) nd rfl (Or.inl rfl) (pe_op op_mulS (pe_ix ix_str pe_str (pv 1) (fun _ _ => rfl)) (pe_op op_add pe_int (pe_call (ok_law_take T) hr (by rfl) T.d_law_take.g T.d_law_take.F.kp T.d_law_take.b .nil pass0 (pa_cons (pv 0) (pa_cons pe_int pa_nil))))))
        (pss_cons (ps_set (i := 3) nd rfl (Or.inl rfl) (pe_ix ix_seq (pe_lst (pa_cons pe_str (pa_cons pe_str (pa_cons pe_str pa_nil)))) (pe_call (ok_law_take T) hr (by rfl) T.d_law_take.g T.d_law_take.F.kp T.d_law_take.b .nil pass0 (pa_cons (pv 0) (pa_cons pe_int pa_nil))) (fun _ _ => rfl)))
        (pss_cons (ps_set (i := 4) nd rfl (Or.inl rfl) (pe_lst (pa_cons pe_int (pa_cons pe_int (pa_cons pe_int (pa_cons pe_int pa_nil))))))
        (pss_cons (ps_set (i := 5) nd rfl (Or.inl rfl) (pe_tup (pa_cons (pe_ix ix_seq (pv 4) (pe_call (ok_law_take T) hr (by rfl) T.d_law_take.g T.d_law_take.F.kp T.d_law_take.b .nil pass0 (pa_cons (pv 0) (pa_cons pe_int pa_nil))) (fun _ _ => rfl)) (pa_cons (pe_op op_add pe_int (pe_call (ok_law_take T) hr (by rfl) T.d_law_take.g T.d_law_take.F.kp T.d_law_take.b .nil pass0 (pa_cons (pv 0) (pa_cons pe_int pa_nil)))) (pa_cons (pe_ix ix_seq (pv 4) (pe_call (ok_law_take T) hr (by rfl) T.d_law_take.g T.d_law_take.F.kp T.d_law_take.b .nil pass0 (pa_cons (pv 0) (pa_cons pe_int pa_nil))) (fun _ _ => rfl)) pa_nil)))))
        (pss_cons (ps_if (pt_cmpR op_eq (pv 3) pe_str (nomark _)) (pss_one (ps_set (i := 5) nd rfl (Or.inl rfl) (pe_tup (pa_cons (pe_ix ix_seq (pv 4) (pe_call (ok_law_take T) hr (by rfl) T.d_law_take.g T.d_law_take.F.kp T.d_law_take.b .nil pass0 (pa_cons (pv 0) (pa_cons pe_int pa_nil))) (fun _ _ => rfl)) (pa_cons (pe_ix ix_seq (pe_lst (pa_cons pe_int (pa_cons pe_int (pa_cons pe_int pa_nil)))) (pe_call (ok_law_take T) hr (by rfl) T.d_law_take.g T.d_law_take.F.kp T.d_law_take.b .nil pass0 (pa_cons (pv 0) (pa_cons pe_int pa_nil))) (fun _ _ => rfl)) pa_nil))))) pss_nil)
        (pss_cons (ps_if (pt_cmpR op_eq (pv 3) pe_str (nomark _)) (pss_one (ps_set (i := 5) nd rfl (Or.inl rfl) (pe_tup (pa_cons (pe_ix ix_seq (pv 4) (pe_call (ok_law_take T) hr (by rfl) T.d_law_take.g T.d_law_take.F.kp T.d_law_take.b .nil pass0 (pa_cons (pv 0) (pa_cons pe_int pa_nil))) (fun _ _ => rfl)) pa_nil)))) pss_nil)
        (pss_cons (ps_set (i := 6) nd rfl (Or.inl rfl) (pe_lst (pa_cons pe_str (pa_cons pe_str (pa_cons pe_str (pa_cons pe_str (pa_cons pe_str (pa_cons pe_str (pa_cons (pe_op op_add_str pe_str (pe_callTy call_str_int (by rfl) T.b_str (by decide +kernel) (pa_cons (pe_op op_add pe_int (pe_call (ok_law_take T) hr (by rfl) T.d_law_take.g T.d_law_take.F.kp T.d_law_take.b .nil pass0 (pa_cons (pv 0) (pa_cons pe_int pa_nil)))) pa_nil))) pa_nil)))))))))
        (pss_cons (ps_set (i := 7) nd rfl (Or.inr rfl) (pe_lc (own := [("word", 8)]) (g := (gName 8)) rfl nd (pi_list (pv 6)) (blkOk_by (own := [("word", 8)]) (N := Ns_law_limit) (sc := defScope s_law_limit) (by decide +kernel)) (fun _ _ _ _ _ => (pg_name (i := 8) nd rfl (Or.inl rfl))) (fun _ _ _ _ _ => pts_one (pt_cmpR op_eq (pe_call (ok_law_take T) hr (by rfl) T.d_law_take.g T.d_law_take.F.kp T.d_law_take.b .nil pass0 (pa_cons (pv 0) (pa_cons pe_int pa_nil))) pe_int (nomark _))) (fun _ _ _ _ _ => (pv 8))))
        (pss_one (ps_ret (pe_tup (pa_cons (pv 2) (pa_cons (pv 3) (pa_cons (pv 5) (pa_cons (pe_callTy call_tuple_of (by rfl) T.b_tuple (by decide +kernel) (pa_cons (pe_lc (own := [("j", 9)]) (g := (gName 9)) rfl nd (pi_range1 (by rfl) T.b_range (pa_cons (pe_callB call_len_seq (by rfl) T.b_len (by decide +kernel) (pa_cons (pv 7) pa_nil)) pa_nil)) (blkOk_by (own := [("j", 9)]) (N := Ns_law_limit) (sc := defScope s_law_limit) (by decide +kernel)) (fun _ _ _ _ _ => (pg_name (i := 9) nd rfl (Or.inl rfl))) (fun _ _ _ _ _ => pts_one (pt_cmpR op_notIn_seq (pe_ix (r := rIx K) ix_seq (pv 7) (pv 9) (fun _ _ => rfl)) (pe_slice (r := rSlL K) sl_list (pv 7) po_none (po_some (pv 9))) (by rfl))) (fun _ _ _ _ _ => (pe_ix (r := rIx K) ix_seq (pv 7) (pv 9) (fun _ _ => rfl)))) pa_nil)) pa_nil))))))))))))))), fn_state ((rs_seq (rs_asg (ro rv_mulS (RfE.b (ro rv_ixS (RfE.b (rc_str _)) (RfE.b (rn 1)))) (RfE.b (ro rv_add (RfE.b (rc_int _)) (RfE.b (re_callS (raC (rc_int _) raN)))))) (rg_name 2))
        (rs_seq (rs_asg (ro rv_ix (RfE.b (RfF.e (show RfF _ _ (dCL ([PyData.str "bucket", PyData.str "window", PyData.str "open"])) from rf_lst (raC (rc_str _) (raC (rc_str _) (raC (rc_str _) raN)))))) (RfE.b (re_callS (raC (rc_int _) raN)))) (rg_name 3))
        (rs_seq (rs_asg (RfF.e (show RfF _ _ (dCL ([PyData.int 0, PyData.int 1, PyData.int 5, PyData.int 1000000])) from rf_lst (raC (rc_int _) (raC (rc_int _) (raC (rc_int _) (raC (rc_int _) raN)))))) (rg_name 4))
        (rs_seq (rs_asg (re_tup (raC (ro rv_ix (RfE.b (rn 4)) (RfE.b (re_callS (raC (rc_int _) raN)))) (raC (ro rv_add (RfE.b (rc_int _)) (RfE.b (re_callS (raC (rc_int _) raN)))) (raC (ro rv_ix (RfE.b (rn 4)) (RfE.b (re_callS (raC (rc_int _) raN)))) raN)))) (rg_name 5))
        (rs_seq (rs_if (rt_test (ro rv_eq (RfE.b (rn 3)) (RfE.b (rc_str _)))) (rs_asg (re_tup (raC (ro rv_ix (RfE.b (rn 4)) (RfE.b (re_callS (raC (rc_int _) raN)))) (raC (ro rv_ix (RfE.b (RfF.e (show RfF _ _ (dCL ([PyData.int 1, PyData.int 7, PyData.int 1000000])) from rf_lst (raC (rc_int _) (raC (rc_int _) (raC (rc_int _) raN)))))) (RfE.b (re_callS (raC (rc_int _) raN)))) raN))) (rg_name 5)) rs_next)
        (rs_seq (rs_if (rt_test (ro rv_eq (RfE.b (rn 3)) (RfE.b (rc_str _)))) (rs_asg (re_tup (raC (ro rv_ix (RfE.b (rn 4)) (RfE.b (re_callS (raC (rc_int _) raN)))) raN)) (rg_name 5)) rs_next)
        (rs_seq (rs_asg (RfF.e (rf_lst (raC (rc_str _) (raC (rc_str _) (raC (rc_str _) (raC (rc_str _) (raC (rc_str _) (raC (rc_str _) (raC (ro rv_catS (RfE.b (rc_str _)) (RfE.b (re_cb ro_str (rbC (RfE.b (ro rv_add (RfE.b (rc_int _)) (RfE.b (re_callS (raC (rc_int _) raN))))) rbN)))) raN))))))))) (rg_name 6))
        (rs_seq (rs_asg (RfF.e (rf_lc (ri_list (rn 6)) (rg_name 8) (rt_test (ro rv_eq (RfE.b (re_callS (raC (rc_int _) raN))) (RfE.b (rc_int _)))) (rn 8))) (rg_name 7))
        (rs_ret (re_tup (raC (rn 2) (raC (rn 3) (raC (rn 5) (raC (re_cb ro_tupOf (rbC (RfE.b (RfF.e (rf_lc (ri_r1 (rbC (RfE.b (re_cb ro_len (rbC (RfE.b (rn 7)) rbN))) rbN)) (rg_name 9) (rt_test (ro (rv_in true) (RfE.b (ro rv_ix (RfE.b (rn 7)) (RfE.b (rn 9)))) (RfE.b (RfF.e (rf_slL (RfE.b (rn 7)) rp_no (rp_some (rn 9))))))) (ro rv_ix (RfE.b (rn 7)) (RfE.b (rn 9)))))) rbN)) raN))))))))))))))) h (by rw [spS_len F1_len h]; decide) (F1_in fun a0 Qd q => ?_)⟩
  obtain ⟨k, rfl, hk, q⟩ := q
  simp only [ev0, wipeE, eget, eset, List.set, List.map_cons, List.map_nil, List.cons_append, List.nil_append, List.replicate_succ, List.replicate_zero, List.length_cons, List.length_nil]
  refine seq_mid1 (fun e => ∃ z, (isNm (.str z) = true ∧ first (.str z) = some (97 + k) ∧ z.length ≤ 10) ∧ e = [some .st, some (.d (.int (k : Nat))), some (.d (.str z)), none, none, none, none, none, none, none]) (fun N hN => ?_) ?_
  · simp only [true_and, ↓q_sTake, ↓q_sTake0, ↓q_sPick, ↓q_sNumber, rng_1, rng_2, rng_3, rng_4, rng_6, ↓q_dKd, dix_0, dix_1, dix_2, dix_3, dix_4, dix_5, dix_6, dix_7, dix_8, dix_9, Bool.not_false, Bool.not_true, Bool.and_true, Bool.true_and, Bool.and_false, Bool.false_and, decide_eq_true_eq, Bool.not_eq_true', decide_eq_false_iff_not, Bool.false_eq_true, if_true, if_false, ↓q_F0, ↓q_F1, ↓q_F2, ↓q_F3, ↓q_F4, ↓q_F5, ↓q_F6, ↓q_dParO1, ↓q_dParO2, ↓q_dEnumT, ↓q_oRepr, ↓q_dUn, ↓q_oNeg, ↓q_dSeq, ↓q_dRet, ↓q_dRetN, ↓q_dIf, ↓q_dAsg, ↓q_dDrop, ↓q_dBreak, ↓q_dCont, ↓q_dNext, ↓q_dOwn, ↓q_dApp, ↓q_dSetIx, ↓q_dFrz, frz, ↓q_dPar, ↓q_dAug, ↓q_dFor, ↓q_dN, ↓q_dNB, ↓q_dC, ↓q_dOp, ↓q_oI, ↓q_oI0, ↓q_oB, ↓q_oEq, ↓q_oEqS, eqS, ↓q_oIsN, isNo, ↓q_oIx, ↓q_oIx_1, ↓q_oIxS, seqOf, ↓q_oCat, ↓q_oCatT, ↓q_oCatS, ↓q_oIn, ↓q_oInS, ↓q_dTb, ↓q_dAnd, ↓q_dOr, ↓q_dNot, ↓q_dYes, ↓q_dAndV, ↓q_dOrV, ↓q_dNotV, ↓q_dIfV, ↓q_dChain, ↓q_dNil, ↓q_dCons, ↓q_dL, ↓q_dTup, ↓q_dCB, ↓q_oAbs, ↓q_oI2, ↓q_oLen, ↓q_oLenS, ↓q_oInt, ↓q_oInt_1, ↓q_oSum, ↓q_oBs, ↓q_oTupOf, ↓q_dSeqOf, ↓q_dIsi, it_bool_none, it_bool_bool, it_bool_int, it_bool_str, it_bool_list, it_bool_tuple, it_bool_dict, it_int_none, it_int_bool, it_int_int, it_int_str, it_int_list, it_int_tuple, it_int_dict, it_str_none, it_str_bool, it_str_int, it_str_str, it_str_list, it_str_tuple, it_str_dict, it_list_none, it_list_bool, it_list_int, it_list_str, it_list_list, it_list_tuple, it_list_dict, it_tuple_none, it_tuple_bool, it_tuple_int, it_tuple_str, it_tuple_list, it_tuple_tuple, it_tuple_dict, it_dict_none, it_dict_bool, it_dict_int, it_dict_str, it_dict_list, it_dict_tuple, it_dict_dict, ↓q_dNoP, ↓q_dPart, ↓q_dSlT, ↓q_dSlL, ↓q_dSlS, ↓q_dCall, ↓q_dCallS, ↓q_dItL, ↓q_dItT, ↓q_dItS, ↓q_dR1, ↓q_dR2, ↓q_dZip, ↓q_dEnum, ↓q_gN, ↓q_gNi, ↓q_gCo, ↓q_gCo_1, ↓q_gT, ↓q_dLc, ↓q_dDc, ↓q_dK, ↓q_oLenD, ↓q_dCL, ↓q_oRep, ↓q_oRepT, ↓q_dSortSet, ↓q_dSort2, ↓q_sSame, ↓q_oStr, ↓q_oIntS, ↓q_oOrd, ↓q_oMulS, ↓q_dM0, ↓q_dM1, ↓q_sLower, ↓q_sUpper, ↓q_sStarts, ↓q_sEnds, ↓q_dSplit, ↓q_dJoin, ↓q_dFmt, ↓q_dJn, ↓q_dJc, ↓q_dFs, ↓q_dDg, ↓q_dDin, ↓q_dDgx, keyOf, Option.isSome_some, wipeE, eget, eset, List.set, ev0, List.map_cons, List.map_nil, List.cons_append, List.nil_append, List.replicate_succ, List.replicate_zero, noOwn, isOwn, List.all_cons, List.all_nil, List.length_cons, List.length_nil, Bool.true_eq_false, not_false_eq_true, not_true_eq_false]
    refine ⟨by rw [sizeLine_eq]; decide +kernel, _, ltr k hk, by decide, by decide, fun r h0 h1 => ?_⟩
    obtain ⟨m, rfl⟩ := Int.eq_ofNat_of_zero_le h0
    exact ⟨by show (1 : Nat) ≤ 16; decide, ⟨by omega, by omega⟩, hN _ ⟨_, nmF k hk m (by omega), rfl⟩⟩
  rintro env ⟨z, ⟨z1, z2, z3⟩, rfl⟩
  refine seq_mid2 (fun e => ∃ kz, (kz = Str.ofString "bucket" ∨ kz = Str.ofString "window" ∨ kz = Str.ofString "open") ∧ e = [some .st, some (.d (.int (k : Nat))), some (.d (.str z)), some (.d (.str kz)), some (.d (.list [.int 0, .int 1, .int 5, .int 1000000])), none, none, none, none, none]) (fun N hN => ?_) ?_
  · simp only [true_and, ↓q_sTake, ↓q_sTake0, ↓q_sPick, ↓q_sNumber, rng_1, rng_2, rng_3, rng_4, rng_6, ↓q_dKd, dix_0, dix_1, dix_2, dix_3, dix_4, dix_5, dix_6, dix_7, dix_8, dix_9, Bool.not_false, Bool.not_true, Bool.and_true, Bool.true_and, Bool.and_false, Bool.false_and, decide_eq_true_eq, Bool.not_eq_true', decide_eq_false_iff_not, Bool.false_eq_true, if_true, if_false, ↓q_F0, ↓q_F1, ↓q_F2, ↓q_F3, ↓q_F4, ↓q_F5, ↓q_F6, ↓q_dParO1, ↓q_dParO2, ↓q_dEnumT, ↓q_oRepr, ↓q_dUn, ↓q_oNeg, ↓q_dSeq, ↓q_dRet, ↓q_dRetN, ↓q_dIf, ↓q_dAsg, ↓q_dDrop, ↓q_dBreak, ↓q_dCont, ↓q_dNext, ↓q_dOwn, ↓q_dApp, ↓q_dSetIx, ↓q_dFrz, frz, ↓q_dPar, ↓q_dAug, ↓q_dFor, ↓q_dN, ↓q_dNB, ↓q_dC, ↓q_dOp, ↓q_oI, ↓q_oI0, ↓q_oB, ↓q_oEq, ↓q_oEqS, eqS, ↓q_oIsN, isNo, ↓q_oIx, ↓q_oIx_1, ↓q_oIxS, seqOf, ↓q_oCat, ↓q_oCatT, ↓q_oCatS, ↓q_oIn, ↓q_oInS, ↓q_dTb, ↓q_dAnd, ↓q_dOr, ↓q_dNot, ↓q_dYes, ↓q_dAndV, ↓q_dOrV, ↓q_dNotV, ↓q_dIfV, ↓q_dChain, ↓q_dNil, ↓q_dCons, ↓q_dL, ↓q_dTup, ↓q_dCB, ↓q_oAbs, ↓q_oI2, ↓q_oLen, ↓q_oLenS, ↓q_oInt, ↓q_oInt_1, ↓q_oSum, ↓q_oBs, ↓q_oTupOf, ↓q_dSeqOf, ↓q_dIsi, it_bool_none, it_bool_bool, it_bool_int, it_bool_str, it_bool_list, it_bool_tuple, it_bool_dict, it_int_none, it_int_bool, it_int_int, it_int_str, it_int_list, it_int_tuple, it_int_dict, it_str_none, it_str_bool, it_str_int, it_str_str, it_str_list, it_str_tuple, it_str_dict, it_list_none, it_list_bool, it_list_int, it_list_str, it_list_list, it_list_tuple, it_list_dict, it_tuple_none, it_tuple_bool, it_tuple_int, it_tuple_str, it_tuple_list, it_tuple_tuple, it_tuple_dict, it_dict_none, it_dict_bool, it_dict_int, it_dict_str, it_dict_list, it_dict_tuple, it_dict_dict, ↓q_dNoP, ↓q_dPart, ↓q_dSlT, ↓q_dSlL, ↓q_dSlS, ↓q_dCall, ↓q_dCallS, ↓q_dItL, ↓q_dItT, ↓q_dItS, ↓q_dR1, ↓q_dR2, ↓q_dZip, ↓q_dEnum, ↓q_gN, ↓q_gNi, ↓q_gCo, ↓q_gCo_1, ↓q_gT, ↓q_dLc, ↓q_dDc, ↓q_dK, ↓q_oLenD, ↓q_dCL, ↓q_oRep, ↓q_oRepT, ↓q_dSortSet, ↓q_dSort2, ↓q_sSame, ↓q_oStr, ↓q_oIntS, ↓q_oOrd, ↓q_oMulS, ↓q_dM0, ↓q_dM1, ↓q_sLower, ↓q_sUpper, ↓q_sStarts, ↓q_sEnds, ↓q_dSplit, ↓q_dJoin, ↓q_dFmt, ↓q_dJn, ↓q_dJc, ↓q_dFs, ↓q_dDg, ↓q_dDin, ↓q_dDgx, keyOf, Option.isSome_some, wipeE, eget, eset, List.set, ev0, List.map_cons, List.map_nil, List.cons_append, List.nil_append, List.replicate_succ, List.replicate_zero, noOwn, isOwn, List.all_cons, List.all_nil, List.length_cons, List.length_nil, Bool.true_eq_false, not_false_eq_true, not_true_eq_false]
    refine ⟨by decide, by decide, fun r h0 h1 => dix_all (ds := KD) h0 h1 fun d hd => ?_⟩
    unfold KD at hd
    simp only [List.mem_cons, List.not_mem_nil, or_false] at hd
    rcases hd with rfl | rfl | rfl
    · exact hN _ ⟨_, .inl rfl, rfl⟩
    · exact hN _ ⟨_, .inr (.inl rfl), rfl⟩
    · exact hN _ ⟨_, .inr (.inr rfl), rfl⟩
  rintro env ⟨kz, hkz, rfl⟩
  refine seq_mid3 (fun e => ∃ ns, (nums (.str kz) (.tuple ns) = true ∧ 1 ≤ ns.length ∧ ns.length ≤ 3) ∧ e = [some .st, some (.d (.int (k : Nat))), some (.d (.str z)), some (.d (.str kz)), some (.d (.list [.int 0, .int 1, .int 5, .int 1000000])), some (.d (.tuple ns)), none, none, none, none]) (fun N hN => ?_) ?_
  · simp only [true_and, ↓q_sTake, ↓q_sTake0, ↓q_sPick, ↓q_sNumber, rng_1, rng_2, rng_3, rng_4, rng_6, ↓q_dKd, dix_0, dix_1, dix_2, dix_3, dix_4, dix_5, dix_6, dix_7, dix_8, dix_9, Bool.not_false, Bool.not_true, Bool.and_true, Bool.true_and, Bool.and_false, Bool.false_and, decide_eq_true_eq, Bool.not_eq_true', decide_eq_false_iff_not, Bool.false_eq_true, if_true, if_false, ↓q_F0, ↓q_F1, ↓q_F2, ↓q_F3, ↓q_F4, ↓q_F5, ↓q_F6, ↓q_dParO1, ↓q_dParO2, ↓q_dEnumT, ↓q_oRepr, ↓q_dUn, ↓q_oNeg, ↓q_dSeq, ↓q_dRet, ↓q_dRetN, ↓q_dIf, ↓q_dAsg, ↓q_dDrop, ↓q_dBreak, ↓q_dCont, ↓q_dNext, ↓q_dOwn, ↓q_dApp, ↓q_dSetIx, ↓q_dFrz, frz, ↓q_dPar, ↓q_dAug, ↓q_dFor, ↓q_dN, ↓q_dNB, ↓q_dC, ↓q_dOp, ↓q_oI, ↓q_oI0, ↓q_oB, ↓q_oEq, ↓q_oEqS, eqS, ↓q_oIsN, isNo, ↓q_oIx, ↓q_oIx_1, ↓q_oIxS, seqOf, ↓q_oCat, ↓q_oCatT, ↓q_oCatS, ↓q_oIn, ↓q_oInS, ↓q_dTb, ↓q_dAnd, ↓q_dOr, ↓q_dNot, ↓q_dYes, ↓q_dAndV, ↓q_dOrV, ↓q_dNotV, ↓q_dIfV, ↓q_dChain, ↓q_dNil, ↓q_dCons, ↓q_dL, ↓q_dTup, ↓q_dCB, ↓q_oAbs, ↓q_oI2, ↓q_oLen, ↓q_oLenS, ↓q_oInt, ↓q_oInt_1, ↓q_oSum, ↓q_oBs, ↓q_oTupOf, ↓q_dSeqOf, ↓q_dIsi, it_bool_none, it_bool_bool, it_bool_int, it_bool_str, it_bool_list, it_bool_tuple, it_bool_dict, it_int_none, it_int_bool, it_int_int, it_int_str, it_int_list, it_int_tuple, it_int_dict, it_str_none, it_str_bool, it_str_int, it_str_str, it_str_list, it_str_tuple, it_str_dict, it_list_none, it_list_bool, it_list_int, it_list_str, it_list_list, it_list_tuple, it_list_dict, it_tuple_none, it_tuple_bool, it_tuple_int, it_tuple_str, it_tuple_list, it_tuple_tuple, it_tuple_dict, it_dict_none, it_dict_bool, it_dict_int, it_dict_str, it_dict_list, it_dict_tuple, it_dict_dict, ↓q_dNoP, ↓q_dPart, ↓q_dSlT, ↓q_dSlL, ↓q_dSlS, ↓q_dCall, ↓q_dCallS, ↓q_dItL, ↓q_dItT, ↓q_dItS, ↓q_dR1, ↓q_dR2, ↓q_dZip, ↓q_dEnum, ↓q_gN, ↓q_gNi, ↓q_gCo, ↓q_gCo_1, ↓q_gT, ↓q_dLc, ↓q_dDc, ↓q_dK, ↓q_oLenD, ↓q_dCL, ↓q_oRep, ↓q_oRepT, ↓q_dSortSet, ↓q_dSort2, ↓q_sSame, ↓q_oStr, ↓q_oIntS, ↓q_oOrd, ↓q_oMulS, ↓q_dM0, ↓q_dM1, ↓q_sLower, ↓q_sUpper, ↓q_sStarts, ↓q_sEnds, ↓q_dSplit, ↓q_dJoin, ↓q_dFmt, ↓q_dJn, ↓q_dJc, ↓q_dFs, ↓q_dDg, ↓q_dDin, ↓q_dDgx, keyOf, Option.isSome_some, wipeE, eget, eset, List.set, ev0, List.map_cons, List.map_nil, List.cons_append, List.nil_append, List.replicate_succ, List.replicate_zero, noOwn, isOwn, List.all_cons, List.all_nil, List.length_cons, List.length_nil, Bool.true_eq_false, not_false_eq_true, not_true_eq_false]
    have gr : ∀ y ∈ [(0 : Int), 1, 5, 1000000], 0 ≤ y ∧ y ≤ 1000000 := by decide
    refine ⟨by decide, by decide, fun r h0 h1 => dix_ints (ns := [0, 1, 5, 1000000]) h0 h1 fun x hx => ⟨by decide, by decide, fun r2 h2 h3 => ⟨by decide, by decide, fun r4 h4 h5 => dix_ints (ns := [0, 1, 5, 1000000]) h4 h5 fun y hy => ?_⟩⟩⟩
    rcases hkz with rfl | rfl | rfl
    · rw [if_neg n_bw, if_neg n_bo]
      exact hN _ ⟨_, ⟨by rw [nu_b, wh (gr x hx), wh (gr y hy), wh (by omega)]; rfl, Nat.le_of_ble_eq_true rfl, Nat.le_of_ble_eq_true rfl⟩, rfl⟩
    · rw [if_pos rfl]
      refine ⟨by decide, by decide, fun r6 h6 h7 => dix_ints (ns := [0, 1, 5, 1000000]) h6 h7 fun x' hx' => ⟨by decide, by decide, fun r8 h8 h9 => dix_ints (ns := [1, 7, 1000000]) h8 h9 fun y' hy' => ?_⟩⟩
      rw [if_neg n_wo]
      exact hN _ ⟨_, ⟨by rw [nu_w, wh (gr x' hx'), wh ((by decide : ∀ y ∈ [(1 : Int), 7, 1000000], 1 ≤ y ∧ y ≤ 1000000) y' hy')]; rfl, Nat.le_of_ble_eq_true rfl, Nat.le_of_ble_eq_true rfl⟩, rfl⟩
    · rw [if_neg n_ow, if_pos rfl]
      refine ⟨by decide, by decide, fun r6 h6 h7 => dix_ints (ns := [0, 1, 5, 1000000]) h6 h7 fun x' hx' => ?_⟩
      exact hN _ ⟨_, ⟨by rw [nu_o, wh (gr x' hx')], Nat.le_of_ble_eq_true rfl, Nat.le_of_ble_eq_true rfl⟩, rfl⟩
  rintro env ⟨ns, ⟨n1, n2, n3⟩, rfl⟩
  simp only [true_and, ↓q_sTake, ↓q_sTake0, ↓q_sPick, ↓q_sNumber, rng_1, rng_2, rng_3, rng_4, rng_6, ↓q_dKd, dix_0, dix_1, dix_2, dix_3, dix_4, dix_5, dix_6, dix_7, dix_8, dix_9, Bool.not_false, Bool.not_true, Bool.and_true, Bool.true_and, Bool.and_false, Bool.false_and, decide_eq_true_eq, Bool.not_eq_true', decide_eq_false_iff_not, Bool.false_eq_true, if_true, if_false, ↓q_F0, ↓q_F1, ↓q_F2, ↓q_F3, ↓q_F4, ↓q_F5, ↓q_F6, ↓q_dParO1, ↓q_dParO2, ↓q_dEnumT, ↓q_oRepr, ↓q_dUn, ↓q_oNeg, ↓q_dSeq, ↓q_dRet, ↓q_dRetN, ↓q_dIf, ↓q_dAsg, ↓q_dDrop, ↓q_dBreak, ↓q_dCont, ↓q_dNext, ↓q_dOwn, ↓q_dApp, ↓q_dSetIx, ↓q_dFrz, frz, ↓q_dPar, ↓q_dAug, ↓q_dFor, ↓q_dN, ↓q_dNB, ↓q_dC, ↓q_dOp, ↓q_oI, ↓q_oI0, ↓q_oB, ↓q_oEq, ↓q_oEqS, eqS, ↓q_oIsN, isNo, ↓q_oIx, ↓q_oIx_1, ↓q_oIxS, seqOf, ↓q_oCat, ↓q_oCatT, ↓q_oCatS, ↓q_oIn, ↓q_oInS, ↓q_dTb, ↓q_dAnd, ↓q_dOr, ↓q_dNot, ↓q_dYes, ↓q_dAndV, ↓q_dOrV, ↓q_dNotV, ↓q_dIfV, ↓q_dChain, ↓q_dNil, ↓q_dCons, ↓q_dL, ↓q_dTup, ↓q_dCB, ↓q_oAbs, ↓q_oI2, ↓q_oLen, ↓q_oLenS, ↓q_oInt, ↓q_oInt_1, ↓q_oSum, ↓q_oBs, ↓q_oTupOf, ↓q_dSeqOf, ↓q_dIsi, it_bool_none, it_bool_bool, it_bool_int, it_bool_str, it_bool_list, it_bool_tuple, it_bool_dict, it_int_none, it_int_bool, it_int_int, it_int_str, it_int_list, it_int_tuple, it_int_dict, it_str_none, it_str_bool, it_str_int, it_str_str, it_str_list, it_str_tuple, it_str_dict, it_list_none, it_list_bool, it_list_int, it_list_str, it_list_list, it_list_tuple, it_list_dict, it_tuple_none, it_tuple_bool, it_tuple_int, it_tuple_str, it_tuple_list, it_tuple_tuple, it_tuple_dict, it_dict_none, it_dict_bool, it_dict_int, it_dict_str, it_dict_list, it_dict_tuple, it_dict_dict, ↓q_dNoP, ↓q_dPart, ↓q_dSlT, ↓q_dSlL, ↓q_dSlS, ↓q_dCall, ↓q_dCallS, ↓q_dItL, ↓q_dItT, ↓q_dItS, ↓q_dR1, ↓q_dR2, ↓q_dZip, ↓q_dEnum, ↓q_gN, ↓q_gNi, ↓q_gCo, ↓q_gCo_1, ↓q_gT, ↓q_dLc, ↓q_dDc, ↓q_dK, ↓q_oLenD, ↓q_dCL, ↓q_oRep, ↓q_oRepT, ↓q_dSortSet, ↓q_dSort2, ↓q_sSame, ↓q_oStr, ↓q_oIntS, ↓q_oOrd, ↓q_oMulS, ↓q_dM0, ↓q_dM1, ↓q_sLower, ↓q_sUpper, ↓q_sStarts, ↓q_sEnds, ↓q_dSplit, ↓q_dJoin, ↓q_dFmt, ↓q_dJn, ↓q_dJc, ↓q_dFs, ↓q_dDg, ↓q_dDin, ↓q_dDgx, keyOf, Option.isSome_some, wipeE, eget, eset, List.set, ev0, List.map_cons, List.map_nil, List.cons_append, List.nil_append, List.replicate_succ, List.replicate_zero, noOwn, isOwn, List.all_cons, List.all_nil, List.length_cons, List.length_nil, Bool.true_eq_false, not_false_eq_true, not_true_eq_false]
  refine ⟨by decide, by decide, fun r h0 h1 => ?_⟩
  obtain ⟨m, rfl⟩ := Int.eq_ofNat_of_zero_le h0
  obtain ⟨f1, f2, f3⟩ := bwF m (by omega)
  refine ⟨f1, by rw [sizeLine_eq]; omega, by decide, ?_⟩
  rw [f3]
  generalize hwds : [PyData.str (Str.ofString "outside"), PyData.str (Str.ofString "inside"), PyData.str (Str.ofString "service"), PyData.str (Str.ofString "kind"), PyData.str (Str.ofString "outside 1"), PyData.str (Str.ofString "outside 31"), PyData.str (bw (m + 2))] = wds
  refine lc_any (fun d o => o = some d ∨ o = none) (fun d hd R hR => ?_) (fun os hp => ?_)
  · simp only [true_and, ↓q_sTake, ↓q_sTake0, ↓q_sPick, ↓q_sNumber, rng_1, rng_2, rng_3, rng_4, rng_6, ↓q_dKd, dix_0, dix_1, dix_2, dix_3, dix_4, dix_5, dix_6, dix_7, dix_8, dix_9, Bool.not_false, Bool.not_true, Bool.and_true, Bool.true_and, Bool.and_false, Bool.false_and, decide_eq_true_eq, Bool.not_eq_true', decide_eq_false_iff_not, Bool.false_eq_true, if_true, if_false, ↓q_F0, ↓q_F1, ↓q_F2, ↓q_F3, ↓q_F4, ↓q_F5, ↓q_F6, ↓q_dParO1, ↓q_dParO2, ↓q_dEnumT, ↓q_oRepr, ↓q_dUn, ↓q_oNeg, ↓q_dSeq, ↓q_dRet, ↓q_dRetN, ↓q_dIf, ↓q_dAsg, ↓q_dDrop, ↓q_dBreak, ↓q_dCont, ↓q_dNext, ↓q_dOwn, ↓q_dApp, ↓q_dSetIx, ↓q_dFrz, frz, ↓q_dPar, ↓q_dAug, ↓q_dFor, ↓q_dN, ↓q_dNB, ↓q_dC, ↓q_dOp, ↓q_oI, ↓q_oI0, ↓q_oB, ↓q_oEq, ↓q_oEqS, eqS, ↓q_oIsN, isNo, ↓q_oIx, ↓q_oIx_1, ↓q_oIxS, seqOf, ↓q_oCat, ↓q_oCatT, ↓q_oCatS, ↓q_oIn, ↓q_oInS, ↓q_dTb, ↓q_dAnd, ↓q_dOr, ↓q_dNot, ↓q_dYes, ↓q_dAndV, ↓q_dOrV, ↓q_dNotV, ↓q_dIfV, ↓q_dChain, ↓q_dNil, ↓q_dCons, ↓q_dL, ↓q_dTup, ↓q_dCB, ↓q_oAbs, ↓q_oI2, ↓q_oLen, ↓q_oLenS, ↓q_oInt, ↓q_oInt_1, ↓q_oSum, ↓q_oBs, ↓q_oTupOf, ↓q_dSeqOf, ↓q_dIsi, it_bool_none, it_bool_bool, it_bool_int, it_bool_str, it_bool_list, it_bool_tuple, it_bool_dict, it_int_none, it_int_bool, it_int_int, it_int_str, it_int_list, it_int_tuple, it_int_dict, it_str_none, it_str_bool, it_str_int, it_str_str, it_str_list, it_str_tuple, it_str_dict, it_list_none, it_list_bool, it_list_int, it_list_str, it_list_list, it_list_tuple, it_list_dict, it_tuple_none, it_tuple_bool, it_tuple_int, it_tuple_str, it_tuple_list, it_tuple_tuple, it_tuple_dict, it_dict_none, it_dict_bool, it_dict_int, it_dict_str, it_dict_list, it_dict_tuple, it_dict_dict, ↓q_dNoP, ↓q_dPart, ↓q_dSlT, ↓q_dSlL, ↓q_dSlS, ↓q_dCall, ↓q_dCallS, ↓q_dItL, ↓q_dItT, ↓q_dItS, ↓q_dR1, ↓q_dR2, ↓q_dZip, ↓q_dEnum, ↓q_gN, ↓q_gNi, ↓q_gCo, ↓q_gCo_1, ↓q_gT, ↓q_dLc, ↓q_dDc, ↓q_dK, ↓q_oLenD, ↓q_dCL, ↓q_oRep, ↓q_oRepT, ↓q_dSortSet, ↓q_dSort2, ↓q_sSame, ↓q_oStr, ↓q_oIntS, ↓q_oOrd, ↓q_oMulS, ↓q_dM0, ↓q_dM1, ↓q_sLower, ↓q_sUpper, ↓q_sStarts, ↓q_sEnds, ↓q_dSplit, ↓q_dJoin, ↓q_dFmt, ↓q_dJn, ↓q_dJc, ↓q_dFs, ↓q_dDg, ↓q_dDin, ↓q_dDgx, keyOf, Option.isSome_some, wipeE, eget, eset, List.set, ev0, List.map_cons, List.map_nil, List.cons_append, List.nil_append, List.replicate_succ, List.replicate_zero, noOwn, isOwn, List.all_cons, List.all_nil, List.length_cons, List.length_nil, Bool.true_eq_false, not_false_eq_true, not_true_eq_false]
    refine ⟨by decide, by decide, fun r h2 h3 => ?_⟩
    exact ite2 (fun h => hR _ (.inl rfl)) (fun h => hR _ (.inr rfl))
  obtain ⟨l1, l2⟩ := sel (fun _ _ h => h) hp
  obtain ⟨ws, hws, ok⟩ := ws_of (xs := os.filterMap id) fun x hx => by
    have := l2 x hx
    rw [← hwds] at this
    simp only [List.mem_cons, List.not_mem_nil, or_false] at this
    rcases this with rfl | rfl | rfl | rfl | rfl | rfl | rfl
    · exact ⟨.out, trivial, rfl⟩
    · exact ⟨.ins, trivial, rfl⟩
    · exact ⟨.srv, trivial, rfl⟩
    · exact ⟨.knd, trivial, rfl⟩
    · exact ⟨.bit 1, ⟨by decide, by decide⟩, by rw [Wd.str, bw_1]⟩
    · exact ⟨.bit 31, ⟨by decide, by decide⟩, by rw [Wd.str, bw_31]⟩
    · exact ⟨.bit (m + 2), ⟨by omega, by omega⟩, rfl⟩
  rw [hws] at l1 ⊢
  rw [← hwds, List.length_map] at l1
  have l3 : ws.length ≤ 7 := l1
  rw [List.length_map, Int.toNat_natCast, rng_eq]
  refine ⟨by omega, by omega, by rw [List.length_map, List.length_range]; omega, ?_⟩
  refine lc_fun (fun i : Nat => PyData.int (i : Nat)) (ddF ws) (as := List.range ws.length) (fun i hi R hR => ?_) ?_
  · have hi' := List.mem_range.mp hi
    have g1 : ws[i]? = some ws[i] := List.getElem?_eq_getElem (by omega)
    have d1 : dix (ws.map fun w => PyData.str w.str) (i : Int) = some (.str ws[i].str) := dix_map (f := fun w : Wd => PyData.str w.str) (by omega) (by rw [Int.toNat_natCast]; exact g1)
    simp only [true_and, ↓q_sTake, ↓q_sTake0, ↓q_sPick, ↓q_sNumber, rng_1, rng_2, rng_3, rng_4, rng_6, ↓q_dKd, dix_0, dix_1, dix_2, dix_3, dix_4, dix_5, dix_6, dix_7, dix_8, dix_9, Bool.not_false, Bool.not_true, Bool.and_true, Bool.true_and, Bool.and_false, Bool.false_and, decide_eq_true_eq, Bool.not_eq_true', decide_eq_false_iff_not, Bool.false_eq_true, if_true, if_false, ↓q_F0, ↓q_F1, ↓q_F2, ↓q_F3, ↓q_F4, ↓q_F5, ↓q_F6, ↓q_dParO1, ↓q_dParO2, ↓q_dEnumT, ↓q_oRepr, ↓q_dUn, ↓q_oNeg, ↓q_dSeq, ↓q_dRet, ↓q_dRetN, ↓q_dIf, ↓q_dAsg, ↓q_dDrop, ↓q_dBreak, ↓q_dCont, ↓q_dNext, ↓q_dOwn, ↓q_dApp, ↓q_dSetIx, ↓q_dFrz, frz, ↓q_dPar, ↓q_dAug, ↓q_dFor, ↓q_dN, ↓q_dNB, ↓q_dC, ↓q_dOp, ↓q_oI, ↓q_oI0, ↓q_oB, ↓q_oEq, ↓q_oEqS, eqS, ↓q_oIsN, isNo, ↓q_oIx, ↓q_oIx_1, ↓q_oIxS, seqOf, ↓q_oCat, ↓q_oCatT, ↓q_oCatS, ↓q_oIn, ↓q_oInS, ↓q_dTb, ↓q_dAnd, ↓q_dOr, ↓q_dNot, ↓q_dYes, ↓q_dAndV, ↓q_dOrV, ↓q_dNotV, ↓q_dIfV, ↓q_dChain, ↓q_dNil, ↓q_dCons, ↓q_dL, ↓q_dTup, ↓q_dCB, ↓q_oAbs, ↓q_oI2, ↓q_oLen, ↓q_oLenS, ↓q_oInt, ↓q_oInt_1, ↓q_oSum, ↓q_oBs, ↓q_oTupOf, ↓q_dSeqOf, ↓q_dIsi, it_bool_none, it_bool_bool, it_bool_int, it_bool_str, it_bool_list, it_bool_tuple, it_bool_dict, it_int_none, it_int_bool, it_int_int, it_int_str, it_int_list, it_int_tuple, it_int_dict, it_str_none, it_str_bool, it_str_int, it_str_str, it_str_list, it_str_tuple, it_str_dict, it_list_none, it_list_bool, it_list_int, it_list_str, it_list_list, it_list_tuple, it_list_dict, it_tuple_none, it_tuple_bool, it_tuple_int, it_tuple_str, it_tuple_list, it_tuple_tuple, it_tuple_dict, it_dict_none, it_dict_bool, it_dict_int, it_dict_str, it_dict_list, it_dict_tuple, it_dict_dict, ↓q_dNoP, ↓q_dPart, ↓q_dSlT, ↓q_dSlL, ↓q_dSlS, ↓q_dCall, ↓q_dCallS, ↓q_dItL, ↓q_dItT, ↓q_dItS, ↓q_dR1, ↓q_dR2, ↓q_dZip, ↓q_dEnum, ↓q_gN, ↓q_gNi, ↓q_gCo, ↓q_gCo_1, ↓q_gT, ↓q_dLc, ↓q_dDc, ↓q_dK, ↓q_oLenD, ↓q_dCL, ↓q_oRep, ↓q_oRepT, ↓q_dSortSet, ↓q_dSort2, ↓q_sSame, ↓q_oStr, ↓q_oIntS, ↓q_oOrd, ↓q_oMulS, ↓q_dM0, ↓q_dM1, ↓q_sLower, ↓q_sUpper, ↓q_sStarts, ↓q_sEnds, ↓q_dSplit, ↓q_dJoin, ↓q_dFmt, ↓q_dJn, ↓q_dJc, ↓q_dFs, ↓q_dDg, ↓q_dDin, ↓q_dDgx, keyOf, Option.isSome_some, wipeE, eget, eset, List.set, ev0, List.map_cons, List.map_nil, List.cons_append, List.nil_append, List.replicate_succ, List.replicate_zero, noOwn, isOwn, List.all_cons, List.all_nil, List.length_cons, List.length_nil, Bool.true_eq_false, not_false_eq_true, not_true_eq_false, d1]
    have hc : cutD (ws.map fun w => PyData.str w.str) none (some (i : Int)) = ((ws.take i).map Wd.str).map PyData.str := by
      rw [cut_lo _ (show (0 : Int) ≤ (i : Nat) by omega), Int.toNat_natCast, List.map_map, ← List.map_take]
      rfl
    rw [hc, inD_strs]
    refine ⟨rfl, List.all_eq_true.mpr fun d hd => ?_, ?_⟩
    · obtain ⟨n, _, rfl⟩ := List.mem_map.mp hd
      rfl
    · unfold ddF ddW at hR
      rw [g1] at hR
      dsimp only at hR
      by_cases c : ws[i].str ∈ (ws.take i).map Wd.str
      · rw [if_pos c] at hR
        rw [decT c, if_neg (by decide)]
        exact hR
      · rw [if_neg c] at hR
        rw [decide_eq_false c, if_pos rfl]
        exact hR
  rw [dd_eq]
  exact q _ (dd_good z1 z2 z3 hkz n1 n2 n3 ok l3)
end
section
variable {P : Program} {w : World} {K : PySem.W.Frag} {mg : Str → Option Value} {base : Heap}
/-- what is due of a limit with one thing wrong -/
structure Bad (r : LR) (b : LR) (z : Str) : Prop where
  sz : LSz b
  ok : (z = Str.ofString "name" ∧ isNm b.1 = false) ∨ (b.1 = r.1 ∧ ((z = Str.ofString "kind" ∧ leasts b.2.1 = none) ∨
    (b.2.1 = r.2.1 ∧ ((z = Str.ofString "numbers" ∧ nums b.2.1 b.2.2.1 = false) ∨ (b.2.2.1 = r.2.2.1 ∧ z = Str.ofString "key" ∧ keyOk b.2.2.2 = false)))))
def NB : List D := [PyData.str (Str.ofString ""), PyData.str (Str.ofString "abcdefghijk"), PyData.str (Str.ofString "aB"), PyData.str (Str.ofString "a b"), PyData.int 7, PyData.str (Str.ofString "a1"), PyData.none, PyData.str (Str.ofString "a\n")]
theorem nbF : ∀ d ∈ NB, isNm d = false ∧ slen d ≤ 1000 ∧ flatD d = true := by
  unfold NB
  simp only [List.forall_mem_cons]
  exact ⟨by decide +kernel, by decide +kernel, by decide +kernel, by decide +kernel, by decide +kernel, by decide +kernel, by decide +kernel, by decide +kernel, fun _ h => nomatch h⟩
def KB : List D := [PyData.str (Str.ofString "bag"), PyData.str (Str.ofString "Open"), PyData.str (Str.ofString ""), PyData.none]
theorem kbF : ∀ d ∈ KB, leasts d = none ∧ flatD d = true := by
  unfold KB
  simp only [List.forall_mem_cons]
  exact ⟨by decide +kernel, by decide +kernel, by decide +kernel, by decide +kernel, fun _ h => nomatch h⟩
def YB : List D := [PyData.tuple [PyData.str (Str.ofString "no")], PyData.tuple [PyData.str (Str.ofString "outside 0")], PyData.tuple [PyData.str (Str.ofString "outside 32")], PyData.tuple [PyData.str (Str.ofString "outside 07")], PyData.tuple [PyData.str (Str.ofString "outside"), PyData.str (Str.ofString "outside")],
  PyData.list [PyData.str (Str.ofString "outside")], PyData.tuple [PyData.int 7], PyData.tuple [PyData.str (Str.ofString "Outside")], PyData.tuple [PyData.str (Str.ofString "outside -1")], PyData.tuple [PyData.str (Str.ofString "outside 8 ")]]
theorem y_no {z : Str} (h : z ∉ WD) : keyOk (.tuple [.str z]) = false ∧ (unT (.tuple [.str z])).length ≤ 1000 ∧ ∀ w ∈ unT (.tuple [.str z]), flatD w = true := by
  refine ⟨?_, Nat.le_of_ble_eq_true rfl, fun w hw => by rw [unT, List.mem_singleton] at hw; subst hw; rfl⟩
  rw [keyOk, List.all_cons]
  have : isW (.str z) = false := by unfold isW; rw [inD_strs]; exact decide_eq_false h
  rw [this]
  rfl
theorem ybF : ∀ d ∈ YB, keyOk d = false ∧ (unT d).length ≤ 1000 ∧ ∀ w ∈ unT d, flatD w = true := by
  unfold YB
  simp only [List.forall_mem_cons]
  refine ⟨y_no (by decide +kernel), y_no (by decide +kernel), y_no (by decide +kernel), y_no (by decide +kernel), ⟨?_, Nat.le_of_ble_eq_true rfl, fun w hw => ?_⟩, ⟨rfl, Nat.zero_le _, fun _ h => nomatch h⟩, ⟨?_, Nat.le_of_ble_eq_true rfl, fun w hw => ?_⟩, y_no (by decide +kernel), y_no (by decide +kernel), y_no (by decide +kernel), fun _ h => nomatch h⟩
  · rw [keyOk, Bool.and_eq_false_iff]
    refine .inr (decide_eq_false fun h => ?_)
    rw [List.map_cons, List.nodup_cons] at h
    exact h.1 List.mem_cons_self
  · simp only [unT, List.mem_cons, List.not_mem_nil, or_false, or_self] at hw
    subst hw
    rfl
  · rw [keyOk, List.all_cons]
    have : isW (.int 7) = false := inD_no rfl (by simp [isTy]) WD
    rw [this]
    rfl
  · simp only [unT, List.mem_cons, List.not_mem_nil, or_false] at hw
    subst hw
    rfl
theorem lz {z : Str} (h : (leasts (.str z)).isSome = true) : z = Str.ofString "bucket" ∨ z = Str.ofString "window" ∨ z = Str.ofString "open" := by
  by_cases c1 : z = Str.ofString "bucket"
  · exact .inl c1
  by_cases c2 : z = Str.ofString "window"
  · exact .inr (.inl c2)
  by_cases c3 : z = Str.ofString "open"
  · exact .inr (.inr c3)
  rw [leasts, if_neg c1, if_neg c2, if_neg c3] at h
  cases h
theorem nu_len {z : Str} {ns : List D} {ls : List Int} (hl : leasts (.str z) = some ls) (h : nums (.str z) (.tuple ns) = true) : ns.length = ls.length := by
  unfold nums at h
  rw [hl] at h
  simp only [Bool.and_eq_true, decide_eq_true_eq] at h
  exact h.1
theorem nu_ne {z : Str} {ns : List D} {ls : List Int} (hl : leasts (.str z) = some ls) (h : ¬ ns.length = ls.length) : nums (.str z) (.tuple ns) = false := by
  unfold nums
  rw [hl]
  simp only [decide_eq_false h, Bool.false_and]
def GB (ns : List D) : List D := [.tuple (ns ++ [.int 1]), .tuple (ns.take (ns.length - 1)), .list ns, .tuple (.int (-1) :: ns.drop 1), .tuple (.int 1000001 :: ns.drop 1), .tuple (.bool true :: ns.drop 1), .tuple (.str (Str.ofString "1") :: ns.drop 1)]
theorem nu_hd {z : Str} {x : D} {r : List D} {ls : List Int} (hl : leasts (.str z) = some (0 :: ls)) (h : whole x 0 1000000 = false) : nums (.str z) (.tuple (x :: r)) = false := by
  unfold nums
  rw [hl]
  simp only [List.zip_cons_cons, List.all_cons, h, Bool.false_and, Bool.and_false]
theorem gbF {z : Str} {ns : List D} {ls : List Int} (hl : leasts (.str z) = some (0 :: ls)) (h3 : ls.length ≤ 2) (h : nums (.str z) (.tuple ns) = true) : ∀ d ∈ GB ns, nums (.str z) d = false ∧ (unT d).length ≤ 1000 := by
  have hn := nu_len hl h
  rw [List.length_cons] at hn
  unfold GB
  simp only [List.forall_mem_cons]
  have hd : ∀ x : D, (unT (.tuple (x :: ns.drop 1))).length ≤ 1000 := fun x => by rw [unT, List.length_cons, List.length_drop]; omega
  exact ⟨⟨nu_ne hl (by rw [List.length_append, List.length_cons, List.length_cons]; simp; omega), by rw [unT, List.length_append, List.length_singleton]; omega⟩, ⟨nu_ne hl (by rw [List.length_take, List.length_cons]; omega), by rw [unT, List.length_take]; omega⟩,
    ⟨by unfold nums; rw [hl], Nat.zero_le _⟩, ⟨nu_hd hl rfl, hd _⟩, ⟨nu_hd hl rfl, hd _⟩, ⟨nu_hd hl rfl, hd _⟩, ⟨nu_hd hl rfl, hd _⟩, fun _ h => nomatch h⟩
theorem gbF_b {ns : List D} (h : nums (.str (Str.ofString "bucket")) (.tuple ns) = true) : ∀ d ∈ GB ns, nums (.str (Str.ofString "bucket")) d = false ∧ (unT d).length ≤ 1000 := gbF le_b (by decide) h
theorem gbF_w {ns : List D} (h : nums (.str (Str.ofString "window")) (.tuple ns) = true) : ∀ d ∈ GB ns, nums (.str (Str.ofString "window")) d = false ∧ (unT d).length ≤ 1000 := gbF le_w (by decide) h
theorem gbF_o {ns : List D} (h : nums (.str (Str.ofString "open")) (.tuple ns) = true) : ∀ d ∈ GB ns, nums (.str (Str.ofString "open")) d = false ∧ (unT d).length ≤ 1000 := gbF le_o (by decide) h
theorem ok_law_spoilt (T : Tx K mg w) : FnOk P w K mg base CX0 2 T.ad_law_spoilt T.fd_law_spoilt ["state", "row"] (spS K (F1 fun a Q => ∃ (k : Nat) (r : LR), a = eL r ∧ GL k r ∧ ∀ b z, Bad r b z → Q (.tuple [eL b, .str z]))) := by
  refine T.d_law_spoilt.F.ok x_law_spoilt (fun vs H Q E h => spS_len F1_len h) (fun cdv A outer s H vs Q E hr h => ?_)
  have nd := x_law_spoilt.nd
  refine ⟨_, (pss_cons (ps_asg (pv 1) (pg_tup (n := 4) rfl (pgs_cons (pg_name (i := 2) nd rfl (Or.inl rfl)) (pgs_cons (pg_name (i := 3) nd rfl (Or.inl rfl)) (pgs_cons (pg_name (i := 4) nd rfl (Or.inl rfl)) (pgs_cons (pg_name (i := 5) nd rfl (Or.inl rfl)) pgs_nil))))))
        (pss_cons (ps_set (i := 6) nd rfl (Or.inl rfl) (pe_call (ok_law_take T) hr (by rfl) T.d_law_take.g T.d_law_take.F.kp T.d_law_take.b .nil pass0 (pa_cons (pv 0) (pa_cons pe_int pa_nil))))
        (pss_cons (ps_set (i := 7) nd rfl (Or.inl rfl) (pe_ifExp (pt_cmpR op_eq (pe_call (ok_law_take T) hr (by rfl) T.d_law_take.g T.d_law_take.F.kp T.d_law_take.b .nil pass0 (pa_cons (pv 0) (pa_cons pe_int pa_nil))) pe_int (nomark _)) (pe_op op_catA (pv 5) (pe_slice sl_tupA (pv 5) po_none (po_some pe_int))) (pe_tup (pa_cons pe_str pa_nil))))
        (pss_cons (ps_if (pt_cmpR op_eq (pv 6) pe_int (nomark _)) (pss_cons (ps_set (i := 8) nd rfl (Or.inl rfl) (pe_ix ix_seq (pe_lst (pa_cons pe_str (pa_cons pe_str (pa_cons pe_str (pa_cons pe_str (pa_cons pe_int (pa_cons pe_str (pa_cons pe_non (pa_cons pe_str pa_nil))))))))) (pe_call (ok_law_take T) hr (by rfl) T.d_law_take.g T.d_law_take.F.kp T.d_law_take.b .nil pass0 (pa_cons (pv 0) (pa_cons pe_int pa_nil))) (fun _ _ => rfl)))
        (pss_one (ps_ret (pe_tup (pa_cons (pe_tup (pa_cons (pv 8) (pa_cons (pe_ifExp (pt_cmpR op_eq (pe_call (ok_law_take T) hr (by rfl) T.d_law_take.g T.d_law_take.F.kp T.d_law_take.b .nil pass0 (pa_cons (pv 0) (pa_cons pe_int pa_nil))) pe_int (nomark _)) pe_str (pv 3)) (pa_cons (pv 4) (pa_cons (pv 5) pa_nil))))) (pa_cons pe_str pa_nil)))))) pss_nil)
        (pss_cons (ps_if (pt_cmpR op_eq (pv 6) pe_int (nomark _)) (pss_one (ps_ret (pe_tup (pa_cons (pe_tup (pa_cons (pv 2) (pa_cons (pe_ix ix_seq (pe_lst (pa_cons pe_str (pa_cons pe_str (pa_cons pe_str (pa_cons pe_non pa_nil))))) (pe_call (ok_law_take T) hr (by rfl) T.d_law_take.g T.d_law_take.F.kp T.d_law_take.b .nil pass0 (pa_cons (pv 0) (pa_cons pe_int pa_nil))) (fun _ _ => rfl)) (pa_cons (pe_tup pa_nil) (pa_cons (pv 7) pa_nil))))) (pa_cons pe_str pa_nil))))) pss_nil)
        (pss_cons (ps_if (pt_cmpR op_eq (pv 6) pe_int (nomark _)) (pss_cons (ps_set (i := 9) nd rfl (Or.inl rfl) (pe_lst (pa_cons (pe_op op_catA (pv 4) (pe_tup (pa_cons pe_int pa_nil))) (pa_cons (pe_slice sl_tupA (pv 4) po_none (po_some (pe_op op_sub (pe_callB call_len_seq (by rfl) T.b_len (by decide +kernel) (pa_cons (pv 4) pa_nil)) pe_int))) (pa_cons (pe_callTy call_list_of (by rfl) T.b_list (by decide +kernel) (pa_cons (pv 4) pa_nil)) (pa_cons (pe_op op_catA (pe_tup (pa_cons (pe_un un_neg pe_int) pa_nil)) (pe_slice sl_tupA (pv 4) (po_some pe_int) po_none)) (pa_cons (pe_op op_catA (pe_tup (pa_cons pe_int pa_nil)) (pe_slice sl_tupA (pv 4) (po_some pe_int) po_none)) (pa_cons (pe_op op_catA (pe_tup (pa_cons pe_bl pa_nil)) (pe_slice sl_tupA (pv 4) (po_some pe_int) po_none)) (pa_cons (pe_op op_catA (pe_tup (pa_cons pe_str pa_nil)) (pe_slice sl_tupA (pv 4) (po_some pe_int) po_none)) pa_nil)))))))))
        (pss_cons (ps_if (pt_cmpR op_eq (pv 3) pe_str (nomark _)) (pss_one (ps_set (i := 9) nd rfl (Or.inl rfl) (pe_op op_cat (pv 9) (pe_lst (pa_cons (pe_tup (pa_cons pe_int (pa_cons pe_int (pa_cons pe_int pa_nil)))) (pa_cons (pe_tup (pa_cons pe_int (pa_cons pe_int (pa_cons pe_int pa_nil)))) (pa_cons (pe_tup (pa_cons pe_int (pa_cons pe_int (pa_cons (pe_un un_neg pe_int) pa_nil)))) pa_nil))))))) pss_nil)
        (pss_cons (ps_if (pt_cmpR op_eq (pv 3) pe_str (nomark _)) (pss_one (ps_set (i := 9) nd rfl (Or.inl rfl) (pe_op op_cat (pv 9) (pe_lst (pa_cons (pe_tup (pa_cons pe_int (pa_cons pe_int pa_nil))) (pa_cons (pe_tup (pa_cons pe_int (pa_cons pe_int pa_nil))) pa_nil)))))) pss_nil)
        (pss_one (ps_ret (pe_tup (pa_cons (pe_tup (pa_cons (pv 2) (pa_cons (pv 3) (pa_cons (pe_ix ix_seq (pv 9) (pe_call (ok_law_take T) hr (by rfl) T.d_law_take.g T.d_law_take.F.kp T.d_law_take.b .nil pass0 (pa_cons (pv 0) (pa_cons (pe_callB call_len_seq (by rfl) T.b_len (by decide +kernel) (pa_cons (pv 9) pa_nil)) pa_nil))) (fun _ _ => rfl)) (pa_cons (pv 7) pa_nil))))) (pa_cons pe_str pa_nil)))))))) pss_nil)
        (pss_cons (ps_set (i := 8) nd rfl (Or.inl rfl) (pe_lst (pa_cons (pe_tup (pa_cons pe_str pa_nil)) (pa_cons (pe_tup (pa_cons pe_str pa_nil)) (pa_cons (pe_tup (pa_cons pe_str pa_nil)) (pa_cons (pe_tup (pa_cons pe_str pa_nil)) (pa_cons (pe_op op_rep2 (pe_tup (pa_cons pe_str pa_nil)) pe_int) (pa_cons (pe_lst (pa_cons pe_str pa_nil)) (pa_cons (pe_tup (pa_cons pe_int pa_nil)) (pa_cons (pe_tup (pa_cons pe_str pa_nil)) (pa_cons (pe_tup (pa_cons pe_str pa_nil)) (pa_cons (pe_tup (pa_cons pe_str pa_nil)) pa_nil))))))))))))
        (pss_one (ps_ret (pe_tup (pa_cons (pe_tup (pa_cons (pv 2) (pa_cons (pv 3) (pa_cons (pv 4) (pa_cons (pe_ix ix_seq (pv 8) (pe_call (ok_law_take T) hr (by rfl) T.d_law_take.g T.d_law_take.F.kp T.d_law_take.b .nil pass0 (pa_cons (pv 0) (pa_cons (pe_callB call_len_seq (by rfl) T.b_len (by decide +kernel) (pa_cons (pv 8) pa_nil)) pa_nil))) (fun _ _ => rfl)) pa_nil))))) (pa_cons pe_str pa_nil)))))))))))), fn_state ((rs_seq (rs_asg (rn 1) (rg_tup (rg_cons (rg_name 2) (rg_cons (rg_name 3) (rg_cons (rg_name 4) (rg_cons (rg_name 5) rg_nil))))))
        (rs_seq (rs_asg (re_callS (raC (rc_int _) raN)) (rg_name 6))
        (rs_seq (rs_asg (re_if (rt_test (ro rv_eq (RfE.b (re_callS (raC (rc_int _) raN))) (RfE.b (rc_int _)))) (ro rv_catT (RfE.b (rn 5)) (RfE.b (re_slT (RfE.b (rn 5)) rp_no (rp_some (rc_int _))))) (show RfE _ _ (dC (PyData.tuple [PyData.str "no"])) from re_tup (raC (rc_str _) raN))) (rg_name 7))
        (rs_seq (rs_if (rt_test (ro rv_eq (RfE.b (rn 6)) (RfE.b (rc_int _)))) (rs_seq (rs_asg (ro rv_ix (RfE.b (RfF.e (show RfF _ _ (dCL ([PyData.str "", PyData.str "abcdefghijk", PyData.str "aB", PyData.str "a b", PyData.int 7, PyData.str "a1", PyData.none, PyData.str "a\n"])) from rf_lst (raC (rc_str _) (raC (rc_str _) (raC (rc_str _) (raC (rc_str _) (raC (rc_int _) (raC (rc_str _) (raC rc_non (raC (rc_str _) raN))))))))))) (RfE.b (re_callS (raC (rc_int _) raN)))) (rg_name 8))
        (rs_ret (re_tup (raC (re_tup (raC (rn 8) (raC (re_if (rt_test (ro rv_eq (RfE.b (re_callS (raC (rc_int _) raN))) (RfE.b (rc_int _)))) (rc_str _) (rn 3)) (raC (rn 4) (raC (rn 5) raN))))) (raC (rc_str _) raN))))) rs_next)
        (rs_seq (rs_if (rt_test (ro rv_eq (RfE.b (rn 6)) (RfE.b (rc_int _)))) (rs_ret (re_tup (raC (re_tup (raC (rn 2) (raC (ro rv_ix (RfE.b (RfF.e (show RfF _ _ (dCL ([PyData.str "bag", PyData.str "Open", PyData.str "", PyData.none])) from rf_lst (raC (rc_str _) (raC (rc_str _) (raC (rc_str _) (raC rc_non raN))))))) (RfE.b (re_callS (raC (rc_int _) raN)))) (raC (show RfE _ _ (dC (PyData.tuple [])) from re_tup raN) (raC (rn 7) raN))))) (raC (rc_str _) raN)))) rs_next)
        (rs_seq (rs_if (rt_test (ro rv_eq (RfE.b (rn 6)) (RfE.b (rc_int _)))) (rs_seq (rs_asg (RfF.e (rf_lst (raC (ro rv_catT (RfE.b (rn 4)) (RfE.b (show RfE _ _ (dC (PyData.tuple [PyData.int 1])) from re_tup (raC (rc_int _) raN)))) (raC (re_slT (RfE.b (rn 4)) rp_no (rp_some (ro rv_sub (RfE.b (re_cb ro_len (rbC (RfE.b (rn 4)) rbN))) (RfE.b (rc_int _))))) (raC (RfF.e (rf_listOf (RfE.b (rn 4)))) (raC (ro rv_catT (RfE.b (show RfE _ _ (dC (PyData.tuple [PyData.int (-1)])) from re_tup (raC (ru rv_neg (RfE.b (rc_int _))) raN))) (RfE.b (re_slT (RfE.b (rn 4)) (rp_some (rc_int _)) rp_no))) (raC (ro rv_catT (RfE.b (show RfE _ _ (dC (PyData.tuple [PyData.int 1000001])) from re_tup (raC (rc_int _) raN))) (RfE.b (re_slT (RfE.b (rn 4)) (rp_some (rc_int _)) rp_no))) (raC (ro rv_catT (RfE.b (show RfE _ _ (dC (PyData.tuple [PyData.bool true])) from re_tup (raC (rc_bl _) raN))) (RfE.b (re_slT (RfE.b (rn 4)) (rp_some (rc_int _)) rp_no))) (raC (ro rv_catT (RfE.b (show RfE _ _ (dC (PyData.tuple [PyData.str "1"])) from re_tup (raC (rc_str _) raN))) (RfE.b (re_slT (RfE.b (rn 4)) (rp_some (rc_int _)) rp_no))) raN))))))))) (rg_name 9))
        (rs_seq (rs_if (rt_test (ro rv_eq (RfE.b (rn 3)) (RfE.b (rc_str _)))) (rs_asg (ro rv_cat (RfE.b (rn 9)) (RfE.b (RfF.e (show RfF _ _ (dCL ([PyData.tuple [PyData.int 1, PyData.int 0, PyData.int 1], PyData.tuple [PyData.int 1, PyData.int 1, PyData.int 1000001], PyData.tuple [PyData.int 0, PyData.int 1, PyData.int (-1)]])) from rf_lst (raC (show RfE _ _ (dC (PyData.tuple [PyData.int 1, PyData.int 0, PyData.int 1])) from re_tup (raC (rc_int _) (raC (rc_int _) (raC (rc_int _) raN)))) (raC (show RfE _ _ (dC (PyData.tuple [PyData.int 1, PyData.int 1, PyData.int 1000001])) from re_tup (raC (rc_int _) (raC (rc_int _) (raC (rc_int _) raN)))) (raC (show RfE _ _ (dC (PyData.tuple [PyData.int 0, PyData.int 1, PyData.int (-1)])) from re_tup (raC (rc_int _) (raC (rc_int _) (raC (ru rv_neg (RfE.b (rc_int _))) raN)))) raN))))))) (rg_name 9)) rs_next)
        (rs_seq (rs_if (rt_test (ro rv_eq (RfE.b (rn 3)) (RfE.b (rc_str _)))) (rs_asg (ro rv_cat (RfE.b (rn 9)) (RfE.b (RfF.e (show RfF _ _ (dCL ([PyData.tuple [PyData.int 1, PyData.int 0], PyData.tuple [PyData.int 1, PyData.int 1000001]])) from rf_lst (raC (show RfE _ _ (dC (PyData.tuple [PyData.int 1, PyData.int 0])) from re_tup (raC (rc_int _) (raC (rc_int _) raN))) (raC (show RfE _ _ (dC (PyData.tuple [PyData.int 1, PyData.int 1000001])) from re_tup (raC (rc_int _) (raC (rc_int _) raN))) raN)))))) (rg_name 9)) rs_next)
        (rs_ret (re_tup (raC (re_tup (raC (rn 2) (raC (rn 3) (raC (ro rv_ix (RfE.b (rn 9)) (RfE.b (re_callS (raC (re_cb ro_len (rbC (RfE.b (rn 9)) rbN)) raN)))) (raC (rn 7) raN))))) (raC (rc_str _) raN))))))) rs_next)
        (rs_seq (rs_asg (RfF.e (rf_lst (raC (show RfE _ _ (dC (PyData.tuple [PyData.str "no"])) from re_tup (raC (rc_str _) raN)) (raC (show RfE _ _ (dC (PyData.tuple [PyData.str "outside 0"])) from re_tup (raC (rc_str _) raN)) (raC (show RfE _ _ (dC (PyData.tuple [PyData.str "outside 32"])) from re_tup (raC (rc_str _) raN)) (raC (show RfE _ _ (dC (PyData.tuple [PyData.str "outside 07"])) from re_tup (raC (rc_str _) raN)) (raC (ro rv_repT (RfE.b (show RfE _ _ (dC (PyData.tuple [PyData.str "outside"])) from re_tup (raC (rc_str _) raN))) (RfE.b (rc_int _))) (raC (RfF.e (show RfF _ _ (dCL ([PyData.str "outside"])) from rf_lst (raC (rc_str _) raN))) (raC (show RfE _ _ (dC (PyData.tuple [PyData.int 7])) from re_tup (raC (rc_int _) raN)) (raC (show RfE _ _ (dC (PyData.tuple [PyData.str "Outside"])) from re_tup (raC (rc_str _) raN)) (raC (show RfE _ _ (dC (PyData.tuple [PyData.str "outside -1"])) from re_tup (raC (rc_str _) raN)) (raC (show RfE _ _ (dC (PyData.tuple [PyData.str "outside 8 "])) from re_tup (raC (rc_str _) raN)) raN)))))))))))) (rg_name 8))
        (rs_ret (re_tup (raC (re_tup (raC (rn 2) (raC (rn 3) (raC (rn 4) (raC (ro rv_ix (RfE.b (rn 8)) (RfE.b (re_callS (raC (re_cb ro_len (rbC (RfE.b (rn 8)) rbN)) raN)))) raN))))) (raC (rc_str _) raN)))))))))))) h (by rw [spS_len F1_len h]; decide) (F1_in fun a0 Qd q => ?_)⟩
  obtain ⟨k, ⟨nm, kd, nn, kk⟩, rfl, g, q⟩ := q
  obtain ⟨z, ns, ws, h1, h2, h3, h4, h5, h6, h7⟩ := g.sh
  dsimp only at h1 h2 h5
  subst h1 h2 h5
  simp only [eL, ev0, wipeE, eget, eset, List.set, List.map_cons, List.map_nil, List.cons_append, List.nil_append, List.replicate_succ, List.replicate_zero, List.length_cons, List.length_nil]
  refine seq_mid3 (fun e => ∃ (what : Int) (later : List D), (0 ≤ what ∧ what < 5 ∧ later.length ≤ 20 ∧ ∀ d ∈ later, flatD d = true) ∧ e = [some .st, some (.d (.tuple [nm, .str z, .tuple ns, wsD ws])), some (.d nm), some (.d (.str z)), some (.d (.tuple ns)), some (.d (wsD ws)), some (.d (.int what)), some (.d (.tuple later)), none, none]) (fun N hN => ?_) ?_
  · simp only [wsD, true_and, ↓q_sTake, ↓q_sTake0, ↓q_sPick, ↓q_sNumber, rng_1, rng_2, rng_3, rng_4, rng_6, ↓q_dKd, dix_0, dix_1, dix_2, dix_3, dix_4, dix_5, dix_6, dix_7, dix_8, dix_9, Bool.not_false, Bool.not_true, Bool.and_true, Bool.true_and, Bool.and_false, Bool.false_and, decide_eq_true_eq, Bool.not_eq_true', decide_eq_false_iff_not, Bool.false_eq_true, if_true, if_false, ↓q_F0, ↓q_F1, ↓q_F2, ↓q_F3, ↓q_F4, ↓q_F5, ↓q_F6, ↓q_dParO1, ↓q_dParO2, ↓q_dEnumT, ↓q_oRepr, ↓q_dUn, ↓q_oNeg, ↓q_dSeq, ↓q_dRet, ↓q_dRetN, ↓q_dIf, ↓q_dAsg, ↓q_dDrop, ↓q_dBreak, ↓q_dCont, ↓q_dNext, ↓q_dOwn, ↓q_dApp, ↓q_dSetIx, ↓q_dFrz, frz, ↓q_dPar, ↓q_dAug, ↓q_dFor, ↓q_dN, ↓q_dNB, ↓q_dC, ↓q_dOp, ↓q_oI, ↓q_oI0, ↓q_oB, ↓q_oEq, ↓q_oEqS, eqS, ↓q_oIsN, isNo, ↓q_oIx, ↓q_oIx_1, ↓q_oIxS, seqOf, ↓q_oCat, ↓q_oCatT, ↓q_oCatS, ↓q_oIn, ↓q_oInS, ↓q_dTb, ↓q_dAnd, ↓q_dOr, ↓q_dNot, ↓q_dYes, ↓q_dAndV, ↓q_dOrV, ↓q_dNotV, ↓q_dIfV, ↓q_dChain, ↓q_dNil, ↓q_dCons, ↓q_dL, ↓q_dTup, ↓q_dCB, ↓q_oAbs, ↓q_oI2, ↓q_oLen, ↓q_oLenS, ↓q_oInt, ↓q_oInt_1, ↓q_oSum, ↓q_oBs, ↓q_oTupOf, ↓q_dSeqOf, ↓q_dIsi, it_bool_none, it_bool_bool, it_bool_int, it_bool_str, it_bool_list, it_bool_tuple, it_bool_dict, it_int_none, it_int_bool, it_int_int, it_int_str, it_int_list, it_int_tuple, it_int_dict, it_str_none, it_str_bool, it_str_int, it_str_str, it_str_list, it_str_tuple, it_str_dict, it_list_none, it_list_bool, it_list_int, it_list_str, it_list_list, it_list_tuple, it_list_dict, it_tuple_none, it_tuple_bool, it_tuple_int, it_tuple_str, it_tuple_list, it_tuple_tuple, it_tuple_dict, it_dict_none, it_dict_bool, it_dict_int, it_dict_str, it_dict_list, it_dict_tuple, it_dict_dict, ↓q_dNoP, ↓q_dPart, ↓q_dSlT, ↓q_dSlL, ↓q_dSlS, ↓q_dCall, ↓q_dCallS, ↓q_dItL, ↓q_dItT, ↓q_dItS, ↓q_dR1, ↓q_dR2, ↓q_dZip, ↓q_dEnum, ↓q_gN, ↓q_gNi, ↓q_gCo, ↓q_gCo_1, ↓q_gT, ↓q_dLc, ↓q_dDc, ↓q_dK, ↓q_oLenD, ↓q_dCL, ↓q_oRep, ↓q_oRepT, ↓q_dSortSet, ↓q_dSort2, ↓q_sSame, ↓q_oStr, ↓q_oIntS, ↓q_oOrd, ↓q_oMulS, ↓q_dM0, ↓q_dM1, ↓q_sLower, ↓q_sUpper, ↓q_sStarts, ↓q_sEnds, ↓q_dSplit, ↓q_dJoin, ↓q_dFmt, ↓q_dJn, ↓q_dJc, ↓q_dFs, ↓q_dDg, ↓q_dDin, ↓q_dDgx, keyOf, Option.isSome_some, wipeE, eget, eset, List.set, ev0, List.map_cons, List.map_nil, List.cons_append, List.nil_append, List.replicate_succ, List.replicate_zero, noOwn, isOwn, List.all_cons, List.all_nil, List.length_cons, List.length_nil, Bool.true_eq_false, not_false_eq_true, not_true_eq_false]
    refine ⟨by decide, by decide, fun r h0 h1 => ⟨by decide, by decide, fun r2 h2 h3 => ite2 (fun h => ⟨?_, ?_⟩) (fun h => ?_)⟩⟩
    · rw [cut_lo _ (show (0 : Int) ≤ 1 by decide), sizeLine_eq, List.length_take, List.length_map]
      omega
    · rw [cut_lo _ (show (0 : Int) ≤ 1 by decide)]
      refine hN _ ⟨r, _, ⟨h0, h1, by rw [List.length_append, List.length_take, List.length_map]; omega, fun d hd => ?_⟩, rfl⟩
      have : d ∈ ws.map fun w => PyData.str w.str := (List.mem_append.mp hd).elim id List.mem_of_mem_take
      obtain ⟨w, _, rfl⟩ := List.mem_map.mp this
      rfl
    · exact hN _ ⟨r, _, ⟨h0, h1, Nat.le_of_ble_eq_true rfl, fun d hd => by rw [List.mem_singleton] at hd; subst hd; rfl⟩, rfl⟩
  rintro env ⟨what, later, ⟨w1, w2, w3, w4⟩, rfl⟩
  simp only [true_and, ↓q_sTake, ↓q_sTake0, ↓q_sPick, ↓q_sNumber, rng_1, rng_2, rng_3, rng_4, rng_6, ↓q_dKd, dix_0, dix_1, dix_2, dix_3, dix_4, dix_5, dix_6, dix_7, dix_8, dix_9, Bool.not_false, Bool.not_true, Bool.and_true, Bool.true_and, Bool.and_false, Bool.false_and, decide_eq_true_eq, Bool.not_eq_true', decide_eq_false_iff_not, Bool.false_eq_true, if_true, if_false, ↓q_F0, ↓q_F1, ↓q_F2, ↓q_F3, ↓q_F4, ↓q_F5, ↓q_F6, ↓q_dParO1, ↓q_dParO2, ↓q_dEnumT, ↓q_oRepr, ↓q_dUn, ↓q_oNeg, ↓q_dSeq, ↓q_dRet, ↓q_dRetN, ↓q_dIf, ↓q_dAsg, ↓q_dDrop, ↓q_dBreak, ↓q_dCont, ↓q_dNext, ↓q_dOwn, ↓q_dApp, ↓q_dSetIx, ↓q_dFrz, frz, ↓q_dPar, ↓q_dAug, ↓q_dFor, ↓q_dN, ↓q_dNB, ↓q_dC, ↓q_dOp, ↓q_oI, ↓q_oI0, ↓q_oB, ↓q_oEq, ↓q_oEqS, eqS, ↓q_oIsN, isNo, ↓q_oIx, ↓q_oIx_1, ↓q_oIxS, seqOf, ↓q_oCat, ↓q_oCatT, ↓q_oCatS, ↓q_oIn, ↓q_oInS, ↓q_dTb, ↓q_dAnd, ↓q_dOr, ↓q_dNot, ↓q_dYes, ↓q_dAndV, ↓q_dOrV, ↓q_dNotV, ↓q_dIfV, ↓q_dChain, ↓q_dNil, ↓q_dCons, ↓q_dL, ↓q_dTup, ↓q_dCB, ↓q_oAbs, ↓q_oI2, ↓q_oLen, ↓q_oLenS, ↓q_oInt, ↓q_oInt_1, ↓q_oSum, ↓q_oBs, ↓q_oTupOf, ↓q_dSeqOf, ↓q_dIsi, it_bool_none, it_bool_bool, it_bool_int, it_bool_str, it_bool_list, it_bool_tuple, it_bool_dict, it_int_none, it_int_bool, it_int_int, it_int_str, it_int_list, it_int_tuple, it_int_dict, it_str_none, it_str_bool, it_str_int, it_str_str, it_str_list, it_str_tuple, it_str_dict, it_list_none, it_list_bool, it_list_int, it_list_str, it_list_list, it_list_tuple, it_list_dict, it_tuple_none, it_tuple_bool, it_tuple_int, it_tuple_str, it_tuple_list, it_tuple_tuple, it_tuple_dict, it_dict_none, it_dict_bool, it_dict_int, it_dict_str, it_dict_list, it_dict_tuple, it_dict_dict, ↓q_dNoP, ↓q_dPart, ↓q_dSlT, ↓q_dSlL, ↓q_dSlS, ↓q_dCall, ↓q_dCallS, ↓q_dItL, ↓q_dItT, ↓q_dItS, ↓q_dR1, ↓q_dR2, ↓q_dZip, ↓q_dEnum, ↓q_gN, ↓q_gNi, ↓q_gCo, ↓q_gCo_1, ↓q_gT, ↓q_dLc, ↓q_dDc, ↓q_dK, ↓q_oLenD, ↓q_dCL, ↓q_oRep, ↓q_oRepT, ↓q_dSortSet, ↓q_dSort2, ↓q_sSame, ↓q_oStr, ↓q_oIntS, ↓q_oOrd, ↓q_oMulS, ↓q_dM0, ↓q_dM1, ↓q_sLower, ↓q_sUpper, ↓q_sStarts, ↓q_sEnds, ↓q_dSplit, ↓q_dJoin, ↓q_dFmt, ↓q_dJn, ↓q_dJc, ↓q_dFs, ↓q_dDg, ↓q_dDin, ↓q_dDgx, keyOf, Option.isSome_some, wipeE, eget, eset, List.set, ev0, List.map_cons, List.map_nil, List.cons_append, List.nil_append, List.replicate_succ, List.replicate_zero, noOwn, isOwn, List.all_cons, List.all_nil, List.length_cons, List.length_nil, Bool.true_eq_false, not_false_eq_true, not_true_eq_false]
  refine ite2 (fun h => ?_) (fun _ => ite2 (fun h => ?_) (fun _ => ite2 (fun h => ?_) (fun _ => ?_)))
  · refine ⟨by decide, by decide, fun r h0 h1 => dix_all (ds := NB) h0 h1 fun d hd => ⟨by decide, by decide, fun r2 h2 h3 => ?_⟩⟩
    obtain ⟨n1, n2, n3⟩ := nbF d hd
    refine ite2 (fun h => ?_) (fun h => ?_)
    · exact q (d, .str (Str.ofString "bag"), .tuple ns, wsD ws) _ ⟨⟨n2, n3, rfl, g.sz.2.2.2.1, g.sz.2.2.2.2⟩, .inl ⟨rfl, n1⟩⟩
    · exact q (d, .str z, .tuple ns, wsD ws) _ ⟨⟨n2, n3, rfl, g.sz.2.2.2.1, g.sz.2.2.2.2⟩, .inl ⟨rfl, n1⟩⟩
  · refine ⟨by decide, by decide, fun r h0 h1 => dix_all (ds := KB) h0 h1 fun d hd => ?_⟩
    obtain ⟨n1, n2⟩ := kbF d hd
    exact q (nm, d, .tuple [], .tuple later) _ ⟨⟨g.sz.1, g.sz.2.1, n2, Nat.zero_le _, Nat.le_trans w3 (by decide), w4⟩, .inr ⟨rfl, .inl ⟨rfl, n1⟩⟩⟩
  · have hq2 : ∀ d : D, (nums (.str z) d = false ∧ (unT d).length ≤ 1000) → Qd (.tuple [.tuple [nm, .str z, d, .tuple later], .str (Str.ofString "numbers")]) := fun d h1 => q (nm, .str z, d, .tuple later) _ ⟨⟨g.sz.1, g.sz.2.1, rfl, h1.2, Nat.le_trans w3 (by decide), w4⟩, .inr ⟨rfl, .inr ⟨rfl, .inl ⟨rfl, h1.1⟩⟩⟩⟩
    have hc1 : cutD ns (some 1) none = ns.drop 1 := cut_hi _ (show (0 : Int) ≤ 1 by decide)
    have hc2 : cutD ns none (some ((ns.length : Int) - 1)) = ns.take (ns.length - 1) := by
      rw [cut_lo _ (show (0 : Int) ≤ (ns.length : Int) - 1 by omega)]
      rw [show ((ns.length : Int) - 1).toNat = ns.length - 1 by omega]
    rw [hc1, hc2]
    have hdl : (ns.drop 1).length ≤ 3 := by rw [List.length_drop]; omega
    refine ⟨by rw [sizeLine_eq]; omega, by rw [sizeLine_eq]; omega, by rw [sizeLine_eq]; omega, by rw [sizeLine_eq]; omega, by rw [sizeLine_eq]; omega, ?_⟩
    rcases lz g.kd with rfl | rfl | rfl
    · rw [if_pos rfl, if_neg n_bw]
      refine ⟨by rw [sizeLine_eq]; decide, by decide, by decide, fun r h0 h1 => dix_all (ds := GB ns ++ [PyData.tuple [.int 1, .int 0, .int 1], PyData.tuple [.int 1, .int 1, .int 1000001], PyData.tuple [.int 0, .int 1, .int (-1)]]) h0 h1 fun d hd => hq2 d ?_⟩
      rcases List.mem_append.mp hd with hd | hd
      · exact gbF_b g.nu d hd
      · simp only [List.mem_cons, List.not_mem_nil, or_false] at hd
        rcases hd with rfl | rfl | rfl <;> exact ⟨by rw [nu_b]; rfl, Nat.le_of_ble_eq_true rfl⟩
    · rw [if_neg n_wb, if_pos rfl]
      refine ⟨by rw [sizeLine_eq]; decide, by decide, by decide, fun r h0 h1 => dix_all (ds := GB ns ++ [PyData.tuple [.int 1, .int 0], PyData.tuple [.int 1, .int 1000001]]) h0 h1 fun d hd => hq2 d ?_⟩
      rcases List.mem_append.mp hd with hd | hd
      · exact gbF_w g.nu d hd
      · simp only [List.mem_cons, List.not_mem_nil, or_false] at hd
        rcases hd with rfl | rfl <;> exact ⟨by rw [nu_w]; rfl, Nat.le_of_ble_eq_true rfl⟩
    · rw [if_neg n_ob, if_neg n_ow]
      exact ⟨by decide, by decide, fun r h0 h1 => dix_all (ds := GB ns) h0 h1 fun d hd => hq2 d (gbF_o g.nu d hd)⟩
  · refine ⟨(fun h => nomatch h), ⟨by decide, by decide⟩, by decide, by decide, by decide, fun r h0 h1 => dix_all (ds := YB) h0 h1 fun d hd => ?_⟩
    obtain ⟨n1, n2, n3⟩ := ybF d hd
    exact q (nm, .str z, .tuple ns, d) _ ⟨⟨g.sz.1, g.sz.2.1, rfl, g.sz.2.2.2.1, n2, n3⟩, .inr ⟨rfl, .inr ⟨rfl, .inr ⟨rfl, rfl, n1⟩⟩⟩⟩
end
section
variable {P : Program} {w : World} {K : PySem.W.Frag} {mg : Str → Option Value} {base : Heap}
theorem isNm_str {d : D} (h : isNm d = true) : ∃ z, d = .str z := by
  cases d with
  | str z => exact ⟨z, rfl⟩
  | _ => cases h
theorem eqv_strs {a z : Str} : PyData.eqv (.str a) (.str z) = decide (a = z) := by
  show (a == z) = decide (a = z)
  rw [Bool.eq_iff_iff, beq_iff_eq, decide_eq_true_eq]
theorem Bad.zok {r b : LR} {z : Str} (h : Bad r b z) : (PyData.strOk z && decide (z.cps.size ≤ 40)) = true := by
  rcases h.ok with ⟨rfl, _⟩ | ⟨_, ⟨rfl, _⟩ | ⟨_, ⟨rfl, _⟩ | ⟨_, rfl, _⟩⟩⟩ <;> decide +kernel
/-- the rows so far -/
def GR (rs : List LR) : Prop := ∀ i r, rs[i]? = some r → GL i r
theorem nm_new {rs : List LR} (g : GR rs) {i : Nat} {r : LR} (gr : GL i r) (hi : i ≤ rs.length) : inD r.1 ((rs.take i).map (·.1)) = false := by
  obtain ⟨z, hz⟩ := isNm_str gr.nm
  rw [hz]
  unfold inD
  rw [List.any_eq_false]
  intro d hd
  obtain ⟨r', hr', rfl⟩ := List.mem_map.mp hd
  obtain ⟨j, hj⟩ := List.mem_iff_getElem?.mp hr'
  rw [List.getElem?_take] at hj
  split at hj
  · rename_i c
    have g' := g j r' hj
    obtain ⟨a, ha⟩ := isNm_str g'.nm
    rw [ha, eqv_strs, decide_eq_true_eq]
    intro e
    have f1 := g'.fst
    have f2 := gr.fst
    rw [ha, e, ← hz, f2] at f1
    have := Option.some.inj f1
    omega
  · cases hj
theorem fw_good {rs' : List LR} {i : Nat} {r : LR} (gr : GL i r) (hn : inD r.1 ((rs'.take i).map (·.1)) = false) : fwL rs' i r = .none := by
  unfold fwL fw
  rw [gr.nm, hn, gr.kd, gr.nu, gr.ke]
  rfl
theorem fw_bad {rs' : List LR} {i : Nat} {r b : LR} {z : Str} (gr : GL i r) (hb : Bad r b z) (hn : inD r.1 ((rs'.take i).map (·.1)) = false) : fwL rs' i b = .str z := by
  unfold fwL fw
  rcases hb.ok with ⟨rfl, h1⟩ | ⟨h1, ⟨rfl, h2⟩ | ⟨h2, ⟨rfl, h3⟩ | ⟨h3, rfl, h4⟩⟩⟩
  · rw [h1]; rfl
  · rw [h1, gr.nm, hn, h2]; rfl
  · rw [h3, h1, gr.nm, hn, h2, gr.kd]; rfl
  · rw [h4, h3, h2, h1, gr.nm, hn, gr.kd, gr.nu]; rfl
theorem fw_twice {rs' : List LR} {i : Nat} {n k ns ks : D} (h : isNm n = true) (hn : inD n ((rs'.take i).map (·.1)) = true) : fwL rs' i (n, k, ns, ks) = .str (Str.ofString "twice") := by
  unfold fwL fw
  dsimp only
  rw [h, hn]
  rfl
theorem flt_skip {rs' : List LR} : ∀ (pre us : List LR) (k : Nat), (∀ j r, pre[j]? = some r → fwL rs' (k + j) r = .none) → fltG rs' k (pre ++ us) = fltG rs' (k + pre.length) us
  | [], us, k, _ => rfl
  | p :: pre, us, k, h => by
    have h0 := h 0 p rfl
    rw [Nat.add_zero] at h0
    rw [List.cons_append, fltG, h0, if_pos (show isNo .none = true from rfl), flt_skip pre us (k + 1) fun j r hj => by
      have := h (j + 1) r hj
      rw [show k + 1 + j = k + (j + 1) by omega]
      exact this]
    rw [List.length_cons, show k + 1 + pre.length = k + (pre.length + 1) by omega]
theorem flt_none {rs : List LR} (g : GR rs) (hl : rs.length ≤ 16) : flt rs = .none := by
  unfold flt
  rw [if_neg (by omega)]
  have := flt_skip (rs' := rs) rs [] 0 fun j r hj => by
    rw [Nat.zero_add]
    have := (List.getElem?_eq_some_iff.mp hj).1
    exact fw_good (g j r hj) (nm_new g (g j r hj) (by omega))
  rw [List.append_nil] at this
  rw [this]
  rfl
/-- the rows with one thing wrong at a place -/
theorem flt_spoilt {rs ex : List LR} {at' : Nat} {b : LR} {z : Str} (g : GR rs) (ha : at' < rs.length) (hl : (rs.take at' ++ b :: ex).length ≤ 16) (hw : fwL (rs.take at' ++ b :: ex) at' b = .str z) :
    flt (rs.take at' ++ b :: ex) = .tuple [.int (at' : Nat), .str z] := by
  have ht : (rs.take at').length = at' := by rw [List.length_take]; omega
  have tk : ∀ j ≤ at', (rs.take at' ++ b :: ex).take j = rs.take j := fun j hj => by
    rw [List.take_append_of_le_length (by omega), List.take_take, Nat.min_eq_left hj]
  unfold flt
  rw [if_neg (by omega)]
  rw [flt_skip (rs' := rs.take at' ++ b :: ex) (rs.take at') (b :: ex) 0 fun j r hj => by
    rw [List.getElem?_take] at hj
    split at hj
    · rename_i c
      rw [Nat.zero_add]
      refine fw_good (g j r hj) ?_
      rw [tk j (by omega)]
      exact nm_new g (g j r hj) (by omega)
    · cases hj]
  rw [Nat.zero_add, ht, fltG, hw, if_neg (fun h => nomatch h)]
theorem rows_of : ∀ {as : List Nat} {os : List (Option D)}, Paired (fun d o => ∃ (k : Nat) (r : LR), d = .int k ∧ GL k r ∧ o = some (eL r)) (as.map fun i => PyData.int (i : Nat)) os → ∃ rs : List LR, os.filterMap id = rs.map eL ∧ rs.length = as.length ∧ ∀ (i k : Nat) (r : LR), as[i]? = some k → rs[i]? = some r → GL k r
  | [], _, .nil => ⟨[], rfl, rfl, fun _ _ _ h => nomatch h⟩
  | a :: as, _, .cons t p => by
    obtain ⟨rs, h1, h2, h3⟩ := rows_of p
    obtain ⟨k, r, e, gr, rfl⟩ := t
    cases e
    refine ⟨r :: rs, by rw [List.filterMap_cons]; simp only [id]; rw [h1]; rfl, by rw [List.length_cons, List.length_cons, h2], fun i k' r' e1 e2 => ?_⟩
    cases i with
    | zero =>
      rw [List.getElem?_cons_zero] at e1 e2
      cases e1
      cases e2
      exact gr
    | succ i => exact h3 i k' r' (by rw [List.getElem?_cons_succ] at e1; exact e1) (by rw [List.getElem?_cons_succ] at e2; exact e2)
theorem ok2 {n : Int} {z : Str} (h0 : 0 ≤ n) (h1 : n ≤ 100) (hz : (PyData.strOk z && decide (z.cps.size ≤ 40)) = true) : okD (.tuple [.int n, .str z]) = true :=
  (sT (k := 0) (w := 40) (n := 2) (szc (sI (by omega) (by omega)) (szc (sS hz) szn)) (Nat.le_of_ble_eq_true rfl) : Sz _ 1 200).ok
def mnN (i : Nat) : Str := if ((i : Nat) : Int) < 10 then Txt.mul (Str.ofString "a") ((i : Nat) + 1) else Txt.mul (Str.ofString "b") ((i : Nat) - 9)
def mnR (i : Nat) : LR := (.str (mnN i), .str (Str.ofString "open"), .tuple [.int 1], .tuple [])
def MN : List LR := (List.range 17).map mnR
theorem mn_sz : ∀ r ∈ MN, LSz r := fun r hr => by
  obtain ⟨i, hi, rfl⟩ := List.mem_map.mp hr
  have hi' := List.mem_range.mp hi
  have : ∀ i < 17, (mnN i).length ≤ 1000 := by decide +kernel
  exact ⟨this i hi', rfl, rfl, Nat.le_of_ble_eq_true rfl, Nat.zero_le _, fun _ h => nomatch h⟩
theorem mn_17 : flt MN = .tuple [.int 16, .str (Str.ofString "limits")] := by
  unfold flt
  rw [if_pos (by decide)]
theorem isNo_n {d : D} (h : isNo d = true) : d = .none := by
  cases d with
  | none => rfl
  | _ => cases h
theorem mn_16 : flt (MN.take 16) = .none := isNo_n (by decide +kernel)
def KI : List D := [PyData.str (Str.ofString "udp"), PyData.str (Str.ofString "tcp"), PyData.str (Str.ofString "echo"), PyData.str (Str.ofString "request")]
theorem kiF : ∀ k ∈ KI, ∃ z, k = .str z ∧ (PyData.strOk z && decide (z.cps.size ≤ 40)) = true := by
  unfold KI
  simp only [List.forall_mem_cons]
  exact ⟨⟨_, rfl, by decide +kernel⟩, ⟨_, rfl, by decide +kernel⟩, ⟨_, rfl, by decide +kernel⟩, ⟨_, rfl, by decide +kernel⟩, fun _ h => nomatch h⟩
def XW : List Wd := [.bit 1, .bit 31, .bit 8, .knd, .out]
def XR : LR := (.str (Str.ofString "a"), .str (Str.ofString "open"), .tuple [.int 1], wsD XW)
theorem bw_8 : bw 8 = Str.ofString "outside 8" := by decide +kernel
theorem xw_ok : ∀ w ∈ XW, w.ok := by
  unfold XW
  simp only [List.forall_mem_cons]
  exact ⟨⟨by decide, by decide⟩, ⟨by decide, by decide⟩, ⟨by decide, by decide⟩, trivial, trivial, fun _ h => nomatch h⟩
theorem xr_eq {rs : List LR} : rs.map eL ++ [PyData.tuple [PyData.str (Str.ofString "a"), PyData.str (Str.ofString "open"), PyData.tuple [PyData.int 1], PyData.tuple [PyData.str (Str.ofString "outside 1"), PyData.str (Str.ofString "outside 31"), PyData.str (Str.ofString "outside 8"), PyData.str (Str.ofString "kind"), PyData.str (Str.ofString "outside")]]] = (rs ++ [XR]).map eL := by
  rw [← bw_1, ← bw_31, ← bw_8, List.map_append]
  rfl
def KG (u : LR) : Prop := ∃ (x0 x1 x2 : D) (ws : List Wd), eL u = .tuple [x0, x1, x2, .tuple (ws.map fun w => .str w.str)] ∧ ws.length ≤ 7 ∧ ∀ w ∈ ws, w.ok
theorem told_ok {k : D} {o : Option Int} {i s : D} {ws : List Wd} (hk : ∃ z, k = .str z ∧ (PyData.strOk z && decide (z.cps.size ≤ 40)) = true) (ho : ∀ x, o = some x → 0 ≤ x ∧ x < 2 ^ 32) (hi : i = .none ∨ i = .int 5) (hs : s = .none ∨ s = .str (Str.ofString "web")) (hl : ws.length ≤ 7) : okD (.tuple (ws.map (told k o i s))) = true := by
  refine (sT (k := 0) (w := 40) (n := 7) (fun d hd => ?_) (by rw [List.length_map]; exact hl) : Sz _ 1 400).ok
  obtain ⟨w, _, rfl⟩ := List.mem_map.mp hd
  have hO : Sz (eO o) 0 40 := by
    cases o with
    | none => exact sNo
    | some x => have := ho x rfl; exact sI (by omega) (by omega)
  cases w with
  | out => exact hO
  | ins =>
    show Sz i 0 40
    rcases hi with rfl | rfl <;> first | exact sNo | exact sI (by decide) (by decide)
  | srv =>
    show Sz s 0 40
    rcases hs with rfl | rfl <;> first | exact sNo | exact sS (by decide +kernel)
  | knd =>
    obtain ⟨z, rfl, hz⟩ := hk
    exact sS hz (k := 0) (w := 40)
  | bit n =>
    cases o with
    | none => exact sNo
    | some x =>
      have := ho x rfl
      have h1 : 0 ≤ x / 2 ^ (32 - n) := Int.ediv_nonneg this.1 (Int.le_of_lt (Int.pow_pos (by decide)))
      have h2 : x / 2 ^ (32 - n) ≤ x := Int.ediv_le_self _ this.1
      exact sI (by omega) (by omega)
def NL : List (D × Bool) := [(PyData.str (Str.ofString "a"), true), (PyData.str (Str.ofString "abcdefghij"), true), (PyData.str (Str.ofString "abcdefghijk"), false), (PyData.str (Str.ofString ""), false), (PyData.str (Str.ofString "Ab"), false), (PyData.str (Str.ofString "z9"), false), (PyData.none, false), (PyData.str (Str.ofString "a "), false)]
theorem nlF : ∀ p ∈ NL, isNm p.1 = p.2 ∧ slen p.1 ≤ 1000 := by
  unfold NL
  simp only [List.forall_mem_cons]
  exact ⟨by decide +kernel, by decide +kernel, by decide +kernel, by decide +kernel, by decide +kernel, by decide +kernel, by decide +kernel, by decide +kernel, fun _ h => nomatch h⟩
theorem ok_law (T : Tx K mg w) : FnG P w K mg base 5 T.ad_law T.fd_law ["script"] (spLaw K) := by
  refine okG T.d_law.F x_law (fun vs H Q E h => spLaw_len h) (fun cdv A outer s H vs Q E hr gd h => ?_)
  have nd := x_law.nd
  refine ⟨_, (pss_cons (ps_set (i := 1) nd rfl (Or.inr rfl) (pe_call (ok_law_state T) (hr.mono (by decide)) (by rfl) T.d_law_state.g T.d_law_state.F.kp T.d_law_state.b .nil pass0 (pa_cons (pv 0) pa_nil)))
        (pss_cons (ps_setLc (i := 2) (own := [("k", 13)]) (g := (gName 13)) rfl nd rfl rfl (sw_true rfl rfl rfl (by decide +kernel)) (pi_range1 (by rfl) T.b_range (pa_cons (pe_call (ok_law_take T) (hr.mono (by decide)) (by rfl) T.d_law_take.g T.d_law_take.F.kp T.d_law_take.b .nil pass0 (pa_cons (pv 1) (pa_cons pe_int pa_nil))) pa_nil)) (blkOk_by (own := [("k", 13)]) (N := Ns_law) (sc := defScope s_law) (by decide +kernel)) (fun _ _ _ _ _ => (pg_name (i := 13) nd rfl (Or.inl rfl))) (fun _ _ _ _ _ => pts_nil) (fun _ _ _ _ _ => (pe_call (ok_law_limit T) (hr.mono (by decide)) (by rfl) T.d_law_limit.g T.d_law_limit.F.kp T.d_law_limit.b .nil pass0 (pa_cons (pv 1) (pa_cons (pv 13) pa_nil)))))
        (pss_cons (ps_if (pt_cmpR op_notN (pe_call (ok_fault_of_limits T) hr (by rfl) T.d_fault_of_limits.g T.d_fault_of_limits.F.kp T.d_fault_of_limits.b .nil pass0 (pa_cons (pe_callTy call_tuple_of (by rfl) T.b_tuple (by decide +kernel) (pa_cons (pv 2) pa_nil)) pa_nil)) pe_non (nomark _)) (pss_one (ps_ret pe_bl)) pss_nil)
        (pss_cons (ps_set (i := 3) nd rfl (Or.inl rfl) (pe_callTy call_tuple_of (by rfl) T.b_tuple (by decide +kernel) (pa_cons (pe_lc (own := [("k", 13)]) (g := (gName 13)) rfl nd (pi_range1 (by rfl) T.b_range (pa_cons pe_int pa_nil)) (blkOk_by (own := [("k", 13)]) (N := Ns_law) (sc := defScope s_law) (by decide +kernel)) (fun _ _ _ _ _ => (pg_name (i := 13) nd rfl (Or.inl rfl))) (fun _ _ _ _ _ => pts_nil) (fun _ _ _ _ _ => (pe_tup (pa_cons (pe_ifExp (pt_cmpR op_lt (pv 13) pe_int (nomark _)) (pe_op op_mulS pe_str (pe_op op_add (pv 13) pe_int)) (pe_op op_mulS pe_str (pe_op op_sub (pv 13) pe_int))) (pa_cons pe_str (pa_cons (pe_tup (pa_cons pe_int pa_nil)) (pa_cons (pe_tup pa_nil) pa_nil))))))) pa_nil)))
        (pss_cons (ps_if (PW.pt (pw_or (pt_cmpR (op_neD hr.units) (pe_call (ok_fault_of_limits T) hr (by rfl) T.d_fault_of_limits.g T.d_fault_of_limits.F.kp T.d_fault_of_limits.b .nil pass0 (pa_cons (pv 3) pa_nil)) (pe_tup (pa_cons pe_int (pa_cons pe_str pa_nil))) (nomark _)) (pw_or1 (pt_cmpR op_notN (pe_call (ok_fault_of_limits T) hr (by rfl) T.d_fault_of_limits.g T.d_fault_of_limits.F.kp T.d_fault_of_limits.b .nil pass0 (pa_cons (pe_slice sl_tupA (pv 3) po_none (po_some pe_int)) pa_nil)) pe_non (nomark _))))) (pss_one (ps_ret pe_bl)) pss_nil)
        (pss_cons (ps_for PassesOwn.never rfl (pi_range1 (by rfl) T.b_range (pa_cons pe_int pa_nil)) (pg_name (i := 4) nd rfl (Or.inl rfl)) (pss_one (ps_if (pt_cmpR op_gt (pe_callB call_len_seq (by rfl) T.b_len (by decide +kernel) (pa_cons (pv 2) pa_nil)) pe_int (nomark _)) (pss_cons (ps_set (i := 5) nd rfl (Or.inl rfl) (pe_call (ok_law_take T) (hr.mono (by decide)) (by rfl) T.d_law_take.g T.d_law_take.F.kp T.d_law_take.b .nil pass0 (pa_cons (pv 1) (pa_cons (pe_callB call_len_seq (by rfl) T.b_len (by decide +kernel) (pa_cons (pv 2) pa_nil)) pa_nil))))
        (pss_cons (ps_asg (pe_call (ok_law_spoilt T) (hr.mono (by decide)) (by rfl) T.d_law_spoilt.g T.d_law_spoilt.F.kp T.d_law_spoilt.b .nil pass0 (pa_cons (pv 1) (pa_cons (pe_ix ix_seq (pv 2) (pv 5) (fun _ _ => rfl)) pa_nil))) (pg_tup (n := 2) rfl (pgs_cons (pg_name (i := 6) nd rfl (Or.inl rfl)) (pgs_cons (pg_name (i := 7) nd rfl (Or.inl rfl)) pgs_nil))))
        (pss_cons (ps_if (PW.pt (pw_and (pt_cmpR op_gt (pv 5) pe_int (nomark _)) (pw_and1 (pt_cmpR op_eq (pe_call (ok_law_take T) (hr.mono (by decide)) (by rfl) T.d_law_take.g T.d_law_take.F.kp T.d_law_take.b .nil pass0 (pa_cons (pv 1) (pa_cons pe_int pa_nil))) pe_int (nomark _))))) (pss_one (ps_par (i := 6) (j := 7) (by rfl) nd rfl rfl (by decide) rfl rfl (pa_cons (pe_tup (pa_cons (pe_ix ix_seq (pe_ix ix_seq (pv 2) (pe_call (ok_law_take T) (hr.mono (by decide)) (by rfl) T.d_law_take.g T.d_law_take.F.kp T.d_law_take.b .nil pass0 (pa_cons (pv 1) (pa_cons (pv 5) pa_nil))) (fun _ _ => rfl)) pe_int (fun _ _ => rfl)) (pa_cons pe_str (pa_cons (pe_tup pa_nil) (pa_cons (pe_tup pa_nil) pa_nil))))) (pa_cons pe_str pa_nil)) (by rfl))) pss_nil)
        (pss_cons (ps_set (i := 8) nd rfl (Or.inl rfl) (pe_op op_cat (pe_op op_cat (pe_slice sl_list (pv 2) po_none (po_some (pv 5))) (pe_lst (pa_cons (pv 6) pa_nil))) (pe_slice sl_list (pv 2) (po_some (pe_op op_add (pv 5) pe_int)) po_none)))
        (pss_cons (ps_if (pt_cmpR op_eq (pe_call (ok_law_take T) (hr.mono (by decide)) (by rfl) T.d_law_take.g T.d_law_take.F.kp T.d_law_take.b .nil pass0 (pa_cons (pv 1) (pa_cons pe_int pa_nil))) pe_int (nomark _)) (pss_one (ps_set (i := 8) nd rfl (Or.inl rfl) (pe_op op_cat (pv 8) (pe_op op_rep (pe_lst (pa_cons (pe_tup (pa_cons pe_str (pa_cons pe_str (pa_cons (pe_tup pa_nil) (pa_cons (pe_tup pa_nil) pa_nil))))) pa_nil)) (pe_callTy call_int1 (by rfl) T.b_int (by decide +kernel) (pa_cons (pe_cmpR op_lt (pe_callB call_len_seq (by rfl) T.b_len (by decide +kernel) (pa_cons (pv 8) pa_nil)) pe_int (nomark _)) pa_nil)))))) pss_nil)
        (pss_one (ps_if (PW.pt (pw_or (pt_cmpR (op_neD hr.units) (pe_call (ok_fault_of_limits T) hr (by rfl) T.d_fault_of_limits.g T.d_fault_of_limits.F.kp T.d_fault_of_limits.b .nil pass0 (pa_cons (pe_callTy call_tuple_of (by rfl) T.b_tuple (by decide +kernel) (pa_cons (pv 8) pa_nil)) pa_nil)) (pe_tup (pa_cons (pv 5) (pa_cons (pv 7) pa_nil))) (nomark _)) (pw_or1 (pt_cmpR op_notN (pe_call (ok_fault_of_limits T) hr (by rfl) T.d_fault_of_limits.g T.d_fault_of_limits.F.kp T.d_fault_of_limits.b .nil pass0 (pa_cons (pe_callTy call_tuple_of (by rfl) T.b_tuple (by decide +kernel) (pa_cons (pv 2) pa_nil)) pa_nil)) pe_non (nomark _))))) (pss_one (ps_ret pe_bl)) pss_nil))))))) pss_nil)))
        (pss_cons (ps_set (i := 9) nd rfl (Or.inl rfl) (pe_ix ix_seq (pe_lst (pa_cons pe_int (pa_cons pe_int (pa_cons (pe_call (ok_law_take T) (hr.mono (by decide)) (by rfl) T.d_law_take.g T.d_law_take.F.kp T.d_law_take.b .nil pass0 (pa_cons (pv 1) (pa_cons pe_int pa_nil))) pa_nil)))) (pe_call (ok_law_take T) (hr.mono (by decide)) (by rfl) T.d_law_take.g T.d_law_take.F.kp T.d_law_take.b .nil pass0 (pa_cons (pv 1) (pa_cons pe_int pa_nil))) (fun _ _ => rfl)))
        (pss_cons (ps_set (i := 10) nd rfl (Or.inl rfl) (pe_tup (pa_cons (pe_ix ix_seq (pe_lst (pa_cons pe_str (pa_cons pe_str (pa_cons pe_str (pa_cons pe_str pa_nil))))) (pe_call (ok_law_take T) (hr.mono (by decide)) (by rfl) T.d_law_take.g T.d_law_take.F.kp T.d_law_take.b .nil pass0 (pa_cons (pv 1) (pa_cons pe_int pa_nil))) (fun _ _ => rfl)) (pa_cons (pe_ix ix_seq (pe_lst (pa_cons pe_non (pa_cons (pv 9) (pa_cons (pv 9) pa_nil)))) (pe_call (ok_law_take T) (hr.mono (by decide)) (by rfl) T.d_law_take.g T.d_law_take.F.kp T.d_law_take.b .nil pass0 (pa_cons (pv 1) (pa_cons pe_int pa_nil))) (fun _ _ => rfl)) (pa_cons (pe_ix ix_seq (pe_lst (pa_cons pe_non (pa_cons pe_int pa_nil))) (pe_call (ok_law_take T) (hr.mono (by decide)) (by rfl) T.d_law_take.g T.d_law_take.F.kp T.d_law_take.b .nil pass0 (pa_cons (pv 1) (pa_cons pe_int pa_nil))) (fun _ _ => rfl)) (pa_cons (pe_ix ix_seq (pe_lst (pa_cons pe_non (pa_cons pe_str pa_nil))) (pe_call (ok_law_take T) (hr.mono (by decide)) (by rfl) T.d_law_take.g T.d_law_take.F.kp T.d_law_take.b .nil pass0 (pa_cons (pv 1) (pa_cons pe_int pa_nil))) (fun _ _ => rfl)) pa_nil))))))
        (pss_cons (ps_for PassesOwn.never rfl (pi_list (pe_op op_cat (pv 2) (pe_lst (pa_cons (pe_tup (pa_cons pe_str (pa_cons pe_str (pa_cons (pe_tup (pa_cons pe_int pa_nil)) (pa_cons (pe_tup (pa_cons pe_str (pa_cons pe_str (pa_cons pe_str (pa_cons pe_str (pa_cons pe_str pa_nil)))))) pa_nil))))) pa_nil)))) (pg_name (i := 11) nd rfl (Or.inl rfl)) (pss_one (ps_if (PW.pt (pw_or (pt_cmpR (op_neD hr.units) (pe_call (ok_key_of T) (hr.mono (by decide)) (by rfl) T.d_key_of.g T.d_key_of.F.kp T.d_key_of.b .nil pass0 (pa_cons (pv 11) (pa_cons (pv 10) pa_nil))) (pe_call (ok_law_key T) (hr.mono (by decide)) (by rfl) T.d_law_key.g T.d_law_key.F.kp T.d_law_key.b .nil pass0 (pa_cons (pv 11) (pa_cons (pv 10) pa_nil))) (nomark _)) (pw_or1 (pt_not (pt_val (pe_callB call_isi (by rfl) T.b_isinstance (by decide +kernel) (pa_cons (pe_call (ok_key_of T) (hr.mono (by decide)) (by rfl) T.d_key_of.g T.d_key_of.F.kp T.d_key_of.b .nil pass0 (pa_cons (pv 11) (pa_cons (pv 10) pa_nil))) (pa_cons (pe_bltn (v := .ty "tuple") (by rfl) T.b_tuple (by decide +kernel) rfl) pa_nil)))))))) (pss_one (ps_ret pe_bl)) pss_nil)))
        (pss_cons (ps_set (i := 12) nd rfl (Or.inl rfl) (pe_lst (pa_cons (pe_tup (pa_cons pe_str (pa_cons pe_bl pa_nil))) (pa_cons (pe_tup (pa_cons pe_str (pa_cons pe_bl pa_nil))) (pa_cons (pe_tup (pa_cons pe_str (pa_cons pe_bl pa_nil))) (pa_cons (pe_tup (pa_cons pe_str (pa_cons pe_bl pa_nil))) (pa_cons (pe_tup (pa_cons pe_str (pa_cons pe_bl pa_nil))) (pa_cons (pe_tup (pa_cons pe_str (pa_cons pe_bl pa_nil))) (pa_cons (pe_tup (pa_cons pe_non (pa_cons pe_bl pa_nil))) (pa_cons (pe_tup (pa_cons pe_str (pa_cons pe_bl pa_nil))) pa_nil))))))))))
        (pss_one (ps_ret (pe_cmpR (op_eqD hr.units) (pe_lc (own := [("name", 14), ("due", 15)]) (g := (gTup K 2 (gCons (gName 14) (gCons (gName 15) gNil)))) rfl nd (pi_list (pv 12)) (blkOk_by (own := [("name", 14), ("due", 15)]) (N := Ns_law) (sc := defScope s_law) (by decide +kernel)) (fun _ _ _ _ _ => (pg_tup (n := 2) rfl (pgs_cons (pg_name (i := 14) nd rfl (Or.inl rfl)) (pgs_cons (pg_name (i := 15) nd rfl (Or.inl rfl)) pgs_nil)))) (fun _ _ _ _ _ => pts_nil) (fun _ _ _ _ _ => (pe_call (ok_is_name T) (hr.mono (by decide)) (by rfl) T.d_is_name.g T.d_is_name.F.kp T.d_is_name.b .nil pass0 (pa_cons (pv 14) pa_nil)))) (pe_lc (own := [("name", 14), ("due", 15)]) (g := (gTup K 2 (gCons (gName 14) (gCons (gName 15) gNil)))) rfl nd (pi_list (pv 12)) (blkOk_by (own := [("name", 14), ("due", 15)]) (N := Ns_law) (sc := defScope s_law) (by decide +kernel)) (fun _ _ _ _ _ => (pg_tup (n := 2) rfl (pgs_cons (pg_name (i := 14) nd rfl (Or.inl rfl)) (pgs_cons (pg_name (i := 15) nd rfl (Or.inl rfl)) pgs_nil)))) (fun _ _ _ _ _ => pts_nil) (fun _ _ _ _ _ => (pv 15))) (nomark _)))))))))))))), law_run (i := 1) ((rs_seq (rs_asg (RfF.e (rf_lc (ri_r1 (rbC (RfE.b (re_callS (raC (rc_int _) raN))) rbN)) (rg_name 13) rt_yes (re_callS (raC (rn 13) raN)))) (rg_name 2))
        (rs_seq (rs_if (rt_test (ro rv_notN (RfE.b (re_call (raC (re_cb ro_tupOf (rbC (RfE.b (rn 2)) rbN)) raN))) (RfE.b rc_non))) (rs_ret (rc_bl _)) rs_next)
        (rs_seq (rs_asg (re_cb ro_tupOf (rbC (RfE.b (RfF.e (rf_lc (ri_r1 (rbC (RfE.b (rc_int _)) rbN)) (rg_name 13) rt_yes (re_tup (raC (re_if (rt_test (ro rv_lt (RfE.b (rn 13)) (RfE.b (rc_int _)))) (ro rv_mulS (RfE.b (rc_str _)) (RfE.b (ro rv_add (RfE.b (rn 13)) (RfE.b (rc_int _))))) (ro rv_mulS (RfE.b (rc_str _)) (RfE.b (ro rv_sub (RfE.b (rn 13)) (RfE.b (rc_int _)))))) (raC (rc_str _) (raC (show RfE _ _ (dC (PyData.tuple [PyData.int 1])) from re_tup (raC (rc_int _) raN)) (raC (show RfE _ _ (dC (PyData.tuple [])) from re_tup raN) raN)))))))) rbN)) (rg_name 3))
        (rs_seq (rs_if (rt_or (rt_test (ro rv_neD (RfE.b (re_call (raC (rn 3) raN))) (RfE.b (show RfE _ _ (dC (PyData.tuple [PyData.int 16, PyData.str "limits"])) from re_tup (raC (rc_int _) (raC (rc_str _) raN)))))) (rt_test (ro rv_notN (RfE.b (re_call (raC (re_slT (RfE.b (rn 3)) rp_no (rp_some (rc_int _))) raN))) (RfE.b rc_non)))) (rs_ret (rc_bl _)) rs_next)
        (rs_seq (rs_for (ri_r1 (rbC (RfE.b (rc_int _)) rbN)) (rg_name 4) (rs_if (rt_test (ro rv_gt (RfE.b (re_cb ro_len (rbC (RfE.b (rn 2)) rbN))) (RfE.b (rc_int _)))) (rs_seq (rs_asg (re_callS (raC (re_cb ro_len (rbC (RfE.b (rn 2)) rbN)) raN)) (rg_name 5))
        (rs_seq (rs_asg (re_callS (raC (ro rv_ix (RfE.b (rn 2)) (RfE.b (rn 5))) raN)) (rg_tup (rg_cons (rg_name 6) (rg_cons (rg_name 7) rg_nil))))
        (rs_seq (rs_if (rt_and (rt_test (ro rv_gt (RfE.b (rn 5)) (RfE.b (rc_int _)))) (rt_test (ro rv_eq (RfE.b (re_callS (raC (rc_int _) raN))) (RfE.b (rc_int _))))) (rs_par 6 7 (raC (re_tup (raC (ro rv_ix (RfE.b (ro rv_ix (RfE.b (rn 2)) (RfE.b (re_callS (raC (rn 5) raN))))) (RfE.b (rc_int _))) (raC (rc_str _) (raC (show RfE _ _ (dC (PyData.tuple [])) from re_tup raN) (raC (show RfE _ _ (dC (PyData.tuple [])) from re_tup raN) raN))))) (raC (rc_str _) raN))) rs_next)
        (rs_seq (rs_asg (ro rv_cat (RfE.b (ro rv_cat (RfE.b (RfF.e (rf_slL (RfE.b (rn 2)) rp_no (rp_some (rn 5))))) (RfE.b (RfF.e (rf_lst (raC (rn 6) raN)))))) (RfE.b (RfF.e (rf_slL (RfE.b (rn 2)) (rp_some (ro rv_add (RfE.b (rn 5)) (RfE.b (rc_int _)))) rp_no)))) (rg_name 8))
        (rs_seq (rs_if (rt_test (ro rv_eq (RfE.b (re_callS (raC (rc_int _) raN))) (RfE.b (rc_int _)))) (rs_asg (ro rv_cat (RfE.b (rn 8)) (RfE.b (ro rv_rep (RfE.b (RfF.e (show RfF _ _ (dCL ([PyData.tuple [PyData.str "", PyData.str "bag", PyData.tuple [], PyData.tuple []]])) from rf_lst (raC (show RfE _ _ (dC (PyData.tuple [PyData.str "", PyData.str "bag", PyData.tuple [], PyData.tuple []])) from re_tup (raC (rc_str _) (raC (rc_str _) (raC (show RfE _ _ (dC (PyData.tuple [])) from re_tup raN) (raC (show RfE _ _ (dC (PyData.tuple [])) from re_tup raN) raN))))) raN)))) (RfE.b (re_cb ro_int (rbC (RfE.b (ro rv_lt (RfE.b (re_cb ro_len (rbC (RfE.b (rn 8)) rbN))) (RfE.b (rc_int _)))) rbN)))))) (rg_name 8)) rs_next)
        (rs_if (rt_or (rt_test (ro rv_neD (RfE.b (re_call (raC (re_cb ro_tupOf (rbC (RfE.b (rn 8)) rbN)) raN))) (RfE.b (re_tup (raC (rn 5) (raC (rn 7) raN)))))) (rt_test (ro rv_notN (RfE.b (re_call (raC (re_cb ro_tupOf (rbC (RfE.b (rn 2)) rbN)) raN))) (RfE.b rc_non)))) (rs_ret (rc_bl _)) rs_next)))))) rs_next))
        (rs_seq (rs_asg (ro rv_ix (RfE.b (RfF.e (rf_lst (raC (rc_int _) (raC (rc_int _) (raC (re_callS (raC (rc_int _) raN)) raN)))))) (RfE.b (re_callS (raC (rc_int _) raN)))) (rg_name 9))
        (rs_seq (rs_asg (re_tup (raC (ro rv_ix (RfE.b (RfF.e (show RfF _ _ (dCL ([PyData.str "udp", PyData.str "tcp", PyData.str "echo", PyData.str "request"])) from rf_lst (raC (rc_str _) (raC (rc_str _) (raC (rc_str _) (raC (rc_str _) raN))))))) (RfE.b (re_callS (raC (rc_int _) raN)))) (raC (ro rv_ix (RfE.b (RfF.e (rf_lst (raC rc_non (raC (rn 9) (raC (rn 9) raN)))))) (RfE.b (re_callS (raC (rc_int _) raN)))) (raC (ro rv_ix (RfE.b (RfF.e (show RfF _ _ (dCL ([PyData.none, PyData.int 5])) from rf_lst (raC rc_non (raC (rc_int _) raN))))) (RfE.b (re_callS (raC (rc_int _) raN)))) (raC (ro rv_ix (RfE.b (RfF.e (show RfF _ _ (dCL ([PyData.none, PyData.str "web"])) from rf_lst (raC rc_non (raC (rc_str _) raN))))) (RfE.b (re_callS (raC (rc_int _) raN)))) raN))))) (rg_name 10))
        (rs_seq (rs_for (ri_list (ro rv_cat (RfE.b (rn 2)) (RfE.b (RfF.e (show RfF _ _ (dCL ([PyData.tuple [PyData.str "a", PyData.str "open", PyData.tuple [PyData.int 1], PyData.tuple [PyData.str "outside 1", PyData.str "outside 31", PyData.str "outside 8", PyData.str "kind", PyData.str "outside"]]])) from rf_lst (raC (show RfE _ _ (dC (PyData.tuple [PyData.str "a", PyData.str "open", PyData.tuple [PyData.int 1], PyData.tuple [PyData.str "outside 1", PyData.str "outside 31", PyData.str "outside 8", PyData.str "kind", PyData.str "outside"]])) from re_tup (raC (rc_str _) (raC (rc_str _) (raC (show RfE _ _ (dC (PyData.tuple [PyData.int 1])) from re_tup (raC (rc_int _) raN)) (raC (show RfE _ _ (dC (PyData.tuple [PyData.str "outside 1", PyData.str "outside 31", PyData.str "outside 8", PyData.str "kind", PyData.str "outside"])) from re_tup (raC (rc_str _) (raC (rc_str _) (raC (rc_str _) (raC (rc_str _) (raC (rc_str _) raN)))))) raN))))) raN)))))) (rg_name 11) (rs_if (rt_or (rt_test (ro rv_neD (RfE.b (re_call (raC (rn 11) (raC (rn 10) raN)))) (RfE.b (re_call (raC (rn 11) (raC (rn 10) raN)))))) (rt_not (rt_val (re_isi (RfE.b (re_call (raC (rn 11) (raC (rn 10) raN)))))))) (rs_ret (rc_bl _)) rs_next))
        (rs_seq (rs_asg (RfF.e (show RfF _ _ (dCL ([PyData.tuple [PyData.str "a", PyData.bool true], PyData.tuple [PyData.str "abcdefghij", PyData.bool true], PyData.tuple [PyData.str "abcdefghijk", PyData.bool false], PyData.tuple [PyData.str "", PyData.bool false], PyData.tuple [PyData.str "Ab", PyData.bool false], PyData.tuple [PyData.str "z9", PyData.bool false], PyData.tuple [PyData.none, PyData.bool false], PyData.tuple [PyData.str "a ", PyData.bool false]])) from rf_lst (raC (show RfE _ _ (dC (PyData.tuple [PyData.str "a", PyData.bool true])) from re_tup (raC (rc_str _) (raC (rc_bl _) raN))) (raC (show RfE _ _ (dC (PyData.tuple [PyData.str "abcdefghij", PyData.bool true])) from re_tup (raC (rc_str _) (raC (rc_bl _) raN))) (raC (show RfE _ _ (dC (PyData.tuple [PyData.str "abcdefghijk", PyData.bool false])) from re_tup (raC (rc_str _) (raC (rc_bl _) raN))) (raC (show RfE _ _ (dC (PyData.tuple [PyData.str "", PyData.bool false])) from re_tup (raC (rc_str _) (raC (rc_bl _) raN))) (raC (show RfE _ _ (dC (PyData.tuple [PyData.str "Ab", PyData.bool false])) from re_tup (raC (rc_str _) (raC (rc_bl _) raN))) (raC (show RfE _ _ (dC (PyData.tuple [PyData.str "z9", PyData.bool false])) from re_tup (raC (rc_str _) (raC (rc_bl _) raN))) (raC (show RfE _ _ (dC (PyData.tuple [PyData.none, PyData.bool false])) from re_tup (raC rc_non (raC (rc_bl _) raN))) (raC (show RfE _ _ (dC (PyData.tuple [PyData.str "a ", PyData.bool false])) from re_tup (raC (rc_str _) (raC (rc_bl _) raN))) raN)))))))))) (rg_name 12))
        (rs_ret (ro rv_eqD (RfE.b (RfF.e (rf_lc (ri_list (rn 12)) (rg_tup (rg_cons (rg_name 14) (rg_cons (rg_name 15) rg_nil))) rt_yes (re_call (raC (rn 14) raN))))) (RfE.b (RfF.e (rf_lc (ri_list (rn 12)) (rg_tup (rg_cons (rg_name 14) (rg_cons (rg_name 15) rg_nil))) rt_yes (rn 15)))))))))))))))) h (by decide) (by decide) ?_⟩
  simp only [ev0, wipeE, eget, eset, List.set, List.map_cons, List.map_nil, List.cons_append, List.nil_append, List.replicate_succ, List.replicate_zero, List.length_cons, List.length_nil]
  refine seq_mid1 (fun e => ∃ rs, (GR rs ∧ rs.length ≤ 16) ∧ e = [none, some .st, some (.d (.list (rs.map eL))), none, none, none, none, none, none, none, none, none, none, none, none, none]) (fun N hN => ?_) ?_
  · simp only [true_and, ↓q_sTake, ↓q_sTake0, ↓q_sPick, ↓q_sNumber, rng_1, rng_2, rng_3, rng_4, rng_6, ↓q_dKd, dix_0, dix_1, dix_2, dix_3, dix_4, dix_5, dix_6, dix_7, dix_8, dix_9, Bool.not_false, Bool.not_true, Bool.and_true, Bool.true_and, Bool.and_false, Bool.false_and, decide_eq_true_eq, Bool.not_eq_true', decide_eq_false_iff_not, Bool.false_eq_true, if_true, if_false, ↓q_F0, ↓q_F1, ↓q_F2, ↓q_F3, ↓q_F4, ↓q_F5, ↓q_F6, ↓q_dParO1, ↓q_dParO2, ↓q_dEnumT, ↓q_oRepr, ↓q_dUn, ↓q_oNeg, ↓q_dSeq, ↓q_dRet, ↓q_dRetN, ↓q_dIf, ↓q_dAsg, ↓q_dDrop, ↓q_dBreak, ↓q_dCont, ↓q_dNext, ↓q_dOwn, ↓q_dApp, ↓q_dSetIx, ↓q_dFrz, frz, ↓q_dPar, ↓q_dAug, ↓q_dFor, ↓q_dN, ↓q_dNB, ↓q_dC, ↓q_dOp, ↓q_oI, ↓q_oI0, ↓q_oB, ↓q_oEq, ↓q_oEqS, eqS, ↓q_oIsN, isNo, ↓q_oIx, ↓q_oIx_1, ↓q_oIxS, seqOf, ↓q_oCat, ↓q_oCatT, ↓q_oCatS, ↓q_oIn, ↓q_oInS, ↓q_dTb, ↓q_dAnd, ↓q_dOr, ↓q_dNot, ↓q_dYes, ↓q_dAndV, ↓q_dOrV, ↓q_dNotV, ↓q_dIfV, ↓q_dChain, ↓q_dNil, ↓q_dCons, ↓q_dL, ↓q_dTup, ↓q_dCB, ↓q_oAbs, ↓q_oI2, ↓q_oLen, ↓q_oLenS, ↓q_oInt, ↓q_oInt_1, ↓q_oSum, ↓q_oBs, ↓q_oTupOf, ↓q_dSeqOf, ↓q_dIsi, it_bool_none, it_bool_bool, it_bool_int, it_bool_str, it_bool_list, it_bool_tuple, it_bool_dict, it_int_none, it_int_bool, it_int_int, it_int_str, it_int_list, it_int_tuple, it_int_dict, it_str_none, it_str_bool, it_str_int, it_str_str, it_str_list, it_str_tuple, it_str_dict, it_list_none, it_list_bool, it_list_int, it_list_str, it_list_list, it_list_tuple, it_list_dict, it_tuple_none, it_tuple_bool, it_tuple_int, it_tuple_str, it_tuple_list, it_tuple_tuple, it_tuple_dict, it_dict_none, it_dict_bool, it_dict_int, it_dict_str, it_dict_list, it_dict_tuple, it_dict_dict, ↓q_dNoP, ↓q_dPart, ↓q_dSlT, ↓q_dSlL, ↓q_dSlS, ↓q_dCall, ↓q_dCallS, ↓q_dItL, ↓q_dItT, ↓q_dItS, ↓q_dR1, ↓q_dR2, ↓q_dZip, ↓q_dEnum, ↓q_gN, ↓q_gNi, ↓q_gCo, ↓q_gCo_1, ↓q_gT, ↓q_dLc, ↓q_dDc, ↓q_dK, ↓q_oLenD, ↓q_dCL, ↓q_oRep, ↓q_oRepT, ↓q_dSortSet, ↓q_dSort2, ↓q_sSame, ↓q_oStr, ↓q_oIntS, ↓q_oOrd, ↓q_oMulS, ↓q_dM0, ↓q_dM1, ↓q_sLower, ↓q_sUpper, ↓q_sStarts, ↓q_sEnds, ↓q_dSplit, ↓q_dJoin, ↓q_dFmt, ↓q_dJn, ↓q_dJc, ↓q_dFs, ↓q_dDg, ↓q_dDin, ↓q_dDgx, keyOf, Option.isSome_some, wipeE, eget, eset, List.set, ev0, List.map_cons, List.map_nil, List.cons_append, List.nil_append, List.replicate_succ, List.replicate_zero, noOwn, isOwn, List.all_cons, List.all_nil, List.length_cons, List.length_nil, Bool.true_eq_false, not_false_eq_true, not_true_eq_false]
    refine ⟨by decide, by decide, fun r h0 h1 => ?_⟩
    obtain ⟨m, rfl⟩ := Int.eq_ofNat_of_zero_le h0
    rw [Int.toNat_natCast, rng_eq]
    refine ⟨by omega, by omega, by rw [List.length_map, List.length_range]; omega, ?_⟩
    refine lc_any (fun d o => ∃ (k : Nat) (r : LR), d = .int k ∧ GL k r ∧ o = some (eL r)) (fun d hd R hR => ?_) (fun os hp => ?_)
    · obtain ⟨k, hk, rfl⟩ := List.mem_map.mp hd
      have := List.mem_range.mp hk
      simp only [true_and, ↓q_sTake, ↓q_sTake0, ↓q_sPick, ↓q_sNumber, rng_1, rng_2, rng_3, rng_4, rng_6, ↓q_dKd, dix_0, dix_1, dix_2, dix_3, dix_4, dix_5, dix_6, dix_7, dix_8, dix_9, Bool.not_false, Bool.not_true, Bool.and_true, Bool.true_and, Bool.and_false, Bool.false_and, decide_eq_true_eq, Bool.not_eq_true', decide_eq_false_iff_not, Bool.false_eq_true, if_true, if_false, ↓q_F0, ↓q_F1, ↓q_F2, ↓q_F3, ↓q_F4, ↓q_F5, ↓q_F6, ↓q_dParO1, ↓q_dParO2, ↓q_dEnumT, ↓q_oRepr, ↓q_dUn, ↓q_oNeg, ↓q_dSeq, ↓q_dRet, ↓q_dRetN, ↓q_dIf, ↓q_dAsg, ↓q_dDrop, ↓q_dBreak, ↓q_dCont, ↓q_dNext, ↓q_dOwn, ↓q_dApp, ↓q_dSetIx, ↓q_dFrz, frz, ↓q_dPar, ↓q_dAug, ↓q_dFor, ↓q_dN, ↓q_dNB, ↓q_dC, ↓q_dOp, ↓q_oI, ↓q_oI0, ↓q_oB, ↓q_oEq, ↓q_oEqS, eqS, ↓q_oIsN, isNo, ↓q_oIx, ↓q_oIx_1, ↓q_oIxS, seqOf, ↓q_oCat, ↓q_oCatT, ↓q_oCatS, ↓q_oIn, ↓q_oInS, ↓q_dTb, ↓q_dAnd, ↓q_dOr, ↓q_dNot, ↓q_dYes, ↓q_dAndV, ↓q_dOrV, ↓q_dNotV, ↓q_dIfV, ↓q_dChain, ↓q_dNil, ↓q_dCons, ↓q_dL, ↓q_dTup, ↓q_dCB, ↓q_oAbs, ↓q_oI2, ↓q_oLen, ↓q_oLenS, ↓q_oInt, ↓q_oInt_1, ↓q_oSum, ↓q_oBs, ↓q_oTupOf, ↓q_dSeqOf, ↓q_dIsi, it_bool_none, it_bool_bool, it_bool_int, it_bool_str, it_bool_list, it_bool_tuple, it_bool_dict, it_int_none, it_int_bool, it_int_int, it_int_str, it_int_list, it_int_tuple, it_int_dict, it_str_none, it_str_bool, it_str_int, it_str_str, it_str_list, it_str_tuple, it_str_dict, it_list_none, it_list_bool, it_list_int, it_list_str, it_list_list, it_list_tuple, it_list_dict, it_tuple_none, it_tuple_bool, it_tuple_int, it_tuple_str, it_tuple_list, it_tuple_tuple, it_tuple_dict, it_dict_none, it_dict_bool, it_dict_int, it_dict_str, it_dict_list, it_dict_tuple, it_dict_dict, ↓q_dNoP, ↓q_dPart, ↓q_dSlT, ↓q_dSlL, ↓q_dSlS, ↓q_dCall, ↓q_dCallS, ↓q_dItL, ↓q_dItT, ↓q_dItS, ↓q_dR1, ↓q_dR2, ↓q_dZip, ↓q_dEnum, ↓q_gN, ↓q_gNi, ↓q_gCo, ↓q_gCo_1, ↓q_gT, ↓q_dLc, ↓q_dDc, ↓q_dK, ↓q_oLenD, ↓q_dCL, ↓q_oRep, ↓q_oRepT, ↓q_dSortSet, ↓q_dSort2, ↓q_sSame, ↓q_oStr, ↓q_oIntS, ↓q_oOrd, ↓q_oMulS, ↓q_dM0, ↓q_dM1, ↓q_sLower, ↓q_sUpper, ↓q_sStarts, ↓q_sEnds, ↓q_dSplit, ↓q_dJoin, ↓q_dFmt, ↓q_dJn, ↓q_dJc, ↓q_dFs, ↓q_dDg, ↓q_dDin, ↓q_dDgx, keyOf, Option.isSome_some, wipeE, eget, eset, List.set, ev0, List.map_cons, List.map_nil, List.cons_append, List.nil_append, List.replicate_succ, List.replicate_zero, noOwn, isOwn, List.all_cons, List.all_nil, List.length_cons, List.length_nil, Bool.true_eq_false, not_false_eq_true, not_true_eq_false]
      exact ⟨k, rfl, by omega, fun r gr => hR _ ⟨k, r, rfl, gr, rfl⟩⟩
    · obtain ⟨rs, e1, e2, e3⟩ := rows_of hp
      rw [List.length_range] at e2
      rw [e1]
      refine hN _ ⟨rs, ⟨fun i r hi => e3 i i r ?_ hi, by omega⟩, rfl⟩
      have := (List.getElem?_eq_some_iff.mp hi).1
      rw [List.getElem?_range (by omega)]
  rintro env ⟨rs, ⟨gr, hl⟩, rfl⟩
  have hsz : ∀ r ∈ rs, LSz r := fun r hr => by
    obtain ⟨i, hi⟩ := List.mem_iff_getElem?.mp hr
    exact (gr i r hi).sz
  refine seq_mid3 (fun e => e = [none, some .st, some (.d (.list (rs.map eL))), some (.d (.tuple (MN.map eL))), none, none, none, none, none, none, none, none, none, none, none, none]) (fun N hN => ?_) ?_
  · simp only [true_and, ↓q_sTake, ↓q_sTake0, ↓q_sPick, ↓q_sNumber, rng_1, rng_2, rng_3, rng_4, rng_6, ↓q_dKd, dix_0, dix_1, dix_2, dix_3, dix_4, dix_5, dix_6, dix_7, dix_8, dix_9, Bool.not_false, Bool.not_true, Bool.and_true, Bool.true_and, Bool.and_false, Bool.false_and, decide_eq_true_eq, Bool.not_eq_true', decide_eq_false_iff_not, Bool.false_eq_true, if_true, if_false, ↓q_F0, ↓q_F1, ↓q_F2, ↓q_F3, ↓q_F4, ↓q_F5, ↓q_F6, ↓q_dParO1, ↓q_dParO2, ↓q_dEnumT, ↓q_oRepr, ↓q_dUn, ↓q_oNeg, ↓q_dSeq, ↓q_dRet, ↓q_dRetN, ↓q_dIf, ↓q_dAsg, ↓q_dDrop, ↓q_dBreak, ↓q_dCont, ↓q_dNext, ↓q_dOwn, ↓q_dApp, ↓q_dSetIx, ↓q_dFrz, frz, ↓q_dPar, ↓q_dAug, ↓q_dFor, ↓q_dN, ↓q_dNB, ↓q_dC, ↓q_dOp, ↓q_oI, ↓q_oI0, ↓q_oB, ↓q_oEq, ↓q_oEqS, eqS, ↓q_oIsN, isNo, ↓q_oIx, ↓q_oIx_1, ↓q_oIxS, seqOf, ↓q_oCat, ↓q_oCatT, ↓q_oCatS, ↓q_oIn, ↓q_oInS, ↓q_dTb, ↓q_dAnd, ↓q_dOr, ↓q_dNot, ↓q_dYes, ↓q_dAndV, ↓q_dOrV, ↓q_dNotV, ↓q_dIfV, ↓q_dChain, ↓q_dNil, ↓q_dCons, ↓q_dL, ↓q_dTup, ↓q_dCB, ↓q_oAbs, ↓q_oI2, ↓q_oLen, ↓q_oLenS, ↓q_oInt, ↓q_oInt_1, ↓q_oSum, ↓q_oBs, ↓q_oTupOf, ↓q_dSeqOf, ↓q_dIsi, it_bool_none, it_bool_bool, it_bool_int, it_bool_str, it_bool_list, it_bool_tuple, it_bool_dict, it_int_none, it_int_bool, it_int_int, it_int_str, it_int_list, it_int_tuple, it_int_dict, it_str_none, it_str_bool, it_str_int, it_str_str, it_str_list, it_str_tuple, it_str_dict, it_list_none, it_list_bool, it_list_int, it_list_str, it_list_list, it_list_tuple, it_list_dict, it_tuple_none, it_tuple_bool, it_tuple_int, it_tuple_str, it_tuple_list, it_tuple_tuple, it_tuple_dict, it_dict_none, it_dict_bool, it_dict_int, it_dict_str, it_dict_list, it_dict_tuple, it_dict_dict, ↓q_dNoP, ↓q_dPart, ↓q_dSlT, ↓q_dSlL, ↓q_dSlS, ↓q_dCall, ↓q_dCallS, ↓q_dItL, ↓q_dItT, ↓q_dItS, ↓q_dR1, ↓q_dR2, ↓q_dZip, ↓q_dEnum, ↓q_gN, ↓q_gNi, ↓q_gCo, ↓q_gCo_1, ↓q_gT, ↓q_dLc, ↓q_dDc, ↓q_dK, ↓q_oLenD, ↓q_dCL, ↓q_oRep, ↓q_oRepT, ↓q_dSortSet, ↓q_dSort2, ↓q_sSame, ↓q_oStr, ↓q_oIntS, ↓q_oOrd, ↓q_oMulS, ↓q_dM0, ↓q_dM1, ↓q_sLower, ↓q_sUpper, ↓q_sStarts, ↓q_sEnds, ↓q_dSplit, ↓q_dJoin, ↓q_dFmt, ↓q_dJn, ↓q_dJc, ↓q_dFs, ↓q_dDg, ↓q_dDin, ↓q_dDgx, keyOf, Option.isSome_some, wipeE, eget, eset, List.set, ev0, List.map_cons, List.map_nil, List.cons_append, List.nil_append, List.replicate_succ, List.replicate_zero, noOwn, isOwn, List.all_cons, List.all_nil, List.length_cons, List.length_nil, Bool.true_eq_false, not_false_eq_true, not_true_eq_false]
    refine ⟨rs, rfl, hsz, ?_⟩
    rw [flt_none gr hl]
    simp only [true_and, ↓q_sTake, ↓q_sTake0, ↓q_sPick, ↓q_sNumber, rng_1, rng_2, rng_3, rng_4, rng_6, ↓q_dKd, dix_0, dix_1, dix_2, dix_3, dix_4, dix_5, dix_6, dix_7, dix_8, dix_9, Bool.not_false, Bool.not_true, Bool.and_true, Bool.true_and, Bool.and_false, Bool.false_and, decide_eq_true_eq, Bool.not_eq_true', decide_eq_false_iff_not, Bool.false_eq_true, if_true, if_false, ↓q_F0, ↓q_F1, ↓q_F2, ↓q_F3, ↓q_F4, ↓q_F5, ↓q_F6, ↓q_dParO1, ↓q_dParO2, ↓q_dEnumT, ↓q_oRepr, ↓q_dUn, ↓q_oNeg, ↓q_dSeq, ↓q_dRet, ↓q_dRetN, ↓q_dIf, ↓q_dAsg, ↓q_dDrop, ↓q_dBreak, ↓q_dCont, ↓q_dNext, ↓q_dOwn, ↓q_dApp, ↓q_dSetIx, ↓q_dFrz, frz, ↓q_dPar, ↓q_dAug, ↓q_dFor, ↓q_dN, ↓q_dNB, ↓q_dC, ↓q_dOp, ↓q_oI, ↓q_oI0, ↓q_oB, ↓q_oEq, ↓q_oEqS, eqS, ↓q_oIsN, isNo, ↓q_oIx, ↓q_oIx_1, ↓q_oIxS, seqOf, ↓q_oCat, ↓q_oCatT, ↓q_oCatS, ↓q_oIn, ↓q_oInS, ↓q_dTb, ↓q_dAnd, ↓q_dOr, ↓q_dNot, ↓q_dYes, ↓q_dAndV, ↓q_dOrV, ↓q_dNotV, ↓q_dIfV, ↓q_dChain, ↓q_dNil, ↓q_dCons, ↓q_dL, ↓q_dTup, ↓q_dCB, ↓q_oAbs, ↓q_oI2, ↓q_oLen, ↓q_oLenS, ↓q_oInt, ↓q_oInt_1, ↓q_oSum, ↓q_oBs, ↓q_oTupOf, ↓q_dSeqOf, ↓q_dIsi, it_bool_none, it_bool_bool, it_bool_int, it_bool_str, it_bool_list, it_bool_tuple, it_bool_dict, it_int_none, it_int_bool, it_int_int, it_int_str, it_int_list, it_int_tuple, it_int_dict, it_str_none, it_str_bool, it_str_int, it_str_str, it_str_list, it_str_tuple, it_str_dict, it_list_none, it_list_bool, it_list_int, it_list_str, it_list_list, it_list_tuple, it_list_dict, it_tuple_none, it_tuple_bool, it_tuple_int, it_tuple_str, it_tuple_list, it_tuple_tuple, it_tuple_dict, it_dict_none, it_dict_bool, it_dict_int, it_dict_str, it_dict_list, it_dict_tuple, it_dict_dict, ↓q_dNoP, ↓q_dPart, ↓q_dSlT, ↓q_dSlL, ↓q_dSlS, ↓q_dCall, ↓q_dCallS, ↓q_dItL, ↓q_dItT, ↓q_dItS, ↓q_dR1, ↓q_dR2, ↓q_dZip, ↓q_dEnum, ↓q_gN, ↓q_gNi, ↓q_gCo, ↓q_gCo_1, ↓q_gT, ↓q_dLc, ↓q_dDc, ↓q_dK, ↓q_oLenD, ↓q_dCL, ↓q_oRep, ↓q_oRepT, ↓q_dSortSet, ↓q_dSort2, ↓q_sSame, ↓q_oStr, ↓q_oIntS, ↓q_oOrd, ↓q_oMulS, ↓q_dM0, ↓q_dM1, ↓q_sLower, ↓q_sUpper, ↓q_sStarts, ↓q_sEnds, ↓q_dSplit, ↓q_dJoin, ↓q_dFmt, ↓q_dJn, ↓q_dJc, ↓q_dFs, ↓q_dDg, ↓q_dDin, ↓q_dDgx, keyOf, Option.isSome_some, wipeE, eget, eset, List.set, ev0, List.map_cons, List.map_nil, List.cons_append, List.nil_append, List.replicate_succ, List.replicate_zero, noOwn, isOwn, List.all_cons, List.all_nil, List.length_cons, List.length_nil, Bool.true_eq_false, not_false_eq_true, not_true_eq_false]
    refine ⟨by decide, by decide, ?_⟩
    rw [show rng 0 (17 : Int).toNat = (List.range 17).map fun i => PyData.int (i : Nat) from rng_eq 17]
    refine ⟨by decide, ?_⟩
    refine lc_fun (fun i : Nat => PyData.int (i : Nat)) (fun i => some (eL (mnR i))) (as := List.range 17) (fun i hi R hR => ?_) ?_
    · have := List.mem_range.mp hi
      have hR' : R (some (.tuple [.str (mnN i), .str (Str.ofString "open"), .tuple [.int 1], .tuple []])) := hR
      unfold mnN at hR'
      simp only [true_and, ↓q_sTake, ↓q_sTake0, ↓q_sPick, ↓q_sNumber, rng_1, rng_2, rng_3, rng_4, rng_6, ↓q_dKd, dix_0, dix_1, dix_2, dix_3, dix_4, dix_5, dix_6, dix_7, dix_8, dix_9, Bool.not_false, Bool.not_true, Bool.and_true, Bool.true_and, Bool.and_false, Bool.false_and, decide_eq_true_eq, Bool.not_eq_true', decide_eq_false_iff_not, Bool.false_eq_true, if_true, if_false, ↓q_F0, ↓q_F1, ↓q_F2, ↓q_F3, ↓q_F4, ↓q_F5, ↓q_F6, ↓q_dParO1, ↓q_dParO2, ↓q_dEnumT, ↓q_oRepr, ↓q_dUn, ↓q_oNeg, ↓q_dSeq, ↓q_dRet, ↓q_dRetN, ↓q_dIf, ↓q_dAsg, ↓q_dDrop, ↓q_dBreak, ↓q_dCont, ↓q_dNext, ↓q_dOwn, ↓q_dApp, ↓q_dSetIx, ↓q_dFrz, frz, ↓q_dPar, ↓q_dAug, ↓q_dFor, ↓q_dN, ↓q_dNB, ↓q_dC, ↓q_dOp, ↓q_oI, ↓q_oI0, ↓q_oB, ↓q_oEq, ↓q_oEqS, eqS, ↓q_oIsN, isNo, ↓q_oIx, ↓q_oIx_1, ↓q_oIxS, seqOf, ↓q_oCat, ↓q_oCatT, ↓q_oCatS, ↓q_oIn, ↓q_oInS, ↓q_dTb, ↓q_dAnd, ↓q_dOr, ↓q_dNot, ↓q_dYes, ↓q_dAndV, ↓q_dOrV, ↓q_dNotV, ↓q_dIfV, ↓q_dChain, ↓q_dNil, ↓q_dCons, ↓q_dL, ↓q_dTup, ↓q_dCB, ↓q_oAbs, ↓q_oI2, ↓q_oLen, ↓q_oLenS, ↓q_oInt, ↓q_oInt_1, ↓q_oSum, ↓q_oBs, ↓q_oTupOf, ↓q_dSeqOf, ↓q_dIsi, it_bool_none, it_bool_bool, it_bool_int, it_bool_str, it_bool_list, it_bool_tuple, it_bool_dict, it_int_none, it_int_bool, it_int_int, it_int_str, it_int_list, it_int_tuple, it_int_dict, it_str_none, it_str_bool, it_str_int, it_str_str, it_str_list, it_str_tuple, it_str_dict, it_list_none, it_list_bool, it_list_int, it_list_str, it_list_list, it_list_tuple, it_list_dict, it_tuple_none, it_tuple_bool, it_tuple_int, it_tuple_str, it_tuple_list, it_tuple_tuple, it_tuple_dict, it_dict_none, it_dict_bool, it_dict_int, it_dict_str, it_dict_list, it_dict_tuple, it_dict_dict, ↓q_dNoP, ↓q_dPart, ↓q_dSlT, ↓q_dSlL, ↓q_dSlS, ↓q_dCall, ↓q_dCallS, ↓q_dItL, ↓q_dItT, ↓q_dItS, ↓q_dR1, ↓q_dR2, ↓q_dZip, ↓q_dEnum, ↓q_gN, ↓q_gNi, ↓q_gCo, ↓q_gCo_1, ↓q_gT, ↓q_dLc, ↓q_dDc, ↓q_dK, ↓q_oLenD, ↓q_dCL, ↓q_oRep, ↓q_oRepT, ↓q_dSortSet, ↓q_dSort2, ↓q_sSame, ↓q_oStr, ↓q_oIntS, ↓q_oOrd, ↓q_oMulS, ↓q_dM0, ↓q_dM1, ↓q_sLower, ↓q_sUpper, ↓q_sStarts, ↓q_sEnds, ↓q_dSplit, ↓q_dJoin, ↓q_dFmt, ↓q_dJn, ↓q_dJc, ↓q_dFs, ↓q_dDg, ↓q_dDin, ↓q_dDgx, keyOf, Option.isSome_some, wipeE, eget, eset, List.set, ev0, List.map_cons, List.map_nil, List.cons_append, List.nil_append, List.replicate_succ, List.replicate_zero, noOwn, isOwn, List.all_cons, List.all_nil, List.length_cons, List.length_nil, Bool.true_eq_false, not_false_eq_true, not_true_eq_false]
      refine ite2 (fun h => ?_) (fun h => ?_)
      · rw [if_pos h] at hR'
        exact ⟨by decide +kernel, ⟨by omega, by omega⟩, hR'⟩
      · rw [if_neg h] at hR'
        exact ⟨by decide +kernel, ⟨by omega, by omega⟩, hR'⟩
    rw [fm_some]
    have e1 : (List.range 17).map (fun i => eL (mnR i)) = MN.map eL := by unfold MN; rw [List.map_map]; rfl
    rw [e1]
    refine ⟨MN, rfl, mn_sz, ?_⟩
    rw [mn_17]
    refine ⟨ok2 (by decide) (by decide) (by decide +kernel), ok2 (by decide) (by decide) (by decide +kernel), ?_⟩
    rw [if_neg (by decide +kernel)]
    refine ⟨MN.take 16, by rw [cut_lo _ (by decide), List.map_take]; rfl, fun r hr => mn_sz r (List.mem_of_mem_take hr), ?_⟩
    rw [mn_16]
    simp only [true_and, ↓q_sTake, ↓q_sTake0, ↓q_sPick, ↓q_sNumber, rng_1, rng_2, rng_3, rng_4, rng_6, ↓q_dKd, dix_0, dix_1, dix_2, dix_3, dix_4, dix_5, dix_6, dix_7, dix_8, dix_9, Bool.not_false, Bool.not_true, Bool.and_true, Bool.true_and, Bool.and_false, Bool.false_and, decide_eq_true_eq, Bool.not_eq_true', decide_eq_false_iff_not, Bool.false_eq_true, if_true, if_false, ↓q_F0, ↓q_F1, ↓q_F2, ↓q_F3, ↓q_F4, ↓q_F5, ↓q_F6, ↓q_dParO1, ↓q_dParO2, ↓q_dEnumT, ↓q_oRepr, ↓q_dUn, ↓q_oNeg, ↓q_dSeq, ↓q_dRet, ↓q_dRetN, ↓q_dIf, ↓q_dAsg, ↓q_dDrop, ↓q_dBreak, ↓q_dCont, ↓q_dNext, ↓q_dOwn, ↓q_dApp, ↓q_dSetIx, ↓q_dFrz, frz, ↓q_dPar, ↓q_dAug, ↓q_dFor, ↓q_dN, ↓q_dNB, ↓q_dC, ↓q_dOp, ↓q_oI, ↓q_oI0, ↓q_oB, ↓q_oEq, ↓q_oEqS, eqS, ↓q_oIsN, isNo, ↓q_oIx, ↓q_oIx_1, ↓q_oIxS, seqOf, ↓q_oCat, ↓q_oCatT, ↓q_oCatS, ↓q_oIn, ↓q_oInS, ↓q_dTb, ↓q_dAnd, ↓q_dOr, ↓q_dNot, ↓q_dYes, ↓q_dAndV, ↓q_dOrV, ↓q_dNotV, ↓q_dIfV, ↓q_dChain, ↓q_dNil, ↓q_dCons, ↓q_dL, ↓q_dTup, ↓q_dCB, ↓q_oAbs, ↓q_oI2, ↓q_oLen, ↓q_oLenS, ↓q_oInt, ↓q_oInt_1, ↓q_oSum, ↓q_oBs, ↓q_oTupOf, ↓q_dSeqOf, ↓q_dIsi, it_bool_none, it_bool_bool, it_bool_int, it_bool_str, it_bool_list, it_bool_tuple, it_bool_dict, it_int_none, it_int_bool, it_int_int, it_int_str, it_int_list, it_int_tuple, it_int_dict, it_str_none, it_str_bool, it_str_int, it_str_str, it_str_list, it_str_tuple, it_str_dict, it_list_none, it_list_bool, it_list_int, it_list_str, it_list_list, it_list_tuple, it_list_dict, it_tuple_none, it_tuple_bool, it_tuple_int, it_tuple_str, it_tuple_list, it_tuple_tuple, it_tuple_dict, it_dict_none, it_dict_bool, it_dict_int, it_dict_str, it_dict_list, it_dict_tuple, it_dict_dict, ↓q_dNoP, ↓q_dPart, ↓q_dSlT, ↓q_dSlL, ↓q_dSlS, ↓q_dCall, ↓q_dCallS, ↓q_dItL, ↓q_dItT, ↓q_dItS, ↓q_dR1, ↓q_dR2, ↓q_dZip, ↓q_dEnum, ↓q_gN, ↓q_gNi, ↓q_gCo, ↓q_gCo_1, ↓q_gT, ↓q_dLc, ↓q_dDc, ↓q_dK, ↓q_oLenD, ↓q_dCL, ↓q_oRep, ↓q_oRepT, ↓q_dSortSet, ↓q_dSort2, ↓q_sSame, ↓q_oStr, ↓q_oIntS, ↓q_oOrd, ↓q_oMulS, ↓q_dM0, ↓q_dM1, ↓q_sLower, ↓q_sUpper, ↓q_sStarts, ↓q_sEnds, ↓q_dSplit, ↓q_dJoin, ↓q_dFmt, ↓q_dJn, ↓q_dJc, ↓q_dFs, ↓q_dDg, ↓q_dDin, ↓q_dDgx, keyOf, Option.isSome_some, wipeE, eget, eset, List.set, ev0, List.map_cons, List.map_nil, List.cons_append, List.nil_append, List.replicate_succ, List.replicate_zero, noOwn, isOwn, List.all_cons, List.all_nil, List.length_cons, List.length_nil, Bool.true_eq_false, not_false_eq_true, not_true_eq_false]
    exact hN _ rfl
  rintro env rfl
  refine seq_mid1 (fun e => ∃ s4 s5 s6 s7 s8 : Option En, e = [none, some .st, some (.d (.list (rs.map eL))), some (.d (.tuple (MN.map eL))), s4, s5, s6, s7, s8, none, none, none, none, none, none, none]) (fun N hN => ?_) ?_
  · simp only [true_and, ↓q_sTake, ↓q_sTake0, ↓q_sPick, ↓q_sNumber, rng_1, rng_2, rng_3, rng_4, rng_6, ↓q_dKd, dix_0, dix_1, dix_2, dix_3, dix_4, dix_5, dix_6, dix_7, dix_8, dix_9, Bool.not_false, Bool.not_true, Bool.and_true, Bool.true_and, Bool.and_false, Bool.false_and, decide_eq_true_eq, Bool.not_eq_true', decide_eq_false_iff_not, Bool.false_eq_true, if_true, if_false, ↓q_F0, ↓q_F1, ↓q_F2, ↓q_F3, ↓q_F4, ↓q_F5, ↓q_F6, ↓q_dParO1, ↓q_dParO2, ↓q_dEnumT, ↓q_oRepr, ↓q_dUn, ↓q_oNeg, ↓q_dSeq, ↓q_dRet, ↓q_dRetN, ↓q_dIf, ↓q_dAsg, ↓q_dDrop, ↓q_dBreak, ↓q_dCont, ↓q_dNext, ↓q_dOwn, ↓q_dApp, ↓q_dSetIx, ↓q_dFrz, frz, ↓q_dPar, ↓q_dAug, ↓q_dFor, ↓q_dN, ↓q_dNB, ↓q_dC, ↓q_dOp, ↓q_oI, ↓q_oI0, ↓q_oB, ↓q_oEq, ↓q_oEqS, eqS, ↓q_oIsN, isNo, ↓q_oIx, ↓q_oIx_1, ↓q_oIxS, seqOf, ↓q_oCat, ↓q_oCatT, ↓q_oCatS, ↓q_oIn, ↓q_oInS, ↓q_dTb, ↓q_dAnd, ↓q_dOr, ↓q_dNot, ↓q_dYes, ↓q_dAndV, ↓q_dOrV, ↓q_dNotV, ↓q_dIfV, ↓q_dChain, ↓q_dNil, ↓q_dCons, ↓q_dL, ↓q_dTup, ↓q_dCB, ↓q_oAbs, ↓q_oI2, ↓q_oLen, ↓q_oLenS, ↓q_oInt, ↓q_oInt_1, ↓q_oSum, ↓q_oBs, ↓q_oTupOf, ↓q_dSeqOf, ↓q_dIsi, it_bool_none, it_bool_bool, it_bool_int, it_bool_str, it_bool_list, it_bool_tuple, it_bool_dict, it_int_none, it_int_bool, it_int_int, it_int_str, it_int_list, it_int_tuple, it_int_dict, it_str_none, it_str_bool, it_str_int, it_str_str, it_str_list, it_str_tuple, it_str_dict, it_list_none, it_list_bool, it_list_int, it_list_str, it_list_list, it_list_tuple, it_list_dict, it_tuple_none, it_tuple_bool, it_tuple_int, it_tuple_str, it_tuple_list, it_tuple_tuple, it_tuple_dict, it_dict_none, it_dict_bool, it_dict_int, it_dict_str, it_dict_list, it_dict_tuple, it_dict_dict, ↓q_dNoP, ↓q_dPart, ↓q_dSlT, ↓q_dSlL, ↓q_dSlS, ↓q_dCall, ↓q_dCallS, ↓q_dItL, ↓q_dItT, ↓q_dItS, ↓q_dR1, ↓q_dR2, ↓q_dZip, ↓q_dEnum, ↓q_gN, ↓q_gNi, ↓q_gCo, ↓q_gCo_1, ↓q_gT, ↓q_dLc, ↓q_dDc, ↓q_dK, ↓q_oLenD, ↓q_dCL, ↓q_oRep, ↓q_oRepT, ↓q_dSortSet, ↓q_dSort2, ↓q_sSame, ↓q_oStr, ↓q_oIntS, ↓q_oOrd, ↓q_oMulS, ↓q_dM0, ↓q_dM1, ↓q_sLower, ↓q_sUpper, ↓q_sStarts, ↓q_sEnds, ↓q_dSplit, ↓q_dJoin, ↓q_dFmt, ↓q_dJn, ↓q_dJc, ↓q_dFs, ↓q_dDg, ↓q_dDin, ↓q_dDgx, keyOf, Option.isSome_some, wipeE, eget, eset, List.set, ev0, List.map_cons, List.map_nil, List.cons_append, List.nil_append, List.replicate_succ, List.replicate_zero, noOwn, isOwn, List.all_cons, List.all_nil, List.length_cons, List.length_nil, Bool.true_eq_false, not_false_eq_true, not_true_eq_false]
    refine ⟨by decide, by decide, ?_⟩
    refine loop_by (fun rest env => ∃ s4 s5 s6 s7 s8 : Option En, env = [none, some .st, some (.d (.list (rs.map eL))), some (.d (.tuple (MN.map eL))), s4, s5, s6, s7, s8, none, none, none, none, none, none, none]) ?_ ?_ _ _ ⟨none, none, none, none, none, rfl⟩
    · exact hN
    · rintro d rest env N2 ⟨s4, s5, s6, s7, s8, rfl⟩ hN2
      simp only [true_and, ↓q_sTake, ↓q_sTake0, ↓q_sPick, ↓q_sNumber, rng_1, rng_2, rng_3, rng_4, rng_6, ↓q_dKd, dix_0, dix_1, dix_2, dix_3, dix_4, dix_5, dix_6, dix_7, dix_8, dix_9, Bool.not_false, Bool.not_true, Bool.and_true, Bool.true_and, Bool.and_false, Bool.false_and, decide_eq_true_eq, Bool.not_eq_true', decide_eq_false_iff_not, Bool.false_eq_true, if_true, if_false, ↓q_F0, ↓q_F1, ↓q_F2, ↓q_F3, ↓q_F4, ↓q_F5, ↓q_F6, ↓q_dParO1, ↓q_dParO2, ↓q_dEnumT, ↓q_oRepr, ↓q_dUn, ↓q_oNeg, ↓q_dRet, ↓q_dRetN, ↓q_dIf, ↓q_dAsg, ↓q_dDrop, ↓q_dBreak, ↓q_dCont, ↓q_dNext, ↓q_dOwn, ↓q_dApp, ↓q_dSetIx, ↓q_dFrz, frz, ↓q_dPar, ↓q_dAug, ↓q_dFor, ↓q_dN, ↓q_dNB, ↓q_dC, ↓q_dOp, ↓q_oI, ↓q_oI0, ↓q_oB, ↓q_oEq, ↓q_oEqS, eqS, ↓q_oIsN, isNo, ↓q_oIx, ↓q_oIx_1, ↓q_oIxS, seqOf, ↓q_oCat, ↓q_oCatT, ↓q_oCatS, ↓q_oIn, ↓q_oInS, ↓q_dTb, ↓q_dAnd, ↓q_dOr, ↓q_dNot, ↓q_dYes, ↓q_dAndV, ↓q_dOrV, ↓q_dNotV, ↓q_dIfV, ↓q_dChain, ↓q_dNil, ↓q_dCons, ↓q_dL, ↓q_dTup, ↓q_dCB, ↓q_oAbs, ↓q_oI2, ↓q_oLen, ↓q_oLenS, ↓q_oInt, ↓q_oInt_1, ↓q_oSum, ↓q_oBs, ↓q_oTupOf, ↓q_dSeqOf, ↓q_dIsi, it_bool_none, it_bool_bool, it_bool_int, it_bool_str, it_bool_list, it_bool_tuple, it_bool_dict, it_int_none, it_int_bool, it_int_int, it_int_str, it_int_list, it_int_tuple, it_int_dict, it_str_none, it_str_bool, it_str_int, it_str_str, it_str_list, it_str_tuple, it_str_dict, it_list_none, it_list_bool, it_list_int, it_list_str, it_list_list, it_list_tuple, it_list_dict, it_tuple_none, it_tuple_bool, it_tuple_int, it_tuple_str, it_tuple_list, it_tuple_tuple, it_tuple_dict, it_dict_none, it_dict_bool, it_dict_int, it_dict_str, it_dict_list, it_dict_tuple, it_dict_dict, ↓q_dNoP, ↓q_dPart, ↓q_dSlT, ↓q_dSlL, ↓q_dSlS, ↓q_dCall, ↓q_dCallS, ↓q_dItL, ↓q_dItT, ↓q_dItS, ↓q_dR1, ↓q_dR2, ↓q_dZip, ↓q_dEnum, ↓q_gN, ↓q_gNi, ↓q_gCo, ↓q_gCo_1, ↓q_gT, ↓q_dLc, ↓q_dDc, ↓q_dK, ↓q_oLenD, ↓q_dCL, ↓q_oRep, ↓q_oRepT, ↓q_dSortSet, ↓q_dSort2, ↓q_sSame, ↓q_oStr, ↓q_oIntS, ↓q_oOrd, ↓q_oMulS, ↓q_dM0, ↓q_dM1, ↓q_sLower, ↓q_sUpper, ↓q_sStarts, ↓q_sEnds, ↓q_dSplit, ↓q_dJoin, ↓q_dFmt, ↓q_dJn, ↓q_dJc, ↓q_dFs, ↓q_dDg, ↓q_dDin, ↓q_dDgx, keyOf, Option.isSome_some, wipeE, eget, eset, List.set, ev0, List.map_cons, List.map_nil, List.cons_append, List.nil_append, List.replicate_succ, List.replicate_zero, noOwn, isOwn, List.all_cons, List.all_nil, List.length_cons, List.length_nil, Bool.true_eq_false, not_false_eq_true, not_true_eq_false, List.length_map]
      refine ite2 (fun hpos => ?_) (fun hneg => hN2 _ ⟨_, _, _, _, _, rfl⟩)
      refine seq_mid3 (fun e => ∃ (at' : Nat) (r b : LR) (z : Str), (rs[at']? = some r ∧ LSz b ∧ (PyData.strOk z && decide (z.cps.size ≤ 40)) = true ∧ ∀ ex : List LR, fwL (rs.take at' ++ b :: ex) at' b = .str z) ∧ e = [none, some .st, some (.d (.list (rs.map eL))), some (.d (.tuple (MN.map eL))), some (.d d), some (.d (.int (at' : Nat))), some (.d (eL b)), some (.d (.str z)), s8, none, none, none, none, none, none, none]) (fun N hN => ?_) ?_
      · simp only [true_and, ↓q_sTake, ↓q_sTake0, ↓q_sPick, ↓q_sNumber, rng_1, rng_2, rng_3, rng_4, rng_6, ↓q_dKd, dix_0, dix_1, dix_2, dix_3, dix_4, dix_5, dix_6, dix_7, dix_8, dix_9, Bool.not_false, Bool.not_true, Bool.and_true, Bool.true_and, Bool.and_false, Bool.false_and, decide_eq_true_eq, Bool.not_eq_true', decide_eq_false_iff_not, Bool.false_eq_true, if_true, if_false, ↓q_F0, ↓q_F1, ↓q_F2, ↓q_F3, ↓q_F4, ↓q_F5, ↓q_F6, ↓q_dParO1, ↓q_dParO2, ↓q_dEnumT, ↓q_oRepr, ↓q_dUn, ↓q_oNeg, ↓q_dSeq, ↓q_dRet, ↓q_dRetN, ↓q_dIf, ↓q_dAsg, ↓q_dDrop, ↓q_dBreak, ↓q_dCont, ↓q_dNext, ↓q_dOwn, ↓q_dApp, ↓q_dSetIx, ↓q_dFrz, frz, ↓q_dPar, ↓q_dAug, ↓q_dFor, ↓q_dN, ↓q_dNB, ↓q_dC, ↓q_dOp, ↓q_oI, ↓q_oI0, ↓q_oB, ↓q_oEq, ↓q_oEqS, eqS, ↓q_oIsN, isNo, ↓q_oIx, ↓q_oIx_1, ↓q_oIxS, seqOf, ↓q_oCat, ↓q_oCatT, ↓q_oCatS, ↓q_oIn, ↓q_oInS, ↓q_dTb, ↓q_dAnd, ↓q_dOr, ↓q_dNot, ↓q_dYes, ↓q_dAndV, ↓q_dOrV, ↓q_dNotV, ↓q_dIfV, ↓q_dChain, ↓q_dNil, ↓q_dCons, ↓q_dL, ↓q_dTup, ↓q_dCB, ↓q_oAbs, ↓q_oI2, ↓q_oLen, ↓q_oLenS, ↓q_oInt, ↓q_oInt_1, ↓q_oSum, ↓q_oBs, ↓q_oTupOf, ↓q_dSeqOf, ↓q_dIsi, it_bool_none, it_bool_bool, it_bool_int, it_bool_str, it_bool_list, it_bool_tuple, it_bool_dict, it_int_none, it_int_bool, it_int_int, it_int_str, it_int_list, it_int_tuple, it_int_dict, it_str_none, it_str_bool, it_str_int, it_str_str, it_str_list, it_str_tuple, it_str_dict, it_list_none, it_list_bool, it_list_int, it_list_str, it_list_list, it_list_tuple, it_list_dict, it_tuple_none, it_tuple_bool, it_tuple_int, it_tuple_str, it_tuple_list, it_tuple_tuple, it_tuple_dict, it_dict_none, it_dict_bool, it_dict_int, it_dict_str, it_dict_list, it_dict_tuple, it_dict_dict, ↓q_dNoP, ↓q_dPart, ↓q_dSlT, ↓q_dSlL, ↓q_dSlS, ↓q_dCall, ↓q_dCallS, ↓q_dItL, ↓q_dItT, ↓q_dItS, ↓q_dR1, ↓q_dR2, ↓q_dZip, ↓q_dEnum, ↓q_gN, ↓q_gNi, ↓q_gCo, ↓q_gCo_1, ↓q_gT, ↓q_dLc, ↓q_dDc, ↓q_dK, ↓q_oLenD, ↓q_dCL, ↓q_oRep, ↓q_oRepT, ↓q_dSortSet, ↓q_dSort2, ↓q_sSame, ↓q_oStr, ↓q_oIntS, ↓q_oOrd, ↓q_oMulS, ↓q_dM0, ↓q_dM1, ↓q_sLower, ↓q_sUpper, ↓q_sStarts, ↓q_sEnds, ↓q_dSplit, ↓q_dJoin, ↓q_dFmt, ↓q_dJn, ↓q_dJc, ↓q_dFs, ↓q_dDg, ↓q_dDin, ↓q_dDgx, keyOf, Option.isSome_some, wipeE, eget, eset, List.set, ev0, List.map_cons, List.map_nil, List.cons_append, List.nil_append, List.replicate_succ, List.replicate_zero, noOwn, isOwn, List.all_cons, List.all_nil, List.length_cons, List.length_nil, Bool.true_eq_false, not_false_eq_true, not_true_eq_false, List.length_map]
        refine ⟨by omega, by omega, fun r h0 h1 => ?_⟩
        obtain ⟨i, rfl⟩ := Int.eq_ofNat_of_zero_le h0
        have hi : i < rs.length := by omega
        have g1 : rs[i]? = some rs[i] := List.getElem?_eq_getElem hi
        have d1 : dix (rs.map eL) (i : Int) = some (eL rs[i]) := dix_map (by omega) (by rw [Int.toNat_natCast]; exact g1)
        have gi := gr i _ g1
        simp only [d1]
        refine ⟨i, rs[i], rfl, gi, fun b z hb => ?_⟩
        have hs : ∀ (b : LR) (ex : List LR), (rs.take i ++ b :: ex).take i = rs.take i := fun b ex => by
          rw [List.take_left' (by rw [List.length_take]; omega)]
        have fin := hN _ ⟨i, rs[i], b, z, ⟨g1, hb.sz, hb.zok, fun ex => fw_bad gi hb (by rw [hs _ ex]; exact nm_new gr gi (by omega))⟩, rfl⟩
        refine ite2 (fun h => ⟨by decide, by decide, fun r2 h2 h3 => ite2 (fun h4 => ⟨by omega, by omega, fun r5 h5 h6 => ?_⟩) (fun _ => fin)⟩) (fun _ => fin)
        obtain ⟨j, rfl⟩ := Int.eq_ofNat_of_zero_le h5
        have hj : j < rs.length := by omega
        have g2 : rs[j]? = some rs[j] := List.getElem?_eq_getElem hj
        have d2 : dix (rs.map eL) (j : Int) = some (eL rs[j]) := dix_map (by omega) (by rw [Int.toNat_natCast]; exact g2)
        simp only [d2, eL, true_and, ↓q_sTake, ↓q_sTake0, ↓q_sPick, ↓q_sNumber, rng_1, rng_2, rng_3, rng_4, rng_6, ↓q_dKd, dix_0, dix_1, dix_2, dix_3, dix_4, dix_5, dix_6, dix_7, dix_8, dix_9, Bool.not_false, Bool.not_true, Bool.and_true, Bool.true_and, Bool.and_false, Bool.false_and, decide_eq_true_eq, Bool.not_eq_true', decide_eq_false_iff_not, Bool.false_eq_true, if_true, if_false, ↓q_F0, ↓q_F1, ↓q_F2, ↓q_F3, ↓q_F4, ↓q_F5, ↓q_F6, ↓q_dParO1, ↓q_dParO2, ↓q_dEnumT, ↓q_oRepr, ↓q_dUn, ↓q_oNeg, ↓q_dSeq, ↓q_dRet, ↓q_dRetN, ↓q_dIf, ↓q_dAsg, ↓q_dDrop, ↓q_dBreak, ↓q_dCont, ↓q_dNext, ↓q_dOwn, ↓q_dApp, ↓q_dSetIx, ↓q_dFrz, frz, ↓q_dPar, ↓q_dAug, ↓q_dFor, ↓q_dN, ↓q_dNB, ↓q_dC, ↓q_dOp, ↓q_oI, ↓q_oI0, ↓q_oB, ↓q_oEq, ↓q_oEqS, eqS, ↓q_oIsN, isNo, ↓q_oIx, ↓q_oIx_1, ↓q_oIxS, seqOf, ↓q_oCat, ↓q_oCatT, ↓q_oCatS, ↓q_oIn, ↓q_oInS, ↓q_dTb, ↓q_dAnd, ↓q_dOr, ↓q_dNot, ↓q_dYes, ↓q_dAndV, ↓q_dOrV, ↓q_dNotV, ↓q_dIfV, ↓q_dChain, ↓q_dNil, ↓q_dCons, ↓q_dL, ↓q_dTup, ↓q_dCB, ↓q_oAbs, ↓q_oI2, ↓q_oLen, ↓q_oLenS, ↓q_oInt, ↓q_oInt_1, ↓q_oSum, ↓q_oBs, ↓q_oTupOf, ↓q_dSeqOf, ↓q_dIsi, it_bool_none, it_bool_bool, it_bool_int, it_bool_str, it_bool_list, it_bool_tuple, it_bool_dict, it_int_none, it_int_bool, it_int_int, it_int_str, it_int_list, it_int_tuple, it_int_dict, it_str_none, it_str_bool, it_str_int, it_str_str, it_str_list, it_str_tuple, it_str_dict, it_list_none, it_list_bool, it_list_int, it_list_str, it_list_list, it_list_tuple, it_list_dict, it_tuple_none, it_tuple_bool, it_tuple_int, it_tuple_str, it_tuple_list, it_tuple_tuple, it_tuple_dict, it_dict_none, it_dict_bool, it_dict_int, it_dict_str, it_dict_list, it_dict_tuple, it_dict_dict, ↓q_dNoP, ↓q_dPart, ↓q_dSlT, ↓q_dSlL, ↓q_dSlS, ↓q_dCall, ↓q_dCallS, ↓q_dItL, ↓q_dItT, ↓q_dItS, ↓q_dR1, ↓q_dR2, ↓q_dZip, ↓q_dEnum, ↓q_gN, ↓q_gNi, ↓q_gCo, ↓q_gCo_1, ↓q_gT, ↓q_dLc, ↓q_dDc, ↓q_dK, ↓q_oLenD, ↓q_dCL, ↓q_oRep, ↓q_oRepT, ↓q_dSortSet, ↓q_dSort2, ↓q_sSame, ↓q_oStr, ↓q_oIntS, ↓q_oOrd, ↓q_oMulS, ↓q_dM0, ↓q_dM1, ↓q_sLower, ↓q_sUpper, ↓q_sStarts, ↓q_sEnds, ↓q_dSplit, ↓q_dJoin, ↓q_dFmt, ↓q_dJn, ↓q_dJc, ↓q_dFs, ↓q_dDg, ↓q_dDin, ↓q_dDgx, keyOf, Option.isSome_some, wipeE, eget, eset, List.set, ev0, List.map_cons, List.map_nil, List.cons_append, List.nil_append, List.replicate_succ, List.replicate_zero, noOwn, isOwn, List.all_cons, List.all_nil, List.length_cons, List.length_nil, Bool.true_eq_false, not_false_eq_true, not_true_eq_false]
        refine hN _ ⟨i, rs[i], (rs[j].1, .str (Str.ofString "bag"), .tuple [], .tuple []), Str.ofString "twice", ⟨g1, ⟨(gr j _ g2).sz.1, (gr j _ g2).sz.2.1, rfl, Nat.zero_le _, Nat.zero_le _, (fun _ h => nomatch h)⟩, by decide +kernel, fun ex => fw_twice (gr j _ g2).nm ?_⟩, rfl⟩
        rw [hs _ ex]
        obtain ⟨a, ha⟩ := isNm_str (gr j _ g2).nm
        unfold inD
        refine List.any_eq_true.mpr ⟨rs[j].1, List.mem_map.mpr ⟨rs[j], List.mem_of_getElem? (i := j) ?_, rfl⟩, ?_⟩
        · rw [List.getElem?_take, if_pos (by omega), g2]
        · rw [ha, eqv_strs, decide_eq_true_eq]
      rintro env ⟨at', r, b, z, ⟨hr, hb, hz, hw⟩, rfl⟩
      have hat := (List.getElem?_eq_some_iff.mp hr).1
      simp only [true_and, ↓q_sTake, ↓q_sTake0, ↓q_sPick, ↓q_sNumber, rng_1, rng_2, rng_3, rng_4, rng_6, ↓q_dKd, dix_0, dix_1, dix_2, dix_3, dix_4, dix_5, dix_6, dix_7, dix_8, dix_9, Bool.not_false, Bool.not_true, Bool.and_true, Bool.true_and, Bool.and_false, Bool.false_and, decide_eq_true_eq, Bool.not_eq_true', decide_eq_false_iff_not, Bool.false_eq_true, if_true, if_false, ↓q_F0, ↓q_F1, ↓q_F2, ↓q_F3, ↓q_F4, ↓q_F5, ↓q_F6, ↓q_dParO1, ↓q_dParO2, ↓q_dEnumT, ↓q_oRepr, ↓q_dUn, ↓q_oNeg, ↓q_dSeq, ↓q_dRet, ↓q_dRetN, ↓q_dIf, ↓q_dAsg, ↓q_dDrop, ↓q_dBreak, ↓q_dCont, ↓q_dNext, ↓q_dOwn, ↓q_dApp, ↓q_dSetIx, ↓q_dFrz, frz, ↓q_dPar, ↓q_dAug, ↓q_dFor, ↓q_dN, ↓q_dNB, ↓q_dC, ↓q_dOp, ↓q_oI, ↓q_oI0, ↓q_oB, ↓q_oEq, ↓q_oEqS, eqS, ↓q_oIsN, isNo, ↓q_oIx, ↓q_oIx_1, ↓q_oIxS, seqOf, ↓q_oCat, ↓q_oCatT, ↓q_oCatS, ↓q_oIn, ↓q_oInS, ↓q_dTb, ↓q_dAnd, ↓q_dOr, ↓q_dNot, ↓q_dYes, ↓q_dAndV, ↓q_dOrV, ↓q_dNotV, ↓q_dIfV, ↓q_dChain, ↓q_dNil, ↓q_dCons, ↓q_dL, ↓q_dTup, ↓q_dCB, ↓q_oAbs, ↓q_oI2, ↓q_oLen, ↓q_oLenS, ↓q_oInt, ↓q_oInt_1, ↓q_oSum, ↓q_oBs, ↓q_oTupOf, ↓q_dSeqOf, ↓q_dIsi, it_bool_none, it_bool_bool, it_bool_int, it_bool_str, it_bool_list, it_bool_tuple, it_bool_dict, it_int_none, it_int_bool, it_int_int, it_int_str, it_int_list, it_int_tuple, it_int_dict, it_str_none, it_str_bool, it_str_int, it_str_str, it_str_list, it_str_tuple, it_str_dict, it_list_none, it_list_bool, it_list_int, it_list_str, it_list_list, it_list_tuple, it_list_dict, it_tuple_none, it_tuple_bool, it_tuple_int, it_tuple_str, it_tuple_list, it_tuple_tuple, it_tuple_dict, it_dict_none, it_dict_bool, it_dict_int, it_dict_str, it_dict_list, it_dict_tuple, it_dict_dict, ↓q_dNoP, ↓q_dPart, ↓q_dSlT, ↓q_dSlL, ↓q_dSlS, ↓q_dCall, ↓q_dCallS, ↓q_dItL, ↓q_dItT, ↓q_dItS, ↓q_dR1, ↓q_dR2, ↓q_dZip, ↓q_dEnum, ↓q_gN, ↓q_gNi, ↓q_gCo, ↓q_gCo_1, ↓q_gT, ↓q_dLc, ↓q_dDc, ↓q_dK, ↓q_oLenD, ↓q_dCL, ↓q_oRep, ↓q_oRepT, ↓q_dSortSet, ↓q_dSort2, ↓q_sSame, ↓q_oStr, ↓q_oIntS, ↓q_oOrd, ↓q_oMulS, ↓q_dM0, ↓q_dM1, ↓q_sLower, ↓q_sUpper, ↓q_sStarts, ↓q_sEnds, ↓q_dSplit, ↓q_dJoin, ↓q_dFmt, ↓q_dJn, ↓q_dJc, ↓q_dFs, ↓q_dDg, ↓q_dDin, ↓q_dDgx, keyOf, Option.isSome_some, wipeE, eget, eset, List.set, ev0, List.map_cons, List.map_nil, List.cons_append, List.nil_append, List.replicate_succ, List.replicate_zero, noOwn, isOwn, List.all_cons, List.all_nil, List.length_cons, List.length_nil, Bool.true_eq_false, not_false_eq_true, not_true_eq_false, List.length_map]
      rw [cut_lo _ (show (0 : Int) ≤ (at' : Nat) by omega), cut_hi _ (show (0 : Int) ≤ (at' : Nat) + 1 by omega), Int.toNat_natCast, show (((at' : Nat) : Int) + 1).toNat = at' + 1 by omega, ← List.map_take, ← List.map_drop]
      have hX : (rs.take at').map eL ++ [eL b] ++ (rs.drop (at' + 1)).map eL = (rs.take at' ++ b :: rs.drop (at' + 1)).map eL := by rw [List.map_append, List.map_cons, List.append_assoc]; rfl
      have hRl : (rs.take at' ++ b :: rs.drop (at' + 1)).length = rs.length := by rw [List.length_append, List.length_cons, List.length_take, List.length_drop]; omega
      have hLS : ∀ q ∈ rs.take at' ++ b :: rs.drop (at' + 1), LSz q := fun q hq => by
        rcases List.mem_append.mp hq with h | h
        · exact hsz q (List.mem_of_mem_take h)
        · rcases List.mem_cons.mp h with rfl | h
          · exact hb
          · exact hsz q (List.mem_of_mem_drop h)
      have fl := flt_spoilt gr hat (ex := rs.drop (at' + 1)) (by omega) (hw _)
      have hRm : ((rs.take at' ++ b :: rs.drop (at' + 1)).map eL).length = rs.length := by rw [List.length_map]; exact hRl
      rw [hX, hRm]
      refine ⟨by rw [sizeLine_eq, List.length_map, List.length_take]; omega, by rw [sizeLine_eq, List.length_append, List.length_map, List.length_take, List.length_map, List.length_drop, List.length_singleton]; omega, by decide, by decide, fun r h0 h1 => ?_⟩
      have ok' : okD (.tuple [.int (at' : Nat), .str z]) = true := ok2 (by omega) (by omega) hz
      have nf : ∀ (ex : List LR) (G : Prop), flt (rs.take at' ++ b :: ex) = .tuple [.int (at' : Nat), .str z] → G → okD (flt (rs.take at' ++ b :: ex)) = true ∧ okD (.tuple [.int (at' : Nat), .str z]) = true ∧ if PyData.eqv (flt (rs.take at' ++ b :: ex)) (.tuple [.int (at' : Nat), .str z]) = false then PyData.bool false = PyData.bool true else G := fun ex G e hG => by
        rw [e]
        exact ⟨ok', ok', ite_nf ok' rfl hG⟩
      refine ite2 (fun h => ?_) (fun h => ?_)
      · by_cases c : rs.length < 16
        · rw [if_pos (show ((rs.length : Nat) : Int) < 16 by omega)]
          have hX0 : LSz (.str (Str.ofString ""), .str (Str.ofString "bag"), .tuple [], .tuple []) := ⟨by decide +kernel, rfl, rfl, Nat.zero_le _, Nat.zero_le _, (fun _ h => nomatch h)⟩
          have fl2 := flt_spoilt gr hat (ex := rs.drop (at' + 1) ++ [(.str (Str.ofString ""), .str (Str.ofString "bag"), .tuple [], .tuple [])]) (by rw [← List.cons_append, ← List.append_assoc, List.length_append, hRl, List.length_singleton]; omega) (hw _)
          refine ⟨⟨by decide, by decide⟩, by decide, by rw [sizeLine_eq]; show rs.length + 1 ≤ 16777216; omega, _, ?_, fun q hq => ?_, nf _ _ fl2 ⟨rs, rfl, hsz, ?_⟩⟩
          · rw [← List.cons_append, ← List.append_assoc, List.map_append (l₁ := rs.take at' ++ b :: rs.drop (at' + 1))]
            rfl
          · rw [← List.cons_append, ← List.append_assoc] at hq
            rcases List.mem_append.mp hq with h | h
            · exact hLS q h
            · rw [List.mem_singleton] at h
              subst h
              exact hX0
          · rw [flt_none gr hl]
            simp only [true_and, ↓q_sTake, ↓q_sTake0, ↓q_sPick, ↓q_sNumber, rng_1, rng_2, rng_3, rng_4, rng_6, ↓q_dKd, dix_0, dix_1, dix_2, dix_3, dix_4, dix_5, dix_6, dix_7, dix_8, dix_9, Bool.not_false, Bool.not_true, Bool.and_true, Bool.true_and, Bool.and_false, Bool.false_and, decide_eq_true_eq, Bool.not_eq_true', decide_eq_false_iff_not, Bool.false_eq_true, if_true, if_false, ↓q_F0, ↓q_F1, ↓q_F2, ↓q_F3, ↓q_F4, ↓q_F5, ↓q_F6, ↓q_dParO1, ↓q_dParO2, ↓q_dEnumT, ↓q_oRepr, ↓q_dUn, ↓q_oNeg, ↓q_dSeq, ↓q_dRet, ↓q_dRetN, ↓q_dIf, ↓q_dAsg, ↓q_dDrop, ↓q_dBreak, ↓q_dCont, ↓q_dNext, ↓q_dOwn, ↓q_dApp, ↓q_dSetIx, ↓q_dFrz, frz, ↓q_dPar, ↓q_dAug, ↓q_dFor, ↓q_dN, ↓q_dNB, ↓q_dC, ↓q_dOp, ↓q_oI, ↓q_oI0, ↓q_oB, ↓q_oEq, ↓q_oEqS, eqS, ↓q_oIsN, isNo, ↓q_oIx, ↓q_oIx_1, ↓q_oIxS, seqOf, ↓q_oCat, ↓q_oCatT, ↓q_oCatS, ↓q_oIn, ↓q_oInS, ↓q_dTb, ↓q_dAnd, ↓q_dOr, ↓q_dNot, ↓q_dYes, ↓q_dAndV, ↓q_dOrV, ↓q_dNotV, ↓q_dIfV, ↓q_dChain, ↓q_dNil, ↓q_dCons, ↓q_dL, ↓q_dTup, ↓q_dCB, ↓q_oAbs, ↓q_oI2, ↓q_oLen, ↓q_oLenS, ↓q_oInt, ↓q_oInt_1, ↓q_oSum, ↓q_oBs, ↓q_oTupOf, ↓q_dSeqOf, ↓q_dIsi, it_bool_none, it_bool_bool, it_bool_int, it_bool_str, it_bool_list, it_bool_tuple, it_bool_dict, it_int_none, it_int_bool, it_int_int, it_int_str, it_int_list, it_int_tuple, it_int_dict, it_str_none, it_str_bool, it_str_int, it_str_str, it_str_list, it_str_tuple, it_str_dict, it_list_none, it_list_bool, it_list_int, it_list_str, it_list_list, it_list_tuple, it_list_dict, it_tuple_none, it_tuple_bool, it_tuple_int, it_tuple_str, it_tuple_list, it_tuple_tuple, it_tuple_dict, it_dict_none, it_dict_bool, it_dict_int, it_dict_str, it_dict_list, it_dict_tuple, it_dict_dict, ↓q_dNoP, ↓q_dPart, ↓q_dSlT, ↓q_dSlL, ↓q_dSlS, ↓q_dCall, ↓q_dCallS, ↓q_dItL, ↓q_dItT, ↓q_dItS, ↓q_dR1, ↓q_dR2, ↓q_dZip, ↓q_dEnum, ↓q_gN, ↓q_gNi, ↓q_gCo, ↓q_gCo_1, ↓q_gT, ↓q_dLc, ↓q_dDc, ↓q_dK, ↓q_oLenD, ↓q_dCL, ↓q_oRep, ↓q_oRepT, ↓q_dSortSet, ↓q_dSort2, ↓q_sSame, ↓q_oStr, ↓q_oIntS, ↓q_oOrd, ↓q_oMulS, ↓q_dM0, ↓q_dM1, ↓q_sLower, ↓q_sUpper, ↓q_sStarts, ↓q_sEnds, ↓q_dSplit, ↓q_dJoin, ↓q_dFmt, ↓q_dJn, ↓q_dJc, ↓q_dFs, ↓q_dDg, ↓q_dDin, ↓q_dDgx, keyOf, Option.isSome_some, wipeE, eget, eset, List.set, ev0, List.map_cons, List.map_nil, List.cons_append, List.nil_append, List.replicate_succ, List.replicate_zero, noOwn, isOwn, List.all_cons, List.all_nil, List.length_cons, List.length_nil, Bool.true_eq_false, not_false_eq_true, not_true_eq_false]
            exact hN2 _ ⟨_, _, _, _, _, rfl⟩
        · rw [if_neg (show ¬ ((rs.length : Nat) : Int) < 16 by omega)]
          refine ⟨⟨by decide, by decide⟩, by decide, by rw [sizeLine_eq]; show rs.length + 0 ≤ 16777216; omega, _, ?_, hLS, nf _ _ fl ⟨rs, rfl, hsz, ?_⟩⟩
          · show PyData.tuple (_ ++ []) = _
            rw [List.append_nil]
          · rw [flt_none gr hl]
            simp only [true_and, ↓q_sTake, ↓q_sTake0, ↓q_sPick, ↓q_sNumber, rng_1, rng_2, rng_3, rng_4, rng_6, ↓q_dKd, dix_0, dix_1, dix_2, dix_3, dix_4, dix_5, dix_6, dix_7, dix_8, dix_9, Bool.not_false, Bool.not_true, Bool.and_true, Bool.true_and, Bool.and_false, Bool.false_and, decide_eq_true_eq, Bool.not_eq_true', decide_eq_false_iff_not, Bool.false_eq_true, if_true, if_false, ↓q_F0, ↓q_F1, ↓q_F2, ↓q_F3, ↓q_F4, ↓q_F5, ↓q_F6, ↓q_dParO1, ↓q_dParO2, ↓q_dEnumT, ↓q_oRepr, ↓q_dUn, ↓q_oNeg, ↓q_dSeq, ↓q_dRet, ↓q_dRetN, ↓q_dIf, ↓q_dAsg, ↓q_dDrop, ↓q_dBreak, ↓q_dCont, ↓q_dNext, ↓q_dOwn, ↓q_dApp, ↓q_dSetIx, ↓q_dFrz, frz, ↓q_dPar, ↓q_dAug, ↓q_dFor, ↓q_dN, ↓q_dNB, ↓q_dC, ↓q_dOp, ↓q_oI, ↓q_oI0, ↓q_oB, ↓q_oEq, ↓q_oEqS, eqS, ↓q_oIsN, isNo, ↓q_oIx, ↓q_oIx_1, ↓q_oIxS, seqOf, ↓q_oCat, ↓q_oCatT, ↓q_oCatS, ↓q_oIn, ↓q_oInS, ↓q_dTb, ↓q_dAnd, ↓q_dOr, ↓q_dNot, ↓q_dYes, ↓q_dAndV, ↓q_dOrV, ↓q_dNotV, ↓q_dIfV, ↓q_dChain, ↓q_dNil, ↓q_dCons, ↓q_dL, ↓q_dTup, ↓q_dCB, ↓q_oAbs, ↓q_oI2, ↓q_oLen, ↓q_oLenS, ↓q_oInt, ↓q_oInt_1, ↓q_oSum, ↓q_oBs, ↓q_oTupOf, ↓q_dSeqOf, ↓q_dIsi, it_bool_none, it_bool_bool, it_bool_int, it_bool_str, it_bool_list, it_bool_tuple, it_bool_dict, it_int_none, it_int_bool, it_int_int, it_int_str, it_int_list, it_int_tuple, it_int_dict, it_str_none, it_str_bool, it_str_int, it_str_str, it_str_list, it_str_tuple, it_str_dict, it_list_none, it_list_bool, it_list_int, it_list_str, it_list_list, it_list_tuple, it_list_dict, it_tuple_none, it_tuple_bool, it_tuple_int, it_tuple_str, it_tuple_list, it_tuple_tuple, it_tuple_dict, it_dict_none, it_dict_bool, it_dict_int, it_dict_str, it_dict_list, it_dict_tuple, it_dict_dict, ↓q_dNoP, ↓q_dPart, ↓q_dSlT, ↓q_dSlL, ↓q_dSlS, ↓q_dCall, ↓q_dCallS, ↓q_dItL, ↓q_dItT, ↓q_dItS, ↓q_dR1, ↓q_dR2, ↓q_dZip, ↓q_dEnum, ↓q_gN, ↓q_gNi, ↓q_gCo, ↓q_gCo_1, ↓q_gT, ↓q_dLc, ↓q_dDc, ↓q_dK, ↓q_oLenD, ↓q_dCL, ↓q_oRep, ↓q_oRepT, ↓q_dSortSet, ↓q_dSort2, ↓q_sSame, ↓q_oStr, ↓q_oIntS, ↓q_oOrd, ↓q_oMulS, ↓q_dM0, ↓q_dM1, ↓q_sLower, ↓q_sUpper, ↓q_sStarts, ↓q_sEnds, ↓q_dSplit, ↓q_dJoin, ↓q_dFmt, ↓q_dJn, ↓q_dJc, ↓q_dFs, ↓q_dDg, ↓q_dDin, ↓q_dDgx, keyOf, Option.isSome_some, wipeE, eget, eset, List.set, ev0, List.map_cons, List.map_nil, List.cons_append, List.nil_append, List.replicate_succ, List.replicate_zero, noOwn, isOwn, List.all_cons, List.all_nil, List.length_cons, List.length_nil, Bool.true_eq_false, not_false_eq_true, not_true_eq_false]
            exact hN2 _ ⟨_, _, _, _, _, rfl⟩
      · refine ⟨_, rfl, hLS, nf _ _ fl ⟨rs, rfl, hsz, ?_⟩⟩
        rw [flt_none gr hl]
        simp only [true_and, ↓q_sTake, ↓q_sTake0, ↓q_sPick, ↓q_sNumber, rng_1, rng_2, rng_3, rng_4, rng_6, ↓q_dKd, dix_0, dix_1, dix_2, dix_3, dix_4, dix_5, dix_6, dix_7, dix_8, dix_9, Bool.not_false, Bool.not_true, Bool.and_true, Bool.true_and, Bool.and_false, Bool.false_and, decide_eq_true_eq, Bool.not_eq_true', decide_eq_false_iff_not, Bool.false_eq_true, if_true, if_false, ↓q_F0, ↓q_F1, ↓q_F2, ↓q_F3, ↓q_F4, ↓q_F5, ↓q_F6, ↓q_dParO1, ↓q_dParO2, ↓q_dEnumT, ↓q_oRepr, ↓q_dUn, ↓q_oNeg, ↓q_dSeq, ↓q_dRet, ↓q_dRetN, ↓q_dIf, ↓q_dAsg, ↓q_dDrop, ↓q_dBreak, ↓q_dCont, ↓q_dNext, ↓q_dOwn, ↓q_dApp, ↓q_dSetIx, ↓q_dFrz, frz, ↓q_dPar, ↓q_dAug, ↓q_dFor, ↓q_dN, ↓q_dNB, ↓q_dC, ↓q_dOp, ↓q_oI, ↓q_oI0, ↓q_oB, ↓q_oEq, ↓q_oEqS, eqS, ↓q_oIsN, isNo, ↓q_oIx, ↓q_oIx_1, ↓q_oIxS, seqOf, ↓q_oCat, ↓q_oCatT, ↓q_oCatS, ↓q_oIn, ↓q_oInS, ↓q_dTb, ↓q_dAnd, ↓q_dOr, ↓q_dNot, ↓q_dYes, ↓q_dAndV, ↓q_dOrV, ↓q_dNotV, ↓q_dIfV, ↓q_dChain, ↓q_dNil, ↓q_dCons, ↓q_dL, ↓q_dTup, ↓q_dCB, ↓q_oAbs, ↓q_oI2, ↓q_oLen, ↓q_oLenS, ↓q_oInt, ↓q_oInt_1, ↓q_oSum, ↓q_oBs, ↓q_oTupOf, ↓q_dSeqOf, ↓q_dIsi, it_bool_none, it_bool_bool, it_bool_int, it_bool_str, it_bool_list, it_bool_tuple, it_bool_dict, it_int_none, it_int_bool, it_int_int, it_int_str, it_int_list, it_int_tuple, it_int_dict, it_str_none, it_str_bool, it_str_int, it_str_str, it_str_list, it_str_tuple, it_str_dict, it_list_none, it_list_bool, it_list_int, it_list_str, it_list_list, it_list_tuple, it_list_dict, it_tuple_none, it_tuple_bool, it_tuple_int, it_tuple_str, it_tuple_list, it_tuple_tuple, it_tuple_dict, it_dict_none, it_dict_bool, it_dict_int, it_dict_str, it_dict_list, it_dict_tuple, it_dict_dict, ↓q_dNoP, ↓q_dPart, ↓q_dSlT, ↓q_dSlL, ↓q_dSlS, ↓q_dCall, ↓q_dCallS, ↓q_dItL, ↓q_dItT, ↓q_dItS, ↓q_dR1, ↓q_dR2, ↓q_dZip, ↓q_dEnum, ↓q_gN, ↓q_gNi, ↓q_gCo, ↓q_gCo_1, ↓q_gT, ↓q_dLc, ↓q_dDc, ↓q_dK, ↓q_oLenD, ↓q_dCL, ↓q_oRep, ↓q_oRepT, ↓q_dSortSet, ↓q_dSort2, ↓q_sSame, ↓q_oStr, ↓q_oIntS, ↓q_oOrd, ↓q_oMulS, ↓q_dM0, ↓q_dM1, ↓q_sLower, ↓q_sUpper, ↓q_sStarts, ↓q_sEnds, ↓q_dSplit, ↓q_dJoin, ↓q_dFmt, ↓q_dJn, ↓q_dJc, ↓q_dFs, ↓q_dDg, ↓q_dDin, ↓q_dDgx, keyOf, Option.isSome_some, wipeE, eget, eset, List.set, ev0, List.map_cons, List.map_nil, List.cons_append, List.nil_append, List.replicate_succ, List.replicate_zero, noOwn, isOwn, List.all_cons, List.all_nil, List.length_cons, List.length_nil, Bool.true_eq_false, not_false_eq_true, not_true_eq_false]
        exact hN2 _ ⟨_, _, _, _, _, rfl⟩
  rintro env ⟨s4, s5, s6, s7, s8, rfl⟩
  refine seq_mid2 (fun e => ∃ (s9 : Option En) (k : D) (o : Option Int) (i s : D), ((∃ z, k = .str z ∧ (PyData.strOk z && decide (z.cps.size ≤ 40)) = true) ∧ (∀ x, o = some x → 0 ≤ x ∧ x < 2 ^ 32) ∧ (i = .none ∨ i = .int 5) ∧ (s = .none ∨ s = .str (Str.ofString "web"))) ∧ e = [none, some .st, some (.d (.list (rs.map eL))), some (.d (.tuple (MN.map eL))), s4, s5, s6, s7, s8, s9, some (.d (.tuple [k, eO o, i, s])), none, none, none, none, none]) (fun N hN => ?_) ?_
  · simp only [true_and, ↓q_sTake, ↓q_sTake0, ↓q_sPick, ↓q_sNumber, rng_1, rng_2, rng_3, rng_4, rng_6, ↓q_dKd, dix_0, dix_1, dix_2, dix_3, dix_4, dix_5, dix_6, dix_7, dix_8, dix_9, Bool.not_false, Bool.not_true, Bool.and_true, Bool.true_and, Bool.and_false, Bool.false_and, decide_eq_true_eq, Bool.not_eq_true', decide_eq_false_iff_not, Bool.false_eq_true, if_true, if_false, ↓q_F0, ↓q_F1, ↓q_F2, ↓q_F3, ↓q_F4, ↓q_F5, ↓q_F6, ↓q_dParO1, ↓q_dParO2, ↓q_dEnumT, ↓q_oRepr, ↓q_dUn, ↓q_oNeg, ↓q_dSeq, ↓q_dRet, ↓q_dRetN, ↓q_dIf, ↓q_dAsg, ↓q_dDrop, ↓q_dBreak, ↓q_dCont, ↓q_dNext, ↓q_dOwn, ↓q_dApp, ↓q_dSetIx, ↓q_dFrz, frz, ↓q_dPar, ↓q_dAug, ↓q_dFor, ↓q_dN, ↓q_dNB, ↓q_dC, ↓q_dOp, ↓q_oI, ↓q_oI0, ↓q_oB, ↓q_oEq, ↓q_oEqS, eqS, ↓q_oIsN, isNo, ↓q_oIx, ↓q_oIx_1, ↓q_oIxS, seqOf, ↓q_oCat, ↓q_oCatT, ↓q_oCatS, ↓q_oIn, ↓q_oInS, ↓q_dTb, ↓q_dAnd, ↓q_dOr, ↓q_dNot, ↓q_dYes, ↓q_dAndV, ↓q_dOrV, ↓q_dNotV, ↓q_dIfV, ↓q_dChain, ↓q_dNil, ↓q_dCons, ↓q_dL, ↓q_dTup, ↓q_dCB, ↓q_oAbs, ↓q_oI2, ↓q_oLen, ↓q_oLenS, ↓q_oInt, ↓q_oInt_1, ↓q_oSum, ↓q_oBs, ↓q_oTupOf, ↓q_dSeqOf, ↓q_dIsi, it_bool_none, it_bool_bool, it_bool_int, it_bool_str, it_bool_list, it_bool_tuple, it_bool_dict, it_int_none, it_int_bool, it_int_int, it_int_str, it_int_list, it_int_tuple, it_int_dict, it_str_none, it_str_bool, it_str_int, it_str_str, it_str_list, it_str_tuple, it_str_dict, it_list_none, it_list_bool, it_list_int, it_list_str, it_list_list, it_list_tuple, it_list_dict, it_tuple_none, it_tuple_bool, it_tuple_int, it_tuple_str, it_tuple_list, it_tuple_tuple, it_tuple_dict, it_dict_none, it_dict_bool, it_dict_int, it_dict_str, it_dict_list, it_dict_tuple, it_dict_dict, ↓q_dNoP, ↓q_dPart, ↓q_dSlT, ↓q_dSlL, ↓q_dSlS, ↓q_dCall, ↓q_dCallS, ↓q_dItL, ↓q_dItT, ↓q_dItS, ↓q_dR1, ↓q_dR2, ↓q_dZip, ↓q_dEnum, ↓q_gN, ↓q_gNi, ↓q_gCo, ↓q_gCo_1, ↓q_gT, ↓q_dLc, ↓q_dDc, ↓q_dK, ↓q_oLenD, ↓q_dCL, ↓q_oRep, ↓q_oRepT, ↓q_dSortSet, ↓q_dSort2, ↓q_sSame, ↓q_oStr, ↓q_oIntS, ↓q_oOrd, ↓q_oMulS, ↓q_dM0, ↓q_dM1, ↓q_sLower, ↓q_sUpper, ↓q_sStarts, ↓q_sEnds, ↓q_dSplit, ↓q_dJoin, ↓q_dFmt, ↓q_dJn, ↓q_dJc, ↓q_dFs, ↓q_dDg, ↓q_dDin, ↓q_dDgx, keyOf, Option.isSome_some, wipeE, eget, eset, List.set, ev0, List.map_cons, List.map_nil, List.cons_append, List.nil_append, List.replicate_succ, List.replicate_zero, noOwn, isOwn, List.all_cons, List.all_nil, List.length_cons, List.length_nil, Bool.true_eq_false, not_false_eq_true, not_true_eq_false]
    refine ⟨by decide, by decide, fun r h0 h1 => ⟨by decide, by decide, fun r1 h2 h3 => dix_all h2 h3 fun d hd => ⟨by decide, by decide, fun r2 h4 h5 => dix_all (ds := KI) h4 h5 fun k hk => ⟨by decide, by decide, fun r3 h6 h7 => dix_all h6 h7 fun o ho => ⟨by decide, by decide, fun r4 h8 h9 => dix_all h8 h9 fun i hi => ⟨by decide, by decide, fun r5 ha hb => dix_all ha hb fun s hs => ?_⟩⟩⟩⟩⟩⟩
    simp only [List.mem_cons, List.not_mem_nil, or_false] at hd ho hi hs
    obtain ⟨x, rfl, hx⟩ : ∃ x : Int, d = .int x ∧ 0 ≤ x ∧ x < 2 ^ 32 := by
      rcases hd with rfl | rfl | rfl
      · exact ⟨0, rfl, by decide, by decide⟩
      · exact ⟨4294967295, rfl, by decide, by decide⟩
      · exact ⟨r, rfl, h0, by omega⟩
    obtain ⟨o', rfl, ho'⟩ : ∃ o' : Option Int, o = eO o' ∧ ∀ y, o' = some y → 0 ≤ y ∧ y < 2 ^ 32 := by
      rcases ho with rfl | rfl | rfl
      · exact ⟨none, rfl, fun _ h => nomatch h⟩
      · exact ⟨some x, rfl, fun y e => by cases e; exact hx⟩
      · exact ⟨some x, rfl, fun y e => by cases e; exact hx⟩
    exact hN _ ⟨_, k, o', i, s, ⟨kiF k hk, ho', hi, hs⟩, rfl⟩
  rintro env ⟨s9, k, o, i, s, ⟨hk, ho, hi, hs⟩, rfl⟩
  refine seq_mid1 (fun e => ∃ s11 : Option En, e = [none, some .st, some (.d (.list (rs.map eL))), some (.d (.tuple (MN.map eL))), s4, s5, s6, s7, s8, s9, some (.d (.tuple [k, eO o, i, s])), s11, none, none, none, none]) (fun N hN => ?_) ?_
  · simp only [true_and, ↓q_sTake, ↓q_sTake0, ↓q_sPick, ↓q_sNumber, rng_1, rng_2, rng_3, rng_4, rng_6, ↓q_dKd, dix_0, dix_1, dix_2, dix_3, dix_4, dix_5, dix_6, dix_7, dix_8, dix_9, Bool.not_false, Bool.not_true, Bool.and_true, Bool.true_and, Bool.and_false, Bool.false_and, decide_eq_true_eq, Bool.not_eq_true', decide_eq_false_iff_not, Bool.false_eq_true, if_true, if_false, ↓q_F0, ↓q_F1, ↓q_F2, ↓q_F3, ↓q_F4, ↓q_F5, ↓q_F6, ↓q_dParO1, ↓q_dParO2, ↓q_dEnumT, ↓q_oRepr, ↓q_dUn, ↓q_oNeg, ↓q_dSeq, ↓q_dRet, ↓q_dRetN, ↓q_dIf, ↓q_dAsg, ↓q_dDrop, ↓q_dBreak, ↓q_dCont, ↓q_dNext, ↓q_dOwn, ↓q_dApp, ↓q_dSetIx, ↓q_dFrz, frz, ↓q_dPar, ↓q_dAug, ↓q_dFor, ↓q_dN, ↓q_dNB, ↓q_dC, ↓q_dOp, ↓q_oI, ↓q_oI0, ↓q_oB, ↓q_oEq, ↓q_oEqS, eqS, ↓q_oIsN, isNo, ↓q_oIx, ↓q_oIx_1, ↓q_oIxS, seqOf, ↓q_oCat, ↓q_oCatT, ↓q_oCatS, ↓q_oIn, ↓q_oInS, ↓q_dTb, ↓q_dAnd, ↓q_dOr, ↓q_dNot, ↓q_dYes, ↓q_dAndV, ↓q_dOrV, ↓q_dNotV, ↓q_dIfV, ↓q_dChain, ↓q_dNil, ↓q_dCons, ↓q_dL, ↓q_dTup, ↓q_dCB, ↓q_oAbs, ↓q_oI2, ↓q_oLen, ↓q_oLenS, ↓q_oInt, ↓q_oInt_1, ↓q_oSum, ↓q_oBs, ↓q_oTupOf, ↓q_dSeqOf, ↓q_dIsi, it_bool_none, it_bool_bool, it_bool_int, it_bool_str, it_bool_list, it_bool_tuple, it_bool_dict, it_int_none, it_int_bool, it_int_int, it_int_str, it_int_list, it_int_tuple, it_int_dict, it_str_none, it_str_bool, it_str_int, it_str_str, it_str_list, it_str_tuple, it_str_dict, it_list_none, it_list_bool, it_list_int, it_list_str, it_list_list, it_list_tuple, it_list_dict, it_tuple_none, it_tuple_bool, it_tuple_int, it_tuple_str, it_tuple_list, it_tuple_tuple, it_tuple_dict, it_dict_none, it_dict_bool, it_dict_int, it_dict_str, it_dict_list, it_dict_tuple, it_dict_dict, ↓q_dNoP, ↓q_dPart, ↓q_dSlT, ↓q_dSlL, ↓q_dSlS, ↓q_dCall, ↓q_dCallS, ↓q_dItL, ↓q_dItT, ↓q_dItS, ↓q_dR1, ↓q_dR2, ↓q_dZip, ↓q_dEnum, ↓q_gN, ↓q_gNi, ↓q_gCo, ↓q_gCo_1, ↓q_gT, ↓q_dLc, ↓q_dDc, ↓q_dK, ↓q_oLenD, ↓q_dCL, ↓q_oRep, ↓q_oRepT, ↓q_dSortSet, ↓q_dSort2, ↓q_sSame, ↓q_oStr, ↓q_oIntS, ↓q_oOrd, ↓q_oMulS, ↓q_dM0, ↓q_dM1, ↓q_sLower, ↓q_sUpper, ↓q_sStarts, ↓q_sEnds, ↓q_dSplit, ↓q_dJoin, ↓q_dFmt, ↓q_dJn, ↓q_dJc, ↓q_dFs, ↓q_dDg, ↓q_dDin, ↓q_dDgx, keyOf, Option.isSome_some, wipeE, eget, eset, List.set, ev0, List.map_cons, List.map_nil, List.cons_append, List.nil_append, List.replicate_succ, List.replicate_zero, noOwn, isOwn, List.all_cons, List.all_nil, List.length_cons, List.length_nil, Bool.true_eq_false, not_false_eq_true, not_true_eq_false]
    refine ⟨by rw [sizeLine_eq, List.length_map]; omega, ?_⟩
    rw [xr_eq]
    refine loop_by (fun rest env => ∃ (us : List LR) (s11 : Option En), rest = us.map eL ∧ (∀ u ∈ us, KG u) ∧ env = [none, some .st, some (.d (.list (rs.map eL))), some (.d (.tuple (MN.map eL))), s4, s5, s6, s7, s8, s9, some (.d (.tuple [k, eO o, i, s])), s11, none, none, none, none]) ?_ ?_ _ _ ⟨rs ++ [XR], none, rfl, fun u hu => ?_, rfl⟩
    · rintro env ⟨us, s11, h1, h2, rfl⟩
      exact hN _ ⟨_, rfl⟩
    · rintro d rest env N2 ⟨us, s11, h1, h2, rfl⟩ hN2
      cases us with
      | nil => cases h1
      | cons u us =>
        cases h1
        obtain ⟨x0, x1, x2, ws, e, l7, ok⟩ := h2 u List.mem_cons_self
        have okT : okD (.tuple (ws.map (told k o i s))) = true := told_ok hk ho hi hs l7
        rw [e]
        simp only [true_and, ↓q_sTake, ↓q_sTake0, ↓q_sPick, ↓q_sNumber, rng_1, rng_2, rng_3, rng_4, rng_6, ↓q_dKd, dix_0, dix_1, dix_2, dix_3, dix_4, dix_5, dix_6, dix_7, dix_8, dix_9, Bool.not_false, Bool.not_true, Bool.and_true, Bool.true_and, Bool.and_false, Bool.false_and, decide_eq_true_eq, Bool.not_eq_true', decide_eq_false_iff_not, Bool.false_eq_true, if_true, if_false, ↓q_F0, ↓q_F1, ↓q_F2, ↓q_F3, ↓q_F4, ↓q_F5, ↓q_F6, ↓q_dParO1, ↓q_dParO2, ↓q_dEnumT, ↓q_oRepr, ↓q_dUn, ↓q_oNeg, ↓q_dSeq, ↓q_dRet, ↓q_dRetN, ↓q_dIf, ↓q_dAsg, ↓q_dDrop, ↓q_dBreak, ↓q_dCont, ↓q_dNext, ↓q_dOwn, ↓q_dApp, ↓q_dSetIx, ↓q_dFrz, frz, ↓q_dPar, ↓q_dAug, ↓q_dFor, ↓q_dN, ↓q_dNB, ↓q_dC, ↓q_dOp, ↓q_oI, ↓q_oI0, ↓q_oB, ↓q_oEq, ↓q_oEqS, eqS, ↓q_oIsN, isNo, ↓q_oIx, ↓q_oIx_1, ↓q_oIxS, seqOf, ↓q_oCat, ↓q_oCatT, ↓q_oCatS, ↓q_oIn, ↓q_oInS, ↓q_dTb, ↓q_dAnd, ↓q_dOr, ↓q_dNot, ↓q_dYes, ↓q_dAndV, ↓q_dOrV, ↓q_dNotV, ↓q_dIfV, ↓q_dChain, ↓q_dNil, ↓q_dCons, ↓q_dL, ↓q_dTup, ↓q_dCB, ↓q_oAbs, ↓q_oI2, ↓q_oLen, ↓q_oLenS, ↓q_oInt, ↓q_oInt_1, ↓q_oSum, ↓q_oBs, ↓q_oTupOf, ↓q_dSeqOf, ↓q_dIsi, it_bool_none, it_bool_bool, it_bool_int, it_bool_str, it_bool_list, it_bool_tuple, it_bool_dict, it_int_none, it_int_bool, it_int_int, it_int_str, it_int_list, it_int_tuple, it_int_dict, it_str_none, it_str_bool, it_str_int, it_str_str, it_str_list, it_str_tuple, it_str_dict, it_list_none, it_list_bool, it_list_int, it_list_str, it_list_list, it_list_tuple, it_list_dict, it_tuple_none, it_tuple_bool, it_tuple_int, it_tuple_str, it_tuple_list, it_tuple_tuple, it_tuple_dict, it_dict_none, it_dict_bool, it_dict_int, it_dict_str, it_dict_list, it_dict_tuple, it_dict_dict, ↓q_dNoP, ↓q_dPart, ↓q_dSlT, ↓q_dSlL, ↓q_dSlS, ↓q_dCall, ↓q_dCallS, ↓q_dItL, ↓q_dItT, ↓q_dItS, ↓q_dR1, ↓q_dR2, ↓q_dZip, ↓q_dEnum, ↓q_gN, ↓q_gNi, ↓q_gCo, ↓q_gCo_1, ↓q_gT, ↓q_dLc, ↓q_dDc, ↓q_dK, ↓q_oLenD, ↓q_dCL, ↓q_oRep, ↓q_oRepT, ↓q_dSortSet, ↓q_dSort2, ↓q_sSame, ↓q_oStr, ↓q_oIntS, ↓q_oOrd, ↓q_oMulS, ↓q_dM0, ↓q_dM1, ↓q_sLower, ↓q_sUpper, ↓q_sStarts, ↓q_sEnds, ↓q_dSplit, ↓q_dJoin, ↓q_dFmt, ↓q_dJn, ↓q_dJc, ↓q_dFs, ↓q_dDg, ↓q_dDin, ↓q_dDgx, keyOf, Option.isSome_some, wipeE, eget, eset, List.set, ev0, List.map_cons, List.map_nil, List.cons_append, List.nil_append, List.replicate_succ, List.replicate_zero, noOwn, isOwn, List.all_cons, List.all_nil, List.length_cons, List.length_nil, Bool.true_eq_false, not_false_eq_true, not_true_eq_false]
        refine ⟨x0, x1, x2, ws, k, o, i, s, rfl, rfl, by omega, ok, x0, x1, x2, ws, k, o, i, s, rfl, rfl, by omega, ok, ho, okT, okT, ite_nf okT rfl ⟨x0, x1, x2, ws, k, o, i, s, rfl, rfl, by omega, ok, ?_⟩⟩
        exact hN2 _ ⟨us, _, rfl, fun v hv => h2 v (List.mem_cons_of_mem _ hv), rfl⟩
    · rcases List.mem_append.mp hu with h | h
      · obtain ⟨j, hj⟩ := List.mem_iff_getElem?.mp h
        obtain ⟨z, ns, ws, e1, e2, -, -, e3, e4, e5⟩ := (gr j u hj).sh
        exact ⟨u.1, u.2.1, u.2.2.1, ws, by rw [eL, e3]; rfl, e4, e5⟩
      · rw [List.mem_singleton] at h
        subst h
        exact ⟨_, _, _, XW, rfl, Nat.le_of_ble_eq_true rfl, xw_ok⟩
  rintro env ⟨s11, rfl⟩
  simp only [true_and, ↓q_sTake, ↓q_sTake0, ↓q_sPick, ↓q_sNumber, rng_1, rng_2, rng_3, rng_4, rng_6, ↓q_dKd, dix_0, dix_1, dix_2, dix_3, dix_4, dix_5, dix_6, dix_7, dix_8, dix_9, Bool.not_false, Bool.not_true, Bool.and_true, Bool.true_and, Bool.and_false, Bool.false_and, decide_eq_true_eq, Bool.not_eq_true', decide_eq_false_iff_not, Bool.false_eq_true, if_true, if_false, ↓q_F0, ↓q_F1, ↓q_F2, ↓q_F3, ↓q_F4, ↓q_F5, ↓q_F6, ↓q_dParO1, ↓q_dParO2, ↓q_dEnumT, ↓q_oRepr, ↓q_dUn, ↓q_oNeg, ↓q_dSeq, ↓q_dRet, ↓q_dRetN, ↓q_dIf, ↓q_dAsg, ↓q_dDrop, ↓q_dBreak, ↓q_dCont, ↓q_dNext, ↓q_dOwn, ↓q_dApp, ↓q_dSetIx, ↓q_dFrz, frz, ↓q_dPar, ↓q_dAug, ↓q_dFor, ↓q_dN, ↓q_dNB, ↓q_dC, ↓q_dOp, ↓q_oI, ↓q_oI0, ↓q_oB, ↓q_oEq, ↓q_oEqS, eqS, ↓q_oIsN, isNo, ↓q_oIx, ↓q_oIx_1, ↓q_oIxS, seqOf, ↓q_oCat, ↓q_oCatT, ↓q_oCatS, ↓q_oIn, ↓q_oInS, ↓q_dTb, ↓q_dAnd, ↓q_dOr, ↓q_dNot, ↓q_dYes, ↓q_dAndV, ↓q_dOrV, ↓q_dNotV, ↓q_dIfV, ↓q_dChain, ↓q_dNil, ↓q_dCons, ↓q_dL, ↓q_dTup, ↓q_dCB, ↓q_oAbs, ↓q_oI2, ↓q_oLen, ↓q_oLenS, ↓q_oInt, ↓q_oInt_1, ↓q_oSum, ↓q_oBs, ↓q_oTupOf, ↓q_dSeqOf, ↓q_dIsi, it_bool_none, it_bool_bool, it_bool_int, it_bool_str, it_bool_list, it_bool_tuple, it_bool_dict, it_int_none, it_int_bool, it_int_int, it_int_str, it_int_list, it_int_tuple, it_int_dict, it_str_none, it_str_bool, it_str_int, it_str_str, it_str_list, it_str_tuple, it_str_dict, it_list_none, it_list_bool, it_list_int, it_list_str, it_list_list, it_list_tuple, it_list_dict, it_tuple_none, it_tuple_bool, it_tuple_int, it_tuple_str, it_tuple_list, it_tuple_tuple, it_tuple_dict, it_dict_none, it_dict_bool, it_dict_int, it_dict_str, it_dict_list, it_dict_tuple, it_dict_dict, ↓q_dNoP, ↓q_dPart, ↓q_dSlT, ↓q_dSlL, ↓q_dSlS, ↓q_dCall, ↓q_dCallS, ↓q_dItL, ↓q_dItT, ↓q_dItS, ↓q_dR1, ↓q_dR2, ↓q_dZip, ↓q_dEnum, ↓q_gN, ↓q_gNi, ↓q_gCo, ↓q_gCo_1, ↓q_gT, ↓q_dLc, ↓q_dDc, ↓q_dK, ↓q_oLenD, ↓q_dCL, ↓q_oRep, ↓q_oRepT, ↓q_dSortSet, ↓q_dSort2, ↓q_sSame, ↓q_oStr, ↓q_oIntS, ↓q_oOrd, ↓q_oMulS, ↓q_dM0, ↓q_dM1, ↓q_sLower, ↓q_sUpper, ↓q_sStarts, ↓q_sEnds, ↓q_dSplit, ↓q_dJoin, ↓q_dFmt, ↓q_dJn, ↓q_dJc, ↓q_dFs, ↓q_dDg, ↓q_dDin, ↓q_dDgx, keyOf, Option.isSome_some, wipeE, eget, eset, List.set, ev0, List.map_cons, List.map_nil, List.cons_append, List.nil_append, List.replicate_succ, List.replicate_zero, noOwn, isOwn, List.all_cons, List.all_nil, List.length_cons, List.length_nil, Bool.true_eq_false, not_false_eq_true, not_true_eq_false]
  refine ⟨by decide, ?_⟩
  refine lc_fun (fun p : D × Bool => PyData.tuple [p.1, .bool p.2]) (fun p => some (.bool (isNm p.1))) (as := NL) (fun p hp R hR => ?_) ?_
  · simp only [true_and, ↓q_sTake, ↓q_sTake0, ↓q_sPick, ↓q_sNumber, rng_1, rng_2, rng_3, rng_4, rng_6, ↓q_dKd, dix_0, dix_1, dix_2, dix_3, dix_4, dix_5, dix_6, dix_7, dix_8, dix_9, Bool.not_false, Bool.not_true, Bool.and_true, Bool.true_and, Bool.and_false, Bool.false_and, decide_eq_true_eq, Bool.not_eq_true', decide_eq_false_iff_not, Bool.false_eq_true, if_true, if_false, ↓q_F0, ↓q_F1, ↓q_F2, ↓q_F3, ↓q_F4, ↓q_F5, ↓q_F6, ↓q_dParO1, ↓q_dParO2, ↓q_dEnumT, ↓q_oRepr, ↓q_dUn, ↓q_oNeg, ↓q_dSeq, ↓q_dRet, ↓q_dRetN, ↓q_dIf, ↓q_dAsg, ↓q_dDrop, ↓q_dBreak, ↓q_dCont, ↓q_dNext, ↓q_dOwn, ↓q_dApp, ↓q_dSetIx, ↓q_dFrz, frz, ↓q_dPar, ↓q_dAug, ↓q_dFor, ↓q_dN, ↓q_dNB, ↓q_dC, ↓q_dOp, ↓q_oI, ↓q_oI0, ↓q_oB, ↓q_oEq, ↓q_oEqS, eqS, ↓q_oIsN, isNo, ↓q_oIx, ↓q_oIx_1, ↓q_oIxS, seqOf, ↓q_oCat, ↓q_oCatT, ↓q_oCatS, ↓q_oIn, ↓q_oInS, ↓q_dTb, ↓q_dAnd, ↓q_dOr, ↓q_dNot, ↓q_dYes, ↓q_dAndV, ↓q_dOrV, ↓q_dNotV, ↓q_dIfV, ↓q_dChain, ↓q_dNil, ↓q_dCons, ↓q_dL, ↓q_dTup, ↓q_dCB, ↓q_oAbs, ↓q_oI2, ↓q_oLen, ↓q_oLenS, ↓q_oInt, ↓q_oInt_1, ↓q_oSum, ↓q_oBs, ↓q_oTupOf, ↓q_dSeqOf, ↓q_dIsi, it_bool_none, it_bool_bool, it_bool_int, it_bool_str, it_bool_list, it_bool_tuple, it_bool_dict, it_int_none, it_int_bool, it_int_int, it_int_str, it_int_list, it_int_tuple, it_int_dict, it_str_none, it_str_bool, it_str_int, it_str_str, it_str_list, it_str_tuple, it_str_dict, it_list_none, it_list_bool, it_list_int, it_list_str, it_list_list, it_list_tuple, it_list_dict, it_tuple_none, it_tuple_bool, it_tuple_int, it_tuple_str, it_tuple_list, it_tuple_tuple, it_tuple_dict, it_dict_none, it_dict_bool, it_dict_int, it_dict_str, it_dict_list, it_dict_tuple, it_dict_dict, ↓q_dNoP, ↓q_dPart, ↓q_dSlT, ↓q_dSlL, ↓q_dSlS, ↓q_dCall, ↓q_dCallS, ↓q_dItL, ↓q_dItT, ↓q_dItS, ↓q_dR1, ↓q_dR2, ↓q_dZip, ↓q_dEnum, ↓q_gN, ↓q_gNi, ↓q_gCo, ↓q_gCo_1, ↓q_gT, ↓q_dLc, ↓q_dDc, ↓q_dK, ↓q_oLenD, ↓q_dCL, ↓q_oRep, ↓q_oRepT, ↓q_dSortSet, ↓q_dSort2, ↓q_sSame, ↓q_oStr, ↓q_oIntS, ↓q_oOrd, ↓q_oMulS, ↓q_dM0, ↓q_dM1, ↓q_sLower, ↓q_sUpper, ↓q_sStarts, ↓q_sEnds, ↓q_dSplit, ↓q_dJoin, ↓q_dFmt, ↓q_dJn, ↓q_dJc, ↓q_dFs, ↓q_dDg, ↓q_dDin, ↓q_dDgx, keyOf, Option.isSome_some, wipeE, eget, eset, List.set, ev0, List.map_cons, List.map_nil, List.cons_append, List.nil_append, List.replicate_succ, List.replicate_zero, noOwn, isOwn, List.all_cons, List.all_nil, List.length_cons, List.length_nil, Bool.true_eq_false, not_false_eq_true, not_true_eq_false]
    exact ⟨(nlF p hp).2, hR⟩
  rw [fm_some]
  refine ⟨by decide, ?_⟩
  refine lc_fun (fun p : D × Bool => PyData.tuple [p.1, .bool p.2]) (fun p => some (.bool p.2)) (as := NL) (fun p hp R hR => ?_) ?_
  · simp only [true_and, ↓q_sTake, ↓q_sTake0, ↓q_sPick, ↓q_sNumber, rng_1, rng_2, rng_3, rng_4, rng_6, ↓q_dKd, dix_0, dix_1, dix_2, dix_3, dix_4, dix_5, dix_6, dix_7, dix_8, dix_9, Bool.not_false, Bool.not_true, Bool.and_true, Bool.true_and, Bool.and_false, Bool.false_and, decide_eq_true_eq, Bool.not_eq_true', decide_eq_false_iff_not, Bool.false_eq_true, if_true, if_false, ↓q_F0, ↓q_F1, ↓q_F2, ↓q_F3, ↓q_F4, ↓q_F5, ↓q_F6, ↓q_dParO1, ↓q_dParO2, ↓q_dEnumT, ↓q_oRepr, ↓q_dUn, ↓q_oNeg, ↓q_dSeq, ↓q_dRet, ↓q_dRetN, ↓q_dIf, ↓q_dAsg, ↓q_dDrop, ↓q_dBreak, ↓q_dCont, ↓q_dNext, ↓q_dOwn, ↓q_dApp, ↓q_dSetIx, ↓q_dFrz, frz, ↓q_dPar, ↓q_dAug, ↓q_dFor, ↓q_dN, ↓q_dNB, ↓q_dC, ↓q_dOp, ↓q_oI, ↓q_oI0, ↓q_oB, ↓q_oEq, ↓q_oEqS, eqS, ↓q_oIsN, isNo, ↓q_oIx, ↓q_oIx_1, ↓q_oIxS, seqOf, ↓q_oCat, ↓q_oCatT, ↓q_oCatS, ↓q_oIn, ↓q_oInS, ↓q_dTb, ↓q_dAnd, ↓q_dOr, ↓q_dNot, ↓q_dYes, ↓q_dAndV, ↓q_dOrV, ↓q_dNotV, ↓q_dIfV, ↓q_dChain, ↓q_dNil, ↓q_dCons, ↓q_dL, ↓q_dTup, ↓q_dCB, ↓q_oAbs, ↓q_oI2, ↓q_oLen, ↓q_oLenS, ↓q_oInt, ↓q_oInt_1, ↓q_oSum, ↓q_oBs, ↓q_oTupOf, ↓q_dSeqOf, ↓q_dIsi, it_bool_none, it_bool_bool, it_bool_int, it_bool_str, it_bool_list, it_bool_tuple, it_bool_dict, it_int_none, it_int_bool, it_int_int, it_int_str, it_int_list, it_int_tuple, it_int_dict, it_str_none, it_str_bool, it_str_int, it_str_str, it_str_list, it_str_tuple, it_str_dict, it_list_none, it_list_bool, it_list_int, it_list_str, it_list_list, it_list_tuple, it_list_dict, it_tuple_none, it_tuple_bool, it_tuple_int, it_tuple_str, it_tuple_list, it_tuple_tuple, it_tuple_dict, it_dict_none, it_dict_bool, it_dict_int, it_dict_str, it_dict_list, it_dict_tuple, it_dict_dict, ↓q_dNoP, ↓q_dPart, ↓q_dSlT, ↓q_dSlL, ↓q_dSlS, ↓q_dCall, ↓q_dCallS, ↓q_dItL, ↓q_dItT, ↓q_dItS, ↓q_dR1, ↓q_dR2, ↓q_dZip, ↓q_dEnum, ↓q_gN, ↓q_gNi, ↓q_gCo, ↓q_gCo_1, ↓q_gT, ↓q_dLc, ↓q_dDc, ↓q_dK, ↓q_oLenD, ↓q_dCL, ↓q_oRep, ↓q_oRepT, ↓q_dSortSet, ↓q_dSort2, ↓q_sSame, ↓q_oStr, ↓q_oIntS, ↓q_oOrd, ↓q_oMulS, ↓q_dM0, ↓q_dM1, ↓q_sLower, ↓q_sUpper, ↓q_sStarts, ↓q_sEnds, ↓q_dSplit, ↓q_dJoin, ↓q_dFmt, ↓q_dJn, ↓q_dJc, ↓q_dFs, ↓q_dDg, ↓q_dDin, ↓q_dDgx, keyOf, Option.isSome_some, wipeE, eget, eset, List.set, ev0, List.map_cons, List.map_nil, List.cons_append, List.nil_append, List.replicate_succ, List.replicate_zero, noOwn, isOwn, List.all_cons, List.all_nil, List.length_cons, List.length_nil, Bool.true_eq_false, not_false_eq_true, not_true_eq_false]
    exact hR
  rw [fm_some]
  have e : NL.map (fun p => PyData.bool (isNm p.1)) = NL.map (fun p => PyData.bool p.2) := List.map_congr_left fun p hp => by rw [(nlF p hp).1]
  rw [e]
  have ok : okD (.list (NL.map fun p => PyData.bool p.2)) = true := by decide +kernel
  exact ⟨ok, ok, bool_eqv ok rfl⟩
end
theorem all_mk {l : PySem.W.OpenLaw} {w : World} {K : PySem.W.Frag} {h : Heap} {mg : Str → Option Value} {fa f0 f1 f2 f3 f4 f5 f6 f7 f8 f9 f10 f11 f12 f13 f14 f15 : Addr} (X : K.In h) (G : h.Ns mainGlobals mg) (hfa : mg "law" = some (.ref fa))
    {od0 an0 od1 an1 od2 an2 od3 an3 od4 an4 od5 an5 od6 an6 od7 an7 od8 an8 od9 an9 od10 an10 od11 an11 od12 an12 od13 an13 od14 an14 od15 an15 : Option Addr} {sl0 sl1 sl2 sl3 sl4 sl5 sl6 sl7 sl8 sl9 sl10 sl11 sl12 sl13 sl14 sl15 : Array (Option Value)} {oc0 kV0 dc0 pm0 cd0 ct0 oc1 kV1 dc1 pm1 cd1 ct1 oc2 kV2 dc2 pm2 cd2 ct2 oc3 kV3 dc3 pm3 cd3 ct3 oc4 kV4 dc4 pm4 cd4 ct4 oc5 kV5 dc5 pm5 cd5 ct5 oc6 kV6 dc6 pm6 cd6 ct6 oc7 kV7 dc7 pm7 cd7 ct7 oc8 kV8 dc8 pm8 cd8 ct8 oc9 kV9 dc9 pm9 cd9 ct9 oc10 kV10 dc10 pm10 cd10 ct10 oc11 kV11 dc11 pm11 cd11 ct11 oc12 kV12 dc12 pm12 cd12 ct12 oc13 kV13 dc13 pm13 cd13 ct13 oc14 kV14 dc14 pm14 cd14 ct14 oc15 kV15 dc15 pm15 cd15 ct15 : Value} {t_MOST_ROWS t_MOST_NUMBER t_LETTERS : Tok}
    (a0 : PySem.W.nsIn K mainGlobals "is_number" = some (some (.ref f0))) (l0 : K.lookup f0 = some ⟨oc0, od0, .func (PySem.W.fnOf "is_number" "is_number" (defArgs s_is_number) (defBody s_is_number) (defScope s_is_number) .none kV0 dc0 pm0 an0 cd0 ct0), sl0⟩) (c0 : PySem.W.codeIn K cd0 "is_number" = true) (k0 : PySem.W.keepIn K (.ref f0) = true)
    (a1 : PySem.W.nsIn K mainGlobals "whole_within" = some (some (.ref f1))) (l1 : K.lookup f1 = some ⟨oc1, od1, .func (PySem.W.fnOf "whole_within" "whole_within" (defArgs s_whole_within) (defBody s_whole_within) (defScope s_whole_within) .none kV1 dc1 pm1 an1 cd1 ct1), sl1⟩) (c1 : PySem.W.codeIn K cd1 "whole_within" = true) (k1 : PySem.W.keepIn K (.ref f1) = true)
    (a2 : PySem.W.nsIn K mainGlobals "first_wrong" = some (some (.ref f2))) (l2 : K.lookup f2 = some ⟨oc2, od2, .func (PySem.W.fnOf "first_wrong" "first_wrong" (defArgs s_first_wrong) (defBody s_first_wrong) (defScope s_first_wrong) .none kV2 dc2 pm2 an2 cd2 ct2), sl2⟩) (c2 : PySem.W.codeIn K cd2 "first_wrong" = true) (k2 : PySem.W.keepIn K (.ref f2) = true)
    (a3 : PySem.W.nsIn K mainGlobals "is_name" = some (some (.ref f3))) (l3 : K.lookup f3 = some ⟨oc3, od3, .func (PySem.W.fnOf "is_name" "is_name" (defArgs s_is_name) (defBody s_is_name) (defScope s_is_name) .none kV3 dc3 pm3 an3 cd3 ct3), sl3⟩) (c3 : PySem.W.codeIn K cd3 "is_name" = true) (k3 : PySem.W.keepIn K (.ref f3) = true)
    (a4 : PySem.W.nsIn K mainGlobals "fault_of_limits" = some (some (.ref f4))) (l4 : K.lookup f4 = some ⟨oc4, od4, .func (PySem.W.fnOf "fault_of_limits" "fault_of_limits" (defArgs s_fault_of_limits) (defBody s_fault_of_limits) (defScope s_fault_of_limits) .none kV4 dc4 pm4 an4 cd4 ct4), sl4⟩) (c4 : PySem.W.codeIn K cd4 "fault_of_limits" = true) (k4 : PySem.W.keepIn K (.ref f4) = true)
    (a5 : PySem.W.nsIn K mainGlobals "_are_numbers" = some (some (.ref f5))) (l5 : K.lookup f5 = some ⟨oc5, od5, .func (PySem.W.fnOf "_are_numbers" "_are_numbers" (defArgs s_are_numbers) (defBody s_are_numbers) (defScope s_are_numbers) .none kV5 dc5 pm5 an5 cd5 ct5), sl5⟩) (c5 : PySem.W.codeIn K cd5 "_are_numbers" = true) (k5 : PySem.W.keepIn K (.ref f5) = true)
    (a6 : PySem.W.nsIn K mainGlobals "_is_key" = some (some (.ref f6))) (l6 : K.lookup f6 = some ⟨oc6, od6, .func (PySem.W.fnOf "_is_key" "_is_key" (defArgs s_is_key) (defBody s_is_key) (defScope s_is_key) .none kV6 dc6 pm6 an6 cd6 ct6), sl6⟩) (c6 : PySem.W.codeIn K cd6 "_is_key" = true) (k6 : PySem.W.keepIn K (.ref f6) = true)
    (a7 : PySem.W.nsIn K mainGlobals "key_of" = some (some (.ref f7))) (l7 : K.lookup f7 = some ⟨oc7, od7, .func (PySem.W.fnOf "key_of" "key_of" (defArgs s_key_of) (defBody s_key_of) (defScope s_key_of) .none kV7 dc7 pm7 an7 cd7 ct7), sl7⟩) (c7 : PySem.W.codeIn K cd7 "key_of" = true) (k7 : PySem.W.keepIn K (.ref f7) = true)
    (a8 : PySem.W.nsIn K mainGlobals "_told_by" = some (some (.ref f8))) (l8 : K.lookup f8 = some ⟨oc8, od8, .func (PySem.W.fnOf "_told_by" "_told_by" (defArgs s_told_by) (defBody s_told_by) (defScope s_told_by) .none kV8 dc8 pm8 an8 cd8 ct8), sl8⟩) (c8 : PySem.W.codeIn K cd8 "_told_by" = true) (k8 : PySem.W.keepIn K (.ref f8) = true)
    (a9 : PySem.W.nsIn K mainGlobals "_law_state" = some (some (.ref f9))) (l9 : K.lookup f9 = some ⟨oc9, od9, .func (PySem.W.fnOf "_law_state" "_law_state" (defArgs s_law_state) (defBody s_law_state) (defScope s_law_state) .none kV9 dc9 pm9 an9 cd9 ct9), sl9⟩) (c9 : PySem.W.codeIn K cd9 "_law_state" = true) (k9 : PySem.W.keepIn K (.ref f9) = true)
    (a10 : PySem.W.nsIn K mainGlobals "_law_take" = some (some (.ref f10))) (l10 : K.lookup f10 = some ⟨oc10, od10, .func (PySem.W.fnOf "_law_take" "_law_take" (defArgs s_law_take) (defBody s_law_take) (defScope s_law_take) .none kV10 dc10 pm10 an10 cd10 ct10), sl10⟩) (c10 : PySem.W.codeIn K cd10 "_law_take" = true) (k10 : PySem.W.keepIn K (.ref f10) = true)
    (a11 : PySem.W.nsIn K mainGlobals "_law_limit" = some (some (.ref f11))) (l11 : K.lookup f11 = some ⟨oc11, od11, .func (PySem.W.fnOf "_law_limit" "_law_limit" (defArgs s_law_limit) (defBody s_law_limit) (defScope s_law_limit) .none kV11 dc11 pm11 an11 cd11 ct11), sl11⟩) (c11 : PySem.W.codeIn K cd11 "_law_limit" = true) (k11 : PySem.W.keepIn K (.ref f11) = true)
    (a12 : PySem.W.nsIn K mainGlobals "_law_spoilt" = some (some (.ref f12))) (l12 : K.lookup f12 = some ⟨oc12, od12, .func (PySem.W.fnOf "_law_spoilt" "_law_spoilt" (defArgs s_law_spoilt) (defBody s_law_spoilt) (defScope s_law_spoilt) .none kV12 dc12 pm12 an12 cd12 ct12), sl12⟩) (c12 : PySem.W.codeIn K cd12 "_law_spoilt" = true) (k12 : PySem.W.keepIn K (.ref f12) = true)
    (a13 : PySem.W.nsIn K mainGlobals "_law_key" = some (some (.ref f13))) (l13 : K.lookup f13 = some ⟨oc13, od13, .func (PySem.W.fnOf "_law_key" "_law_key" (defArgs s_law_key) (defBody s_law_key) (defScope s_law_key) .none kV13 dc13 pm13 an13 cd13 ct13), sl13⟩) (c13 : PySem.W.codeIn K cd13 "_law_key" = true) (k13 : PySem.W.keepIn K (.ref f13) = true)
    (a14 : PySem.W.nsIn K mainGlobals "_law_high" = some (some (.ref f14))) (l14 : K.lookup f14 = some ⟨oc14, od14, .func (PySem.W.fnOf "_law_high" "_law_high" (defArgs s_law_high) (defBody s_law_high) (defScope s_law_high) .none kV14 dc14 pm14 an14 cd14 ct14), sl14⟩) (c14 : PySem.W.codeIn K cd14 "_law_high" = true) (k14 : PySem.W.keepIn K (.ref f14) = true)
    (a15 : PySem.W.nsIn K mainGlobals "law" = some (some (.ref f15))) (l15 : K.lookup f15 = some ⟨oc15, od15, .func (PySem.W.fnOf "law" "law" (defArgs s_law) (defBody s_law) (defScope s_law) .none kV15 dc15 pm15 an15 cd15 ct15), sl15⟩) (c15 : PySem.W.codeIn K cd15 "law" = true) (k15 : PySem.W.keepIn K (.ref f15) = true)
    (z_isinstance : PySem.W.nsIn K mainGlobals "isinstance" = some none)
    (z_int : PySem.W.nsIn K mainGlobals "int" = some none)
    (z_bool : PySem.W.nsIn K mainGlobals "bool" = some none)
    (z_all : PySem.W.nsIn K mainGlobals "all" = some none)
    (z_str : PySem.W.nsIn K mainGlobals "str" = some none)
    (z_len : PySem.W.nsIn K mainGlobals "len" = some none)
    (z_enumerate : PySem.W.nsIn K mainGlobals "enumerate" = some none)
    (z_tuple : PySem.W.nsIn K mainGlobals "tuple" = some none)
    (z_zip : PySem.W.nsIn K mainGlobals "zip" = some none)
    (z_range : PySem.W.nsIn K mainGlobals "range" = some none)
    (z_abs : PySem.W.nsIn K mainGlobals "abs" = some none)
    (z_list : PySem.W.nsIn K mainGlobals "list" = some none)
    (y_MOST_ROWS : PySem.W.nsIn K mainGlobals "MOST_ROWS" = some (some (Value.int 16 t_MOST_ROWS)))
    (y_MOST_NUMBER : PySem.W.nsIn K mainGlobals "MOST_NUMBER" = some (some (Value.int 1000000 t_MOST_NUMBER)))
    (y_LETTERS : PySem.W.nsIn K mainGlobals "LETTERS" = some (some (Value.str "abcdefghijklmnopqrstuvwxyz" t_LETTERS)))
    {ga_LEAST_NUMBERS : Addr} {es_LEAST_NUMBERS : Array DictEntry} {dn_LEAST_NUMBERS : Nat}
    (q_LEAST_NUMBERS : PySem.W.nsIn K mainGlobals "LEAST_NUMBERS" = some (some (.ref ga_LEAST_NUMBERS))) (ql_LEAST_NUMBERS : K.lookup ga_LEAST_NUMBERS = some ⟨.type "dict", none, .dict es_LEAST_NUMBERS dn_LEAST_NUMBERS, #[]⟩)
    (qk_LEAST_NUMBERS : PySem.W.KeysLit w.params es_LEAST_NUMBERS.toList)
    {gb_LEAST_NUMBERS_0 : Addr} {its_LEAST_NUMBERS_0 : Array Value} {dm_LEAST_NUMBERS_0 : Nat} {od_LEAST_NUMBERS_0 : Option Addr} {sl_LEAST_NUMBERS_0 : Array (Option Value)}
    (qe_LEAST_NUMBERS_0 : PySem.W.nsIn K ga_LEAST_NUMBERS (Str.ofString "bucket") = some (some (.ref gb_LEAST_NUMBERS_0))) (ql_LEAST_NUMBERS_0 : K.lookup gb_LEAST_NUMBERS_0 = some ⟨.type "tuple", od_LEAST_NUMBERS_0, .seq its_LEAST_NUMBERS_0 dm_LEAST_NUMBERS_0, sl_LEAST_NUMBERS_0⟩) (qz_LEAST_NUMBERS_0 : its_LEAST_NUMBERS_0.size ≤ sizeLine) (qv_LEAST_NUMBERS_0 : Vals [.int 0, .int 1, .int 0] its_LEAST_NUMBERS_0.toList)
    {gb_LEAST_NUMBERS_1 : Addr} {its_LEAST_NUMBERS_1 : Array Value} {dm_LEAST_NUMBERS_1 : Nat} {od_LEAST_NUMBERS_1 : Option Addr} {sl_LEAST_NUMBERS_1 : Array (Option Value)}
    (qe_LEAST_NUMBERS_1 : PySem.W.nsIn K ga_LEAST_NUMBERS (Str.ofString "window") = some (some (.ref gb_LEAST_NUMBERS_1))) (ql_LEAST_NUMBERS_1 : K.lookup gb_LEAST_NUMBERS_1 = some ⟨.type "tuple", od_LEAST_NUMBERS_1, .seq its_LEAST_NUMBERS_1 dm_LEAST_NUMBERS_1, sl_LEAST_NUMBERS_1⟩) (qz_LEAST_NUMBERS_1 : its_LEAST_NUMBERS_1.size ≤ sizeLine) (qv_LEAST_NUMBERS_1 : Vals [.int 0, .int 1] its_LEAST_NUMBERS_1.toList)
    {gb_LEAST_NUMBERS_2 : Addr} {its_LEAST_NUMBERS_2 : Array Value} {dm_LEAST_NUMBERS_2 : Nat} {od_LEAST_NUMBERS_2 : Option Addr} {sl_LEAST_NUMBERS_2 : Array (Option Value)}
    (qe_LEAST_NUMBERS_2 : PySem.W.nsIn K ga_LEAST_NUMBERS (Str.ofString "open") = some (some (.ref gb_LEAST_NUMBERS_2))) (ql_LEAST_NUMBERS_2 : K.lookup gb_LEAST_NUMBERS_2 = some ⟨.type "tuple", od_LEAST_NUMBERS_2, .seq its_LEAST_NUMBERS_2 dm_LEAST_NUMBERS_2, sl_LEAST_NUMBERS_2⟩) (qz_LEAST_NUMBERS_2 : its_LEAST_NUMBERS_2.size ≤ sizeLine) (qv_LEAST_NUMBERS_2 : Vals [.int 0] its_LEAST_NUMBERS_2.toList)
    : ∃ fd : FuncData, (∀ (s : Shared) (v : Value), BindsTo s fd ⟨[v], []⟩ [("script", v)]) ∧ ∀ base : Heap, K.In base → base.Ns mainGlobals mg → FnG l.prog w K mg base 5 fa fd ["script"] (spLaw K) := by
  have e := hfa.symm.trans (PySem.W.mg_of X G a15)
  cases e
  have F0 := fun_mk (st := s_is_number) l0 c0 k0
  have b0 := F0.binds (ps := ["value"]) fun _ _ _ _ _ _ us hl => match us, hl with | [_], _ => rfl
  have F1 := fun_mk (st := s_whole_within) l1 c1 k1
  have b1 := F1.binds (ps := ["value", "low", "high"]) fun _ _ _ _ _ _ us hl => match us, hl with | [_, _, _], _ => rfl
  have F2 := fun_mk (st := s_first_wrong) l2 c2 k2
  have b2 := F2.binds (ps := ["rows"]) fun _ _ _ _ _ _ us hl => match us, hl with | [_], _ => rfl
  have F3 := fun_mk (st := s_is_name) l3 c3 k3
  have b3 := F3.binds (ps := ["name"]) fun _ _ _ _ _ _ us hl => match us, hl with | [_], _ => rfl
  have F4 := fun_mk (st := s_fault_of_limits) l4 c4 k4
  have b4 := F4.binds (ps := ["rows"]) fun _ _ _ _ _ _ us hl => match us, hl with | [_], _ => rfl
  have F5 := fun_mk (st := s_are_numbers) l5 c5 k5
  have b5 := F5.binds (ps := ["kind", "numbers"]) fun _ _ _ _ _ _ us hl => match us, hl with | [_, _], _ => rfl
  have F6 := fun_mk (st := s_is_key) l6 c6 k6
  have b6 := F6.binds (ps := ["key"]) fun _ _ _ _ _ _ us hl => match us, hl with | [_], _ => rfl
  have F7 := fun_mk (st := s_key_of) l7 c7 k7
  have b7 := F7.binds (ps := ["row", "asker"]) fun _ _ _ _ _ _ us hl => match us, hl with | [_, _], _ => rfl
  have F8 := fun_mk (st := s_told_by) l8 c8 k8
  have b8 := F8.binds (ps := ["word", "asker"]) fun _ _ _ _ _ _ us hl => match us, hl with | [_, _], _ => rfl
  have F9 := fun_mk (st := s_law_state) l9 c9 k9
  have b9 := F9.binds (ps := ["script"]) fun _ _ _ _ _ _ us hl => match us, hl with | [_], _ => rfl
  have F10 := fun_mk (st := s_law_take) l10 c10 k10
  have b10 := F10.binds (ps := ["state", "most"]) fun _ _ _ _ _ _ us hl => match us, hl with | [_, _], _ => rfl
  have F11 := fun_mk (st := s_law_limit) l11 c11 k11
  have b11 := F11.binds (ps := ["state", "k"]) fun _ _ _ _ _ _ us hl => match us, hl with | [_, _], _ => rfl
  have F12 := fun_mk (st := s_law_spoilt) l12 c12 k12
  have b12 := F12.binds (ps := ["state", "row"]) fun _ _ _ _ _ _ us hl => match us, hl with | [_, _], _ => rfl
  have F13 := fun_mk (st := s_law_key) l13 c13 k13
  have b13 := F13.binds (ps := ["row", "asker"]) fun _ _ _ _ _ _ us hl => match us, hl with | [_, _], _ => rfl
  have F14 := fun_mk (st := s_law_high) l14 c14 k14
  have b14 := F14.binds (ps := ["address", "bits"]) fun _ _ _ _ _ _ us hl => match us, hl with | [_, _], _ => rfl
  have F15 := fun_mk (st := s_law) l15 c15 k15
  have b15 := F15.binds (ps := ["script"]) fun _ _ _ _ _ _ us hl => match us, hl with | [_], _ => rfl
  let T : Tx K mg w := { ad_is_number := _, fd_is_number := _, d_is_number := ⟨F0, b0, PySem.W.mg_of X G a0⟩, ad_whole_within := _, fd_whole_within := _, d_whole_within := ⟨F1, b1, PySem.W.mg_of X G a1⟩, ad_first_wrong := _, fd_first_wrong := _, d_first_wrong := ⟨F2, b2, PySem.W.mg_of X G a2⟩, ad_is_name := _, fd_is_name := _, d_is_name := ⟨F3, b3, PySem.W.mg_of X G a3⟩, ad_fault_of_limits := _, fd_fault_of_limits := _, d_fault_of_limits := ⟨F4, b4, PySem.W.mg_of X G a4⟩, ad_are_numbers := _, fd_are_numbers := _, d_are_numbers := ⟨F5, b5, PySem.W.mg_of X G a5⟩, ad_is_key := _, fd_is_key := _, d_is_key := ⟨F6, b6, PySem.W.mg_of X G a6⟩, ad_key_of := _, fd_key_of := _, d_key_of := ⟨F7, b7, PySem.W.mg_of X G a7⟩, ad_told_by := _, fd_told_by := _, d_told_by := ⟨F8, b8, PySem.W.mg_of X G a8⟩, ad_law_state := _, fd_law_state := _, d_law_state := ⟨F9, b9, PySem.W.mg_of X G a9⟩, ad_law_take := _, fd_law_take := _, d_law_take := ⟨F10, b10, PySem.W.mg_of X G a10⟩, ad_law_limit := _, fd_law_limit := _, d_law_limit := ⟨F11, b11, PySem.W.mg_of X G a11⟩, ad_law_spoilt := _, fd_law_spoilt := _, d_law_spoilt := ⟨F12, b12, PySem.W.mg_of X G a12⟩, ad_law_key := _, fd_law_key := _, d_law_key := ⟨F13, b13, PySem.W.mg_of X G a13⟩, ad_law_high := _, fd_law_high := _, d_law_high := ⟨F14, b14, PySem.W.mg_of X G a14⟩, ad_law := _, fd_law := _, d_law := ⟨F15, b15, PySem.W.mg_of X G a15⟩, b_isinstance := PySem.W.mg_none_of X G z_isinstance, b_int := PySem.W.mg_none_of X G z_int, b_bool := PySem.W.mg_none_of X G z_bool, b_all := PySem.W.mg_none_of X G z_all, b_str := PySem.W.mg_none_of X G z_str, b_len := PySem.W.mg_none_of X G z_len, b_enumerate := PySem.W.mg_none_of X G z_enumerate, b_tuple := PySem.W.mg_none_of X G z_tuple, b_zip := PySem.W.mg_none_of X G z_zip, b_range := PySem.W.mg_none_of X G z_range, b_abs := PySem.W.mg_none_of X G z_abs, b_list := PySem.W.mg_none_of X G z_list, t_MOST_ROWS := _, c_MOST_ROWS := PySem.W.mg_of X G y_MOST_ROWS, t_MOST_NUMBER := _, c_MOST_NUMBER := PySem.W.mg_of X G y_MOST_NUMBER, t_LETTERS := _, c_LETTERS := PySem.W.mg_of X G y_LETTERS, a_LEAST_NUMBERS := _, g_LEAST_NUMBERS := PySem.W.mg_of X G q_LEAST_NUMBERS, b_LEAST_NUMBERS_0 := _, d_LEAST_NUMBERS_0 := ⟨_, _, _, ql_LEAST_NUMBERS, qk_LEAST_NUMBERS, qe_LEAST_NUMBERS_0, rfl⟩, k_LEAST_NUMBERS_0 := ⟨_, _, _, ql_LEAST_NUMBERS_0, rfl, rfl, qz_LEAST_NUMBERS_0, qv_LEAST_NUMBERS_0⟩, s_LEAST_NUMBERS_0 := by repeat (first | exact .nil | refine .cons (.int _) ?_ | refine .cons (.str _) ?_ | refine .cons .non ?_ | refine .cons (.bl _) ?_), b_LEAST_NUMBERS_1 := _, d_LEAST_NUMBERS_1 := ⟨_, _, _, ql_LEAST_NUMBERS, qk_LEAST_NUMBERS, qe_LEAST_NUMBERS_1, rfl⟩, k_LEAST_NUMBERS_1 := ⟨_, _, _, ql_LEAST_NUMBERS_1, rfl, rfl, qz_LEAST_NUMBERS_1, qv_LEAST_NUMBERS_1⟩, s_LEAST_NUMBERS_1 := by repeat (first | exact .nil | refine .cons (.int _) ?_ | refine .cons (.str _) ?_ | refine .cons .non ?_ | refine .cons (.bl _) ?_), b_LEAST_NUMBERS_2 := _, d_LEAST_NUMBERS_2 := ⟨_, _, _, ql_LEAST_NUMBERS, qk_LEAST_NUMBERS, qe_LEAST_NUMBERS_2, rfl⟩, k_LEAST_NUMBERS_2 := ⟨_, _, _, ql_LEAST_NUMBERS_2, rfl, rfl, qz_LEAST_NUMBERS_2, qv_LEAST_NUMBERS_2⟩, s_LEAST_NUMBERS_2 := by repeat (first | exact .nil | refine .cons (.int _) ?_ | refine .cons (.str _) ?_ | refine .cons .non ?_ | refine .cons (.bl _) ?_) }
  exact ⟨T.fd_law, fun s v => .of_eq rfl, fun base _ _ => ok_law T⟩
theorem walk {l : PySem.W.OpenLaw} {q : Program} {loose : List Str} {XP : (Str → Option Value) → Heap → Prop} {YP : World → Heap → Prop} {d : DefRec} {K : Params → PySem.W.Frag} (hn : l.most = some 63) (hdf : d.params.defaults = [])
    (hY : ∀ (w : World) (h : Heap), YP w h → (K w.params).In h)
    (F : ∀ (w : World) (mg : Str → Option Value) (fa : Addr) (h : Heap), (K w.params).In h → h.Ns mainGlobals mg → mg d.name = some (.ref fa) →
      ∃ fd : FuncData, (∀ (s : Shared) (u : Value), BindsTo s fd ⟨[u], []⟩ [("script", u)]) ∧ ∀ base : Heap, (K w.params).In base → base.Ns mainGlobals mg → FnG l.prog w (K w.params) mg base 5 fa fd ["script"] (spLaw (K w.params))) :
    PySem.W.WalkO q loose XP YP l.row.toRowW d [] (fun f vs => PySem.call f vs) :=
  walkG (k := 5) (x := "script") hn hdf ⟨rfl, by decide, by decide⟩ hY F
end Toy
open PySem PySem.W PyProof.Rows
set_option maxRecDepth 100000 in
set_option maxHeartbeats 0 in
theorem PySem.Challenge.cw_onepolicy_k67_limits_their_faults_and_ke_holds : PySem.Challenge.rw_onepolicy_k67_limits_their_faults_and_ke.Holds := by
  w_on; o_law; k_head; (case hw => w_witness2)
  k_fill
  refine Toy.walk (l := PySem.Challenge.rw_onepolicy_k67_limits_their_faults_and_ke) rfl rfl (fun w h Y => PySem.W.kIn_of Y) ?F
  case F =>
    intro w mg fa h KX G hmg
    refine' Toy.all_mk KX G hmg ?a0 ?l0 ?c0 ?k0 ?a1 ?l1 ?c1 ?k1 ?a2 ?l2 ?c2 ?k2 ?a3 ?l3 ?c3 ?k3 ?a4 ?l4 ?c4 ?k4 ?a5 ?l5 ?c5 ?k5 ?a6 ?l6 ?c6 ?k6 ?a7 ?l7 ?c7 ?k7 ?a8 ?l8 ?c8 ?k8 ?a9 ?l9 ?c9 ?k9 ?a10 ?l10 ?c10 ?k10 ?a11 ?l11 ?c11 ?k11 ?a12 ?l12 ?c12 ?k12 ?a13 ?l13 ?c13 ?k13 ?a14 ?l14 ?c14 ?k14 ?a15 ?l15 ?c15 ?k15 ?z_isinstance ?z_int ?z_bool ?z_all ?z_str ?z_len ?z_enumerate ?z_tuple ?z_zip ?z_range ?z_abs ?z_list ?y_MOST_ROWS ?y_MOST_NUMBER ?y_LETTERS ?q_LEAST_NUMBERS ?ql_LEAST_NUMBERS ?qk_LEAST_NUMBERS ?qe_LEAST_NUMBERS_0 ?ql_LEAST_NUMBERS_0 ?qz_LEAST_NUMBERS_0 ?qv_LEAST_NUMBERS_0 ?qe_LEAST_NUMBERS_1 ?ql_LEAST_NUMBERS_1 ?qz_LEAST_NUMBERS_1 ?qv_LEAST_NUMBERS_1 ?qe_LEAST_NUMBERS_2 ?ql_LEAST_NUMBERS_2 ?qz_LEAST_NUMBERS_2 ?qv_LEAST_NUMBERS_2
    (case a0 => k_is)
    (case l0 => k_is)
    (case c0 => k_is)
    (case k0 => k_is)
    (case a1 => k_is)
    (case l1 => k_is)
    (case c1 => k_is)
    (case k1 => k_is)
    (case a2 => k_is)
    (case l2 => k_is)
    (case c2 => k_is)
    (case k2 => k_is)
    (case a3 => k_is)
    (case l3 => k_is)
    (case c3 => k_is)
    (case k3 => k_is)
    (case a4 => k_is)
    (case l4 => k_is)
    (case c4 => k_is)
    (case k4 => k_is)
    (case a5 => k_is)
    (case l5 => k_is)
    (case c5 => k_is)
    (case k5 => k_is)
    (case a6 => k_is)
    (case l6 => k_is)
    (case c6 => k_is)
    (case k6 => k_is)
    (case a7 => k_is)
    (case l7 => k_is)
    (case c7 => k_is)
    (case k7 => k_is)
    (case a8 => k_is)
    (case l8 => k_is)
    (case c8 => k_is)
    (case k8 => k_is)
    (case a9 => k_is)
    (case l9 => k_is)
    (case c9 => k_is)
    (case k9 => k_is)
    (case a10 => k_is)
    (case l10 => k_is)
    (case c10 => k_is)
    (case k10 => k_is)
    (case a11 => k_is)
    (case l11 => k_is)
    (case c11 => k_is)
    (case k11 => k_is)
    (case a12 => k_is)
    (case l12 => k_is)
    (case c12 => k_is)
    (case k12 => k_is)
    (case a13 => k_is)
    (case l13 => k_is)
    (case c13 => k_is)
    (case k13 => k_is)
    (case a14 => k_is)
    (case l14 => k_is)
    (case c14 => k_is)
    (case k14 => k_is)
    (case a15 => k_is)
    (case l15 => k_is)
    (case c15 => k_is)
    (case k15 => k_is)
    (case z_isinstance => k_is)
    (case z_int => k_is)
    (case z_bool => k_is)
    (case z_all => k_is)
    (case z_str => k_is)
    (case z_len => k_is)
    (case z_enumerate => k_is)
    (case z_tuple => k_is)
    (case z_zip => k_is)
    (case z_range => k_is)
    (case z_abs => k_is)
    (case z_list => k_is)
    (case y_MOST_ROWS => k_is)
    (case y_MOST_NUMBER => k_is)
    (case y_LETTERS => k_is)
    (case q_LEAST_NUMBERS => k_is)
    (case ql_LEAST_NUMBERS => k_is)
    (case qk_LEAST_NUMBERS => k_keys)
    (case qe_LEAST_NUMBERS_0 => k_is)
    (case ql_LEAST_NUMBERS_0 => k_is)
    (case qz_LEAST_NUMBERS_0 => decide +kernel)
    (case qv_LEAST_NUMBERS_0 => repeat (first | exact .nil | refine .cons ⟨_, rfl⟩ ?_ | refine .cons rfl ?_))
    (case qe_LEAST_NUMBERS_1 => k_is)
    (case ql_LEAST_NUMBERS_1 => k_is)
    (case qz_LEAST_NUMBERS_1 => decide +kernel)
    (case qv_LEAST_NUMBERS_1 => repeat (first | exact .nil | refine .cons ⟨_, rfl⟩ ?_ | refine .cons rfl ?_))
    (case qe_LEAST_NUMBERS_2 => k_is)
    (case ql_LEAST_NUMBERS_2 => k_is)
    (case qz_LEAST_NUMBERS_2 => decide +kernel)
    (case qv_LEAST_NUMBERS_2 => repeat (first | exact .nil | refine .cons ⟨_, rfl⟩ ?_ | refine .cons rfl ?_))
