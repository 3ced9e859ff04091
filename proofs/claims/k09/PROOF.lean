import PyProof.Rows.All
import Wide.All
import OpenK.AllK
import Wide.FinOn
import HandS.ForMost
import HandS.ForExc
import HandS.TupAny
import HandS.Wide
import HandS.Zip
import HandS.Rev
import HandS.Deep
import HandS.NoneIn
import KE.GoesMore
import KE.GoesEnum
import HandS.Star
import HandS.TupMul
import HandS.Conv
import HandS.AnyAll
import PyProof.SeqIndex
import HandS.Dict
import HandS.TupSets
import HandS.IsInst
import PySem.Challenge.RW_untold_k09_values_are_told
set_option Elab.async false
set_option linter.all false
set_option maxRecDepth 100000
namespace Zv
open PySem PySem.Spec L2

/-! ## data, stores, results -/
inductive D where
  | non
  | bl (b : Bool)
  | int (i : Int)
  | str (s : Str)
  | tup (xs : List D)
  | lst (xs : List D)
  | ref (n : Nat)
  | scr (xs : List Int)
  | dct (ks : List L2.Key) (xs : List D)
  | dcu (ks : List (List L2.Key)) (xs : List D)

inductive Cell where
  | lst (xs : List D)
  | obj (cls : Str) (fs : List (Str × D))

abbrev Store := List Cell
abbrev Sl := List (Option D)
structure Exn where
  name : Str
  fs : List (Str × D)

inductive R (α : Type) where
  | ok (a : α) (s : Store)
  | ex (x : Exn) (s : Store)
  | no

def R.bind {α β : Type} (r : R α) (f : α → Store → R β) : R β := match r with
  | .ok a s => f a s
  | .ex x s => .ex x s
  | .no => .no
@[simp] theorem R.bind_ok {α β : Type} (a : α) (s : Store) (f : α → Store → R β) : (R.ok a s).bind f = f a s := rfl
@[simp] theorem R.bind_ex {α β : Type} (x : Exn) (s : Store) (f : α → Store → R β) : (R.ex x s : R α).bind f = .ex x s := rfl
@[simp] theorem R.bind_no {α β : Type} (f : α → Store → R β) : (R.no : R α).bind f = .no := rfl
theorem R.bind_assoc {α β γ : Type} (r : R α) (f : α → Store → R β) (g : β → Store → R γ) : (r.bind f).bind g = r.bind fun a s => (f a s).bind g := by
  cases r <;> rfl
def R.ofO {α : Type} (o : Option α) (s : Store) : R α := match o with
  | some a => .ok a s
  | none => .no
@[simp] theorem R.ofO_some {α : Type} (a : α) (s : Store) : R.ofO (some a) s = .ok a s := rfl
@[simp] theorem R.ofO_none {α : Type} (s : Store) : R.ofO (none : Option α) s = .no := rfl

/-! ## what data means on a heap: where the cells stand, and what else may change -/
structure Mp where
  cs : List Addr
  av : List Addr

def TupAt (K : PySem.W.Frag) (H : Hp) (μ : Mp) (a : Addr) (vs : List V) : Prop :=
  (Rd H a (.tup vs) ∧ a ∉ μ.cs ∧ a ∉ μ.av) ∨
    ∃ (o : Obj) (its : Array Value) (n : Nat), K.lookup a = some o ∧ o.cls = .type "tuple" ∧ o.data = .seq its n ∧ its.size ≤ sizeLine ∧ Vals vs its.toList
def LstAt (H : Hp) (μ : Mp) (a : Addr) (vs : List V) : Prop := H a = some (.lst vs) ∧ a ∉ μ.cs ∧ a ∉ μ.av
/-- a list of ints that is read alone: tracked, locked, or an object of the module -/
def ScrAt (K : PySem.W.Frag) (H : Hp) (μ : Mp) (a : Addr) (vs : List V) : Prop :=
  (Rd H a (.lst vs) ∧ a ∉ μ.cs ∧ a ∉ μ.av) ∨
    ∃ (o : Obj) (its : Array Value) (n : Nat), K.lookup a = some o ∧ o.cls = .type "list" ∧ o.dict = none ∧ o.data = .seq its n ∧ its.size ≤ sizeLine ∧ Vals vs its.toList
def DctAt (H : Hp) (μ : Mp) (a : Addr) (ks : List L2.Key) (vs : List V) : Prop := ∃ kvs : List (L2.Key × V), (Rd H a (.dK kvs) ∧ a ∉ μ.cs ∧ a ∉ μ.av) ∧ kvs.map (·.1) = ks ∧ kvs.map (·.2) = vs
def DcuAt (H : Hp) (μ : Mp) (a : Addr) (ks : List (List L2.Key)) (vs : List V) : Prop := ∃ kvs : List (List L2.Key × V), (Rd H a (.dT kvs) ∧ a ∉ μ.cs ∧ a ∉ μ.av) ∧ kvs.map (·.1) = ks ∧ kvs.map (·.2) = vs
theorem TupAt.sq {K : PySem.W.Frag} {H : Hp} {μ : Mp} {a : Addr} {vs : List V} (h : TupAt K H μ a vs) : SqT K H a vs := h.elim (fun z => .inl z.1) .inr
theorem LstAt.sq {K : PySem.W.Frag} {H : Hp} {μ : Mp} {a : Addr} {vs : List V} (h : LstAt H μ a vs) : SqL K H a vs := .inl (.inl h.1)
theorem ScrAt.sq {K : PySem.W.Frag} {H : Hp} {μ : Mp} {a : Addr} {vs : List V} (h : ScrAt K H μ a vs) : SqL K H a vs := h.elim (fun z => .inl z.1) .inr

mutual
inductive Rep (K : PySem.W.Frag) (H : Hp) (μ : Mp) : D → V → Prop
  | non : Rep K H μ .non .non
  | bl (b : Bool) : Rep K H μ (.bl b) (.bl b)
  | int (i : Int) : Rep K H μ (.int i) (.int i)
  | str (s : Str) : Rep K H μ (.str s) (.str s)
  | tup {a : Addr} {ds : List D} {vs : List V} : TupAt K H μ a vs → Reps K H μ ds vs → Rep K H μ (.tup ds) (.ref a)
  | lst {a : Addr} {ds : List D} {vs : List V} : LstAt H μ a vs → Reps K H μ ds vs → Rep K H μ (.lst ds) (.ref a)
  | ref {a : Addr} {n : Nat} : μ.cs[n]? = some a → Rep K H μ (.ref n) (.ref a)
  | scr {a : Addr} {ns : List Int} : ScrAt K H μ a (ns.map V.int) → Rep K H μ (.scr ns) (.ref a)
  | dct {a : Addr} {ks : List L2.Key} {ds : List D} {vs : List V} : DctAt H μ a ks vs → Reps K H μ ds vs → Rep K H μ (.dct ks ds) (.ref a)
  | dcu {a : Addr} {ks : List (List L2.Key)} {ds : List D} {vs : List V} : DcuAt H μ a ks vs → Reps K H μ ds vs → Rep K H μ (.dcu ks ds) (.ref a)
inductive Reps (K : PySem.W.Frag) (H : Hp) (μ : Mp) : List D → List V → Prop
  | nil : Reps K H μ [] []
  | cons {d : D} {v : V} {ds : List D} {vs : List V} : Rep K H μ d v → Reps K H μ ds vs → Reps K H μ (d :: ds) (v :: vs)
end

theorem Reps.length {K : PySem.W.Frag} {H : Hp} {μ : Mp} : ∀ {ds : List D} {vs : List V}, Reps K H μ ds vs → ds.length = vs.length
  | _, _, .nil => rfl
  | _, _, .cons _ t => by rw [List.length_cons, List.length_cons, t.length]
theorem Reps.get {K : PySem.W.Frag} {H : Hp} {μ : Mp} : ∀ {ds : List D} {vs : List V} {i : Nat} {d : D}, Reps K H μ ds vs → ds[i]? = some d → ∃ v, vs[i]? = some v ∧ Rep K H μ d v
  | _, _, _, _, .nil, e => by simp at e
  | _, _, 0, _, .cons r _, e => by simp at e; subst e; exact ⟨_, rfl, r⟩
  | _, _, i + 1, d, .cons _ t, e => by
    obtain ⟨v, h1, h2⟩ := Reps.get (i := i) (d := d) t (by simpa using e)
    exact ⟨v, by simpa using h1, h2⟩
theorem Reps.getV {K : PySem.W.Frag} {H : Hp} {μ : Mp} : ∀ {ds : List D} {vs : List V} {i : Nat} {v : V}, Reps K H μ ds vs → vs[i]? = some v → ∃ d, ds[i]? = some d ∧ Rep K H μ d v
  | _, _, _, _, .nil, e => by simp at e
  | _, _, 0, _, .cons r _, e => by simp at e; subst e; exact ⟨_, rfl, r⟩
  | _, _, i + 1, v, .cons _ t, e => by
    obtain ⟨d, h1, h2⟩ := Reps.getV (i := i) (v := v) t (by simpa using e)
    exact ⟨d, by simpa using h1, h2⟩
theorem Reps.append {K : PySem.W.Frag} {H : Hp} {μ : Mp} : ∀ {ds es : List D} {vs us : List V}, Reps K H μ ds vs → Reps K H μ es us → Reps K H μ (ds ++ es) (vs ++ us)
  | _, _, _, _, .nil, q => q
  | _, _, _, _, .cons r t, q => .cons r (Reps.append t q)
theorem Reps.set {K : PySem.W.Frag} {H : Hp} {μ : Mp} {d : D} {v : V} (r : Rep K H μ d v) : ∀ {ds : List D} {vs : List V} (i : Nat), Reps K H μ ds vs → Reps K H μ (ds.set i d) (vs.set i v)
  | _, _, _, .nil => .nil
  | _, _, 0, .cons _ t => .cons r t
  | _, _, i + 1, .cons q t => .cons q (Reps.set r i t)
theorem Reps.take {K : PySem.W.Frag} {H : Hp} {μ : Mp} : ∀ {ds : List D} {vs : List V} (n : Nat), Reps K H μ ds vs → Reps K H μ (ds.take n) (vs.take n)
  | _, _, 0, _ => .nil
  | _, _, _ + 1, .nil => .nil
  | _, _, n + 1, .cons r t => .cons r (Reps.take n t)
theorem Reps.drop {K : PySem.W.Frag} {H : Hp} {μ : Mp} : ∀ {ds : List D} {vs : List V} (n : Nat), Reps K H μ ds vs → Reps K H μ (ds.drop n) (vs.drop n)
  | _, _, 0, r => r
  | _, _, _ + 1, .nil => .nil
  | _, _, n + 1, .cons _ t => Reps.drop n t
theorem Reps.split {K : PySem.W.Frag} {H : Hp} {μ : Mp} {ds : List D} {vs : List V} (h : Reps K H μ ds vs) (n : Nat) : Reps K H μ (ds.take n) (vs.take n) ∧ Reps K H μ (ds.drop n) (vs.drop n) := ⟨h.take n, h.drop n⟩

/-! ## steps of the heap and of the cells -/
structure Step (μ μ' : Mp) (H H' : Hp) : Prop where
  ext : ∃ t, μ' = ⟨μ.cs ++ t, μ.av⟩ ∧ ∀ a ∈ t, H a = none
  fr : ∀ a o, H a = some o → a ∉ μ.cs → H' a = some o
  dom : ∀ a, H' a = none → H a = none
theorem Step.refl (μ : Mp) (H : Hp) : Step μ μ H H := ⟨⟨[], by simp, fun _ h => nomatch h⟩, fun _ _ h _ => h, fun _ h => h⟩
theorem Step.av {μ μ' : Mp} {H H' : Hp} (p : Step μ μ' H H') : μ'.av = μ.av := by
  obtain ⟨t, e, _⟩ := p.ext
  rw [e]
theorem Step.trans {μ μ1 μ2 : Mp} {H H1 H2 : Hp} (p : Step μ μ1 H H1) (q : Step μ1 μ2 H1 H2) : Step μ μ2 H H2 := by
  obtain ⟨t, e, f⟩ := p.ext
  obtain ⟨u, e2, g⟩ := q.ext
  refine ⟨⟨t ++ u, by rw [e2, e, List.append_assoc], fun a ha => ?_⟩, fun a o h n => ?_, fun a h => p.dom a (q.dom a h)⟩
  · rcases List.mem_append.mp ha with ha | ha
    · exact f a ha
    · exact p.dom a (g a ha)
  · refine q.fr a o (p.fr a o h n) fun z => ?_
    rw [e] at z
    rcases List.mem_append.mp z with z | z
    · exact n z
    · rw [f a z] at h; cases h
theorem Step.get {μ μ' : Mp} {H H' : Hp} (p : Step μ μ' H H') {n : Nat} {a : Addr} (h : μ.cs[n]? = some a) : μ'.cs[n]? = some a := by
  obtain ⟨t, e, _⟩ := p.ext
  rw [e]
  show (μ.cs ++ t)[n]? = some a
  rw [List.getElem?_append_left (List.getElem?_eq_some_iff.mp h).1]
  exact h
theorem Step.notin {μ μ' : Mp} {H H' : Hp} (p : Step μ μ' H H') {a : Addr} {o : HO} (h : H a = some o) (n : a ∉ μ.cs) : a ∉ μ'.cs := by
  obtain ⟨t, e, f⟩ := p.ext
  rw [e]
  intro z
  rcases List.mem_append.mp z with z | z
  · exact n z
  · rw [f a z] at h; cases h
/-- as Step, but places that are new may have to be avoided too -/
structure StepA (μ μ' : Mp) (H H' : Hp) : Prop where
  ext : ∃ t, μ'.cs = μ.cs ++ t ∧ ∀ a ∈ t, H a = none
  av : ∀ a ∈ μ'.av, a ∈ μ.av ∨ H a = none
  fr : ∀ a o, H a = some o → a ∉ μ.cs → H' a = some o
  dom : ∀ a, H' a = none → H a = none
theorem Step.toA {μ μ' : Mp} {H H' : Hp} (p : Step μ μ' H H') : StepA μ μ' H H' := by
  obtain ⟨t, e, f⟩ := p.ext
  exact ⟨⟨t, by rw [e], f⟩, fun a ha => .inl (by rw [← p.av]; exact ha), p.fr, p.dom⟩
theorem StepA.trans {μ μ1 μ2 : Mp} {H H1 H2 : Hp} (p : StepA μ μ1 H H1) (q : StepA μ1 μ2 H1 H2) : StepA μ μ2 H H2 := by
  obtain ⟨t, e, f⟩ := p.ext
  obtain ⟨u, e2, g⟩ := q.ext
  refine ⟨⟨t ++ u, by rw [e2, e, List.append_assoc], fun a ha => ?_⟩, fun a ha => ?_, fun a o h n => ?_, fun a h => p.dom a (q.dom a h)⟩
  · rcases List.mem_append.mp ha with ha | ha
    · exact f a ha
    · exact p.dom a (g a ha)
  · rcases q.av a ha with h | h
    · exact p.av a h
    · exact .inr (p.dom a h)
  · refine q.fr a o (p.fr a o h n) fun z => ?_
    rw [e] at z
    rcases List.mem_append.mp z with z | z
    · exact n z
    · rw [f a z] at h; cases h
theorem StepA.get {μ μ' : Mp} {H H' : Hp} (p : StepA μ μ' H H') {n : Nat} {a : Addr} (h : μ.cs[n]? = some a) : μ'.cs[n]? = some a := by
  obtain ⟨t, e, _⟩ := p.ext
  rw [e, List.getElem?_append_left (List.getElem?_eq_some_iff.mp h).1]
  exact h
theorem StepA.notin {μ μ' : Mp} {H H' : Hp} (p : StepA μ μ' H H') {a : Addr} {o : HO} (h : H a = some o) (n : a ∉ μ.cs) : a ∉ μ'.cs := by
  obtain ⟨t, e, f⟩ := p.ext
  rw [e]
  intro z
  rcases List.mem_append.mp z with z | z
  · exact n z
  · rw [f a z] at h; cases h
theorem StepA.notav {μ μ' : Mp} {H H' : Hp} (p : StepA μ μ' H H') {a : Addr} {o : HO} (h : H a = some o) (n : a ∉ μ.av) : a ∉ μ'.av := fun z => by
  rcases p.av a z with z | z
  · exact n z
  · rw [z] at h; cases h
theorem StepA.rd {μ μ' : Mp} {H H' : Hp} (p : StepA μ μ' H H') {a : Addr} {u : HO} (h : Rd H a u ∧ a ∉ μ.cs ∧ a ∉ μ.av) : Rd H' a u ∧ a ∉ μ'.cs ∧ a ∉ μ'.av := by
  obtain ⟨h | ⟨o, h⟩, n, m⟩ := h
  · exact ⟨.inl (p.fr _ _ h n), p.notin h n, p.notav h m⟩
  · exact ⟨.inr ⟨o, p.fr _ _ h n⟩, p.notin h n, p.notav h m⟩
section
variable {K : PySem.W.Frag} {μ μ' : Mp} {H H' : Hp}
theorem StepA.tup (p : StepA μ μ' H H') {a : Addr} {vs : List V} (h : TupAt K H μ a vs) : TupAt K H' μ' a vs := h.elim (fun z => .inl (p.rd z)) .inr
theorem StepA.lst (p : StepA μ μ' H H') {a : Addr} {vs : List V} (h : LstAt H μ a vs) : LstAt H' μ' a vs := ⟨p.fr _ _ h.1 h.2.1, p.notin h.1 h.2.1, p.notav h.1 h.2.2⟩
theorem StepA.scr (p : StepA μ μ' H H') {a : Addr} {vs : List V} (h : ScrAt K H μ a vs) : ScrAt K H' μ' a vs := h.elim (fun z => .inl (p.rd z)) .inr
theorem StepA.dct (p : StepA μ μ' H H') {a : Addr} {ks : List L2.Key} {vs : List V} (h : DctAt H μ a ks vs) : DctAt H' μ' a ks vs := let ⟨kvs, z, e⟩ := h; ⟨kvs, p.rd z, e⟩
theorem StepA.dcu (p : StepA μ μ' H H') {a : Addr} {ks : List (List L2.Key)} {vs : List V} (h : DcuAt H μ a ks vs) : DcuAt H' μ' a ks vs := let ⟨kvs, z, e⟩ := h; ⟨kvs, p.rd z, e⟩
mutual
theorem StepA.rep (p : StepA μ μ' H H') : ∀ (d : D) (v : V), Rep K H μ d v → Rep K H' μ' d v
  | .non, _, h => by cases h; exact .non
  | .bl b, _, h => by cases h; exact .bl b
  | .int i, _, h => by cases h; exact .int i
  | .str s, _, h => by cases h; exact .str s
  | .tup ds, _, h => by
    cases h with
    | tup h1 h2 => exact .tup (p.tup h1) (p.reps ds _ h2)
  | .lst ds, _, h => by
    cases h with
    | lst h1 h2 => exact .lst (p.lst h1) (p.reps ds _ h2)
  | .ref n, _, h => by
    cases h with
    | ref h1 => exact .ref (p.get h1)
  | .scr n, _, h => by
    cases h with
    | scr h1 => exact .scr (p.scr h1)
  | .dct ks ds, _, h => by
    cases h with
    | dct h1 h2 => exact .dct (p.dct h1) (p.reps ds _ h2)
  | .dcu ks ds, _, h => by
    cases h with
    | dcu h1 h2 => exact .dcu (p.dcu h1) (p.reps ds _ h2)
theorem StepA.reps (p : StepA μ μ' H H') : ∀ (ds : List D) (vs : List V), Reps K H μ ds vs → Reps K H' μ' ds vs
  | [], _, h => by cases h; exact .nil
  | d :: ds, _, h => by
    cases h with
    | cons h1 h2 => exact .cons (p.rep d _ h1) (p.reps ds _ h2)
end
theorem Step.rep (p : Step μ μ' H H') (d : D) (v : V) (h : Rep K H μ d v) : Rep K H' μ' d v := p.toA.rep d v h
theorem Step.reps (p : Step μ μ' H H') (ds : List D) (vs : List V) (h : Reps K H μ ds vs) : Reps K H' μ' ds vs := p.toA.reps ds vs h
end


/-! ## the cells stand -/
def FieldsRep (K : PySem.W.Frag) (H : Hp) (μ : Mp) (fs : List (Str × D)) (gs : List (Str × V)) : Prop := fs.map (·.1) = gs.map (·.1) ∧ Reps K H μ (fs.map (·.2)) (gs.map (·.2))
def CellAt (K : PySem.W.Frag) (cl : Str → Option Addr) (H : Hp) (μ : Mp) (a : Addr) : Cell → Prop
  | .lst ds => ∃ vs, H a = some (.lst vs) ∧ Reps K H μ ds vs
  | .obj c fs => ∃ C dx gs, cl c = some C ∧ H a = some (.ins C dx gs) ∧ FieldsRep K H μ fs gs
structure StOk (K : PySem.W.Frag) (cl : Str → Option Addr) (H : Hp) (μ : Mp) (st : Store) : Prop where
  len : μ.cs.length = st.length
  nd : μ.cs.Nodup
  cell : ∀ (n : Nat) (c : Cell), st[n]? = some c → ∃ a, μ.cs[n]? = some a ∧ CellAt K cl H μ a c
  av : ∀ a ∈ μ.av, H a ≠ none

theorem CellAt.there {K : PySem.W.Frag} {cl : Str → Option Addr} {H : Hp} {μ : Mp} {a : Addr} {c : Cell} (h : CellAt K cl H μ a c) : ∃ o, H a = some o ∧ (∀ xs, o ≠ .tup xs) ∧ ∀ ob u, o ≠ .frz ob u := by
  cases c with
  | lst ds => obtain ⟨vs, e, _⟩ := h; exact ⟨_, e, fun _ z => (nomatch z), fun _ _ z => (nomatch z)⟩
  | obj n fs => obtain ⟨C, dx, gs, _, e, _⟩ := h; exact ⟨_, e, fun _ z => (nomatch z), fun _ _ z => (nomatch z)⟩
theorem StOk.notin {K : PySem.W.Frag} {cl : Str → Option Addr} {H : Hp} {μ : Mp} {st : Store} (h : StOk K cl H μ st) {p : Addr} (hp : H p = none) : p ∉ μ.cs := fun z => by
  obtain ⟨i, hi, e⟩ := List.getElem_of_mem z
  have hi2 : i < st.length := by rw [← h.len]; exact hi
  obtain ⟨a, e2, c⟩ := h.cell i st[i] (List.getElem?_eq_getElem hi2)
  rw [List.getElem?_eq_getElem hi, e] at e2
  cases e2
  obtain ⟨o, q, _⟩ := c.there
  rw [hp] at q; cases q
theorem StOk.notav {K : PySem.W.Frag} {cl : Str → Option Addr} {H : Hp} {μ : Mp} {st : Store} (h : StOk K cl H μ st) {p : Addr} (hp : H p = none) : p ∉ μ.av := fun z => h.av p z hp
/-- where H is as before at the cells and nothing is lost the cells stand -/
theorem StOk.keep {K : PySem.W.Frag} {cl : Str → Option Addr} {H H' : Hp} {μ : Mp} {st : Store} (h : StOk K cl H μ st) (k : ∀ a o, H a = some o → H' a = some o) (dom : ∀ a, H' a = none → H a = none) : StOk K cl H' μ st := by
  have p : Step μ μ H H' := ⟨⟨[], by simp, fun _ z => nomatch z⟩, fun a o e _ => k a o e, dom⟩
  refine ⟨h.len, h.nd, fun n c e => ?_, fun a ha z => h.av a ha (dom a z)⟩
  obtain ⟨a, e1, c1⟩ := h.cell n c e
  refine ⟨a, e1, ?_⟩
  cases c with
  | lst ds => obtain ⟨vs, e2, r⟩ := c1; exact ⟨vs, k _ _ e2, p.reps _ _ r⟩
  | obj n fs => obtain ⟨C, dx, gs, q, e2, r⟩ := c1; exact ⟨C, dx, gs, q, k _ _ e2, r.1, p.reps _ _ r.2⟩
/-- a new object -/
theorem Step.alloc {H : Hp} {μ : Mp} {p : Addr} {o : HO} (hp : H p = none) : Step μ μ H (upd H p o) := by
  refine ⟨⟨[], by simp, fun _ h => nomatch h⟩, fun a u e _ => ?_, fun a e => ?_⟩
  · rw [upd_ne (ne_of_none e hp)]; exact e
  · by_cases q : a = p
    · subst q; exact hp
    · rw [upd_ne q] at e; exact e
theorem StOk.alloc {K : PySem.W.Frag} {cl : Str → Option Addr} {H : Hp} {μ : Mp} {st : Store} (h : StOk K cl H μ st) {p : Addr} {o : HO} (hp : H p = none) : StOk K cl (upd H p o) μ st :=
  h.keep (fun a u e => by rw [upd_ne (ne_of_none e hp)]; exact e) fun a e => by
    by_cases q : a = p
    · subst q; exact hp
    · rw [upd_ne q] at e; exact e

/-! ## slots -/
inductive SlOk (K : PySem.W.Frag) (H : Hp) (μ : Mp) : Sl → St → Prop
  | nil : SlOk K H μ [] []
  | un {es : Sl} {vs : St} {o : Option V} : SlOk K H μ es vs → SlOk K H μ (Option.none :: es) (o :: vs)
  | is {d : D} {v : V} {es : Sl} {vs : St} : Rep K H μ d v → SlOk K H μ es vs → SlOk K H μ (Option.some d :: es) (Option.some v :: vs)
section
variable {K : PySem.W.Frag} {H H' : Hp} {μ μ' : Mp}
theorem SlOk.get : ∀ {es : Sl} {vs : St} {i : Nat} {d : D}, SlOk K H μ es vs → es[i]? = some (some d) → ∃ v, vs[i]? = some (some v) ∧ Rep K H μ d v
  | _, _, _, _, .nil, e => by simp at e
  | _, _, 0, _, .un _, e => by simp at e
  | _, _, 0, _, .is r _, e => by simp at e; subst e; exact ⟨_, rfl, r⟩
  | _, _, i + 1, d, .un t, e => by
    obtain ⟨v, h1, h2⟩ := SlOk.get (i := i) (d := d) t (by simpa using e)
    exact ⟨v, by simpa using h1, h2⟩
  | _, _, i + 1, d, .is _ t, e => by
    obtain ⟨v, h1, h2⟩ := SlOk.get (i := i) (d := d) t (by simpa using e)
    exact ⟨v, by simpa using h1, h2⟩
theorem SlOk.set {d : D} {v : V} (r : Rep K H μ d v) : ∀ {es : Sl} {vs : St} (i : Nat), SlOk K H μ es vs → SlOk K H μ (es.set i (some d)) (vs.set i (some v))
  | _, _, _, .nil => .nil
  | _, _, 0, .un t => .is r t
  | _, _, 0, .is _ t => .is r t
  | _, _, i + 1, .un t => .un (SlOk.set r i t)
  | _, _, i + 1, .is q t => .is q (SlOk.set r i t)
theorem SlOk.setN : ∀ {es : Sl} {vs : St} {o : Option V} (i : Nat), SlOk K H μ es vs → SlOk K H μ (es.set i none) (vs.set i o)
  | _, _, _, _, .nil => .nil
  | _, _, _, 0, .un t => .un t
  | _, _, _, 0, .is _ t => .un t
  | _, _, _, i + 1, .un t => .un (SlOk.setN i t)
  | _, _, _, i + 1, .is q t => .is q (SlOk.setN i t)
theorem SlOk.stepA (p : StepA μ μ' H H') : ∀ {es : Sl} {vs : St}, SlOk K H μ es vs → SlOk K H' μ' es vs
  | _, _, .nil => .nil
  | _, _, .un t => .un (SlOk.stepA p t)
  | _, _, .is r t => .is (p.rep _ _ r) (SlOk.stepA p t)
theorem SlOk.step (p : Step μ μ' H H') {es : Sl} {vs : St} (h : SlOk K H μ es vs) : SlOk K H' μ' es vs := h.stepA p.toA
theorem SlOk.start : ∀ {ds : List D} {vs : List V} (n : Nat), Reps K H μ ds vs → SlOk K H μ (ds.map some ++ List.replicate n none) (vs.map some ++ List.replicate n none)
  | _, _, 0, .nil => .nil
  | _, _, n + 1, .nil => .un (SlOk.start n .nil)
  | _, _, n, .cons r t => .is r (SlOk.start n t)
end
end Zv
namespace Zv
open PySem PySem.Spec L2

/-! ## what is wanted behind a piece -/
structure Pk where
  cl : Str → Option Addr
  W : WX
def ExOk (K : PySem.W.Frag) (cl : Str → Option Addr) (H : Hp) (μ : Mp) (x : Exn) (c : Value) (od : Option Addr) : Prop :=
  ∃ C, cl x.name = some C ∧ c = .ref C ∧ (x.fs = [] ∨ ∃ d gs, od = some d ∧ H d = some (.xd gs) ∧ FieldsRep K H μ x.fs gs)
def Aft {α : Type} (K : PySem.W.Frag) (cl : Str → Option Addr) (μ : Mp) (H : Hp) (r : R α) (Q : α → Store → Mp → Hp → Prop) (Q' : Value → Option Addr → Hp → Prop) : Prop :=
  match r with
  | .ok a st' => ∀ μ' H', Step μ μ' H H' → StOk K cl H' μ' st' → Q a st' μ' H'
  | .ex x st' => ∀ μ' H' c od, Step μ μ' H H' → StOk K cl H' μ' st' → ExOk K cl H' μ' x c od → Q' c od H'
  | .no => False
theorem Aft.mono {α : Type} {K : PySem.W.Frag} {cl : Str → Option Addr} {μ : Mp} {H : Hp} {r : R α} {Q Q1 : α → Store → Mp → Hp → Prop} {Q' Q1' : Value → Option Addr → Hp → Prop} (h : Aft K cl μ H r Q Q')
    (k : ∀ a st' μ' H', Step μ μ' H H' → StOk K cl H' μ' st' → Q a st' μ' H' → Q1 a st' μ' H') (k' : ∀ c od H', Q' c od H' → Q1' c od H') : Aft K cl μ H r Q1 Q1' := by
  cases r with
  | ok a st => exact fun μ' H' p so => k a st μ' H' p so (h μ' H' p so)
  | ex x st => exact fun μ' H' c od p so e => k' c od H' (h μ' H' c od p so e)
  | no => exact h
theorem Aft.step {α : Type} {K : PySem.W.Frag} {cl : Str → Option Addr} {μ μ1 : Mp} {H H1 : Hp} {r : R α} {Q : α → Store → Mp → Hp → Prop} {Q' : Value → Option Addr → Hp → Prop} (p : Step μ μ1 H H1) (h : Aft K cl μ H r Q Q') : Aft K cl μ1 H1 r Q Q' := by
  cases r with
  | ok a st => exact fun μ' H' q so => h μ' H' (p.trans q) so
  | ex x st => exact fun μ' H' c od q so e => h μ' H' c od (p.trans q) so e
  | no => exact h
theorem Aft.bind {α β : Type} {K : PySem.W.Frag} {cl : Str → Option Addr} {μ : Mp} {H : Hp} {r : R α} {f : α → Store → R β} {Q : β → Store → Mp → Hp → Prop} {Q' : Value → Option Addr → Hp → Prop} (h : Aft K cl μ H (r.bind f) Q Q') :
    Aft K cl μ H r (fun a st1 μ1 H1 => Aft K cl μ1 H1 (f a st1) Q Q') Q' := by
  cases r with
  | ok a st => exact fun μ' H' p so => Aft.step p h
  | ex x st => exact h
  | no => exact h
theorem Aft.ret {α : Type} {K : PySem.W.Frag} {cl : Str → Option Addr} {μ : Mp} {H : Hp} {a : α} {st : Store} {Q : α → Store → Mp → Hp → Prop} {Q' : Value → Option Addr → Hp → Prop} (so : StOk K cl H μ st) (h : Aft K cl μ H (.ok a st) Q Q') : Q a st μ H := h μ H (Step.refl _ _) so

abbrev EM := Sl → Store → R D
abbrev TM := Sl → Store → R Bool
abbrev AM := Sl → Store → R (List D)

def lE (K : PySem.W.Frag) (k : Pk) (m : EM) : TE := fun σ H Q => ∃ μ st es, SlOk K H μ es σ ∧ StOk K k.cl H μ st ∧ Aft K k.cl μ H (m es st) (fun d _ μ' H' => ∀ v, Rep K H' μ' d v → Q v H') fun c od H' => k.W c od σ H'
def lT (K : PySem.W.Frag) (k : Pk) (m : TM) : TT := fun σ H Q => ∃ μ st es, SlOk K H μ es σ ∧ StOk K k.cl H μ st ∧ Aft K k.cl μ H (m es st) (fun b _ _ H' => Q b H') fun c od H' => k.W c od σ H'
def lA (K : PySem.W.Frag) (k : Pk) (m : AM) : TA := fun σ H Q => ∃ μ st es, SlOk K H μ es σ ∧ StOk K k.cl H μ st ∧ Aft K k.cl μ H (m es st) (fun ds _ μ' H' => ∀ vs, Reps K H' μ' ds vs → Q vs H') fun c od H' => k.W c od σ H'

theorem PE.imp {X : Cx} {e : Expr} {t t' : TE} (h : PE X e t) (i : ∀ σ H Q, t' σ H Q → t σ H Q) : PE X e t' := ⟨fun pins s σ H Q I w => h.run pins s σ H Q I (i σ H Q w)⟩
theorem PT.imp {X : Cx} {e : Expr} {t t' : TT} (h : PT X e t) (i : ∀ σ H Q, t' σ H Q → t σ H Q) : PT X e t' := ⟨fun pins s σ H Q I w => h.run pins s σ H Q I (i σ H Q w)⟩
theorem PW.imp {X : Cx} {e : Expr} {t t' : TT} (h : PW X e t) (i : ∀ σ H Q, t' σ H Q → t σ H Q) : PW X e t' := ⟨fun wh pins s σ H Q I w => h.run wh pins s σ H Q I (i σ H Q w)⟩
theorem PA.imp {X : Cx} {e : List Expr} {t t' : TA} (h : PA X e t) (i : ∀ σ H Q, t' σ H Q → t σ H Q) : PA X e t' := ⟨fun pos pins s σ H Q I w => h.run pos pins s σ H Q I (i σ H Q w)⟩
theorem PS.imp {X : Cx} {e : Stmt} {t t' : TS} (h : PS X e t) (i : ∀ D σ H, t' D σ H → t D σ H) : PS X e t' := ⟨fun pins s σ H D I w => h.run pins s σ H D I (i D σ H w)⟩
theorem PSs.imp {X : Cx} {e : List Stmt} {t t' : TS} (h : PSs X e t) (i : ∀ D σ H, t' D σ H → t D σ H) : PSs X e t' := ⟨fun pins s σ H D I w => h.run pins s σ H D I (i D σ H w)⟩
theorem PG.imp {X : Cx} {e : Expr} {t t' : TG} (h : PG X e t) (i : ∀ v σ H Q, t' v σ H Q → t v σ H Q) : PG X e t' := ⟨fun pins s σ H v u Q I r w => h.run pins s σ H v u Q I r (i v σ H Q w)⟩
theorem OpR.imp {X : Cx} {f : Value → Value → Sem Value} {r r' : R2} (h : OpR X f r) (i : ∀ x y H Q, r' x y H Q → r x y H Q) : OpR X f r' := fun pins s σ H x y v u Q I rx ry w => h pins s σ H x y v u Q I rx ry (i x y H Q w)
theorem CallR.imp {X : Cx} {f : Value} {r r' : List V → Hp → VK → Prop} (h : CallR X f r) (i : ∀ xs H Q, r' xs H Q → r xs H Q) : CallR X f r' := fun pins s σ H xs us Q I rx w => h pins s σ H xs us Q I rx (i xs H Q w)
theorem IxR.imp {X : Cx} {r r' : R2} (h : IxR X r) (i : ∀ x y H Q, r' x y H Q → r x y H Q) : IxR X r' := fun value slice pins s σ H x y v u Q I rx ry w e => h value slice pins s σ H x y v u Q I rx ry (i x y H Q w) e

/-! ## expressions -/
def mVar (i : Nat) (es : Sl) (st : Store) : R D := match es[i]? with
  | some (some d) => .ok d st
  | _ => .no
def mC (d : D) (es : Sl) (st : Store) : R D := .ok d st
section
variable {X : Cx} {k : Pk} {a b : Expr} {ma mb mc : EM} {pos : Pos}
theorem zv (i : Nat) {x : Str} (hN : X.N[i]? = some x := by rfl) (hv : Vis X.env.scope x := by first | exact Or.inl rfl | exact Or.inr (Or.inl rfl) | exact Or.inr (Or.inr rfl)) (hd : (x == ("__debug__" : Str)) = false := by decide)
    (hcd : (x == ("__classdict__" : Str)) = false := by decide) : PE X (.Name x pos) (lE X.K k (mVar i)) := by
  refine PE.imp (pe_var hN hv hd hcd) fun σ H Q h => ?_
  obtain ⟨μ, st, es, so, ok, h⟩ := h
  unfold mVar at h
  split at h
  · rename_i d e
    obtain ⟨v, e2, r⟩ := so.get e
    exact ⟨v, e2, Aft.ret ok h v r⟩
  · exact h.elim
theorem lC {v : V} {d : D} (r : ∀ H μ, Rep X.K H μ d v) {e : Expr} (h : PE X e (tC v)) : PE X e (lE X.K k (mC d)) :=
  PE.imp h fun σ H Q ⟨μ, st, es, so, ok, h⟩ => Aft.ret ok h v (r _ _)
theorem zint {i j} : PE X (.Constant (.int i) j pos) (lE X.K k (mC (.int i))) := lC (fun _ _ => .int i) pe_int
theorem zbl {i j} : PE X (.Constant (.bool i) j pos) (lE X.K k (mC (.bl i))) := lC (fun _ _ => .bl i) pe_bl
theorem znon {j} : PE X (.Constant .none j pos) (lE X.K k (mC .non)) := lC (fun _ _ => .non) pe_non
theorem zstr {x j} : PE X (.Constant (.str x) j pos) (lE X.K k (mC (.str x))) := lC (fun _ _ => .str x) pe_str
theorem zglobI {i : Int} {t : Tok} {x : Str} (hg : Gl X x) (hm : X.mg x = some (.int i t)) (hd : (x == ("__debug__" : Str)) = false := by decide) : PE X (.Name x pos) (lE X.K k (mC (.int i))) := lC (fun _ _ => .int i) (pe_glob hg hm ⟨t, rfl⟩ hd)

/-! ### two-place operations by data -/
abbrev F2 := Store → D → D → Option D
def rZ (K : PySem.W.Frag) (cl : Str → Option Addr) (f : F2) : R2 := fun x y H Q => ∃ μ st dx dy d, Rep K H μ dx x ∧ Rep K H μ dy y ∧ StOk K cl H μ st ∧ f st dx dy = some d ∧ ∀ v H', Step μ μ H H' → StOk K cl H' μ st → Rep K H' μ d v → Q v H'
def mOp (f : F2) (ma mb : EM) (es : Sl) (st : Store) : R D := (ma es st).bind fun x st1 => (mb es st1).bind fun y st2 => R.ofO (f st2 x y) st2
theorem Aft.ofO {α : Type} {K : PySem.W.Frag} {cl : Str → Option Addr} {μ : Mp} {H : Hp} {o : Option α} {st : Store} {Q : α → Store → Mp → Hp → Prop} {Q' : Value → Option Addr → Hp → Prop} (h : Aft K cl μ H (R.ofO o st) Q Q') :
    ∃ a, o = some a ∧ ∀ μ' H', Step μ μ' H H' → StOk K cl H' μ' st → Q a st μ' H' := by
  cases o with
  | none => exact h.elim
  | some a => exact ⟨a, rfl, h⟩
/-- two expressions one behind the other -/
theorem lE2 {f : D → D → Store → R D} {σ : L2.St} {H : Hp} {Q : VK} (h : lE X.K k (fun es st => (ma es st).bind fun x st1 => (mb es st1).bind fun y st2 => f x y st2) σ H Q) :
    lE X.K k ma σ H fun x H1 => lE X.K k mb σ H1 fun y H2 => ∃ μ st es dx dy, SlOk X.K H2 μ es σ ∧ Rep X.K H2 μ dx x ∧ Rep X.K H2 μ dy y ∧ StOk X.K k.cl H2 μ st ∧
      Aft X.K k.cl μ H2 (f dx dy st) (fun d _ μ' H' => ∀ v, Rep X.K H' μ' d v → Q v H') fun c od H' => k.W c od σ H' := by
  obtain ⟨μ, st, es, so, ok, h⟩ := h
  refine ⟨μ, st, es, so, ok, Aft.mono (Aft.bind h) (fun dx st1 μ1 H1 p1 ok1 h1 x rx => ?_) fun _ _ _ z => z⟩
  refine ⟨μ1, st1, es, so.step p1, ok1, Aft.mono (Aft.bind h1) (fun dy st2 μ2 H2 p2 ok2 h2 y ry => ?_) fun _ _ _ z => z⟩
  exact ⟨μ2, st2, es, dx, dy, (so.step p1).step p2, p2.rep _ _ rx, ry, ok2, h2⟩
theorem lE1 {f : D → Store → R D} {σ : L2.St} {H : Hp} {Q : VK} (h : lE X.K k (fun es st => (ma es st).bind fun x st1 => f x st1) σ H Q) :
    lE X.K k ma σ H fun x H1 => ∃ μ st es dx, SlOk X.K H1 μ es σ ∧ Rep X.K H1 μ dx x ∧ StOk X.K k.cl H1 μ st ∧
      Aft X.K k.cl μ H1 (f dx st) (fun d _ μ' H' => ∀ v, Rep X.K H' μ' d v → Q v H') fun c od H' => k.W c od σ H' := by
  obtain ⟨μ, st, es, so, ok, h⟩ := h
  exact ⟨μ, st, es, so, ok, Aft.mono (Aft.bind h) (fun dx st1 μ1 H1 p1 ok1 h1 x rx => ⟨μ1, st1, es, dx, so.step p1, rx, ok1, h1⟩) fun _ _ _ z => z⟩
/-- the reading of a two-place operation -/
theorem lOp {f : F2} {r : R2} (hr : ∀ x y H Q, rZ X.K k.cl f x y H Q → r x y H Q) {σ : L2.St} {H : Hp} {Q : VK} (h : lE X.K k (mOp f ma mb) σ H Q) : tOp r (lE X.K k ma) (lE X.K k mb) σ H Q := by
  obtain ⟨μ, st, es, so, ok, h⟩ := lE2 (f := fun x y st => R.ofO (f st x y) st) h
  refine ⟨μ, st, es, so, ok, Aft.mono h (fun d st' μ' H' p ok' h v rv => ?_) fun _ _ _ z => z⟩
  obtain ⟨μ1, st1, es1, so1, ok1, h⟩ := h v rv
  refine ⟨μ1, st1, es1, so1, ok1, Aft.mono h (fun d2 st2 μ2 H2 p2 ok2 h u ru => ?_) fun _ _ _ z => z⟩
  obtain ⟨μ3, st3, es3, dx, dy, so3, rx, ry, ok3, h⟩ := h u ru
  obtain ⟨d3, e3, h⟩ := Aft.ofO h
  exact hr _ _ _ _ ⟨μ3, st3, dx, dy, d3, rx, ry, ok3, e3, fun v H' p so r => h μ3 H' p so v r⟩
theorem zop {f : F2} {op : Operator} (ho : ∀ {Y : Cx} {cl : Str → Option Addr}, OpR Y (binaryOp op) (rZ Y.K cl f)) (ha : PE X a (lE X.K k ma)) (hb : PE X b (lE X.K k mb)) : PE X (.BinOp a op b pos) (lE X.K k (mOp f ma mb)) :=
  PE.imp (pe_op (ho (cl := k.cl)) ha hb) fun _ _ _ h => lOp (fun _ _ _ _ z => z) h
theorem zcmp {f : F2} {op : CmpOp} (ho : OpR X (compareOp op) (rZ X.K k.cl f)) (ha : PE X a (lE X.K k ma)) (hb : PE X b (lE X.K k mb)) (hm : behindInMarks op b = false := by first | exact nomark _ (by decide) (by decide) | rfl | with_unfolding_all rfl) :
    PE X (.Compare a [op] [b] pos) (lE X.K k (mOp f ma mb)) := PE.imp (pe_cmpR ho ha hb hm) fun _ _ _ h => lOp (fun _ _ _ _ z => z) h

/-! ### tests -/
def mTest (m : EM) (es : Sl) (st : Store) : R Bool := (m es st).bind fun d st1 => match d with
  | .bl b => .ok b st1
  | _ => .no
theorem lTest {σ : L2.St} {H : Hp} {Q : Bool → Hp → Prop} (h : lT X.K k (mTest ma) σ H Q) : tTest (lE X.K k ma) σ H Q := by
  obtain ⟨μ, st, es, so, ok, h⟩ := h
  refine ⟨μ, st, es, so, ok, Aft.mono (Aft.bind h) (fun d st1 μ1 H1 p1 ok1 h1 x rx => ?_) fun _ _ _ z => z⟩
  split at h1
  · cases rx
    exact ⟨_, rfl, Aft.ret ok1 h1⟩
  · exact h1.elim
theorem ztcmp {f : F2} {op : CmpOp} (ho : OpR X (compareOp op) (rZ X.K k.cl f)) (ha : PE X a (lE X.K k ma)) (hb : PE X b (lE X.K k mb)) (hm : behindInMarks op b = false := by first | exact nomark _ (by decide) (by decide) | rfl | with_unfolding_all rfl) :
    PT X (.Compare a [op] [b] pos) (lT X.K k (mTest (mOp f ma mb))) :=
  PT.imp (pt_cmpR ho ha hb hm) fun σ H Q h => by
    obtain ⟨μ, st, es, so, ok, h⟩ := lTest h
    exact lOp (fun _ _ _ _ z => z) ⟨μ, st, es, so, ok, h⟩
theorem ztval (ha : PE X a (lE X.K k ma)) (he : ∀ whole, isTrue a X.env whole = (do let v ← whole; standAt a.pos; holding [v] (truthy v)) := by intro _; rfl) : PT X a (lT X.K k (mTest ma)) :=
  PT.imp (pt_val ha he) fun σ H Q h => lTest h
def tAnd (ma mb : TM) (es : Sl) (st : Store) : R Bool := (ma es st).bind fun b st1 => if b then mb es st1 else .ok false st1
def tOr (ma mb : TM) (es : Sl) (st : Store) : R Bool := (ma es st).bind fun b st1 => if b then .ok true st1 else mb es st1
def tNot (ma : TM) (es : Sl) (st : Store) : R Bool := (ma es st).bind fun b st1 => .ok (!b) st1
variable {ta tb : TM} {rest : List Expr}
theorem ztnot (ha : PT X a (lT X.K k ta)) : PT X (.UnaryOp .Not a pos) (lT X.K k (tNot ta)) :=
  PT.imp (pt_not ha) fun σ H Q ⟨μ, st, es, so, ok, h⟩ => ⟨μ, st, es, so, ok, Aft.mono (Aft.bind h) (fun b st1 μ1 H1 p1 ok1 h1 => Aft.ret ok1 h1) fun _ _ _ z => z⟩
theorem zwand1 (ha : PT X a (lT X.K k ta)) : PW X (.BoolOp .And [a] pos) (lT X.K k ta) := pw_and1 ha
theorem zwor1 (ha : PT X a (lT X.K k ta)) : PW X (.BoolOp .Or [a] pos) (lT X.K k ta) := pw_or1 ha
theorem zwand (ha : PT X a (lT X.K k ta)) (hb : PW X (.BoolOp .And (b :: rest) pos) (lT X.K k tb)) : PW X (.BoolOp .And (a :: b :: rest) pos) (lT X.K k (tAnd ta tb)) :=
  PW.imp (pw_and ha hb) fun σ H Q ⟨μ, st, es, so, ok, h⟩ => ⟨μ, st, es, so, ok, Aft.mono (Aft.bind h) (fun c st1 μ1 H1 p1 ok1 h1 => by
    cases c with
    | true =>
      rw [if_pos rfl]
      exact ⟨μ1, st1, es, so.step p1, ok1, h1⟩
    | false =>
      rw [if_neg Bool.false_ne_true]
      exact Aft.ret ok1 h1) fun _ _ _ z => z⟩
theorem zwor (ha : PT X a (lT X.K k ta)) (hb : PW X (.BoolOp .Or (b :: rest) pos) (lT X.K k tb)) : PW X (.BoolOp .Or (a :: b :: rest) pos) (lT X.K k (tOr ta tb)) :=
  PW.imp (pw_or ha hb) fun σ H Q ⟨μ, st, es, so, ok, h⟩ => ⟨μ, st, es, so, ok, Aft.mono (Aft.bind h) (fun c st1 μ1 H1 p1 ok1 h1 => by
    cases c with
    | true =>
      rw [if_pos rfl]
      exact Aft.ret ok1 h1
    | false =>
      rw [if_neg Bool.false_ne_true]
      exact ⟨μ1, st1, es, so.step p1, ok1, h1⟩) fun _ _ _ z => z⟩
/-! values of tests -/
def eAnd (ma mb : EM) (es : Sl) (st : Store) : R D := (ma es st).bind fun d st1 => match d with
  | .bl b => if b then mb es st1 else .ok (.bl false) st1
  | _ => .no
def eOr (ma mb : EM) (es : Sl) (st : Store) : R D := (ma es st).bind fun d st1 => match d with
  | .bl b => if b then .ok (.bl true) st1 else mb es st1
  | _ => .no
def eNot (ma : EM) (es : Sl) (st : Store) : R D := (ma es st).bind fun d st1 => match d with
  | .bl b => .ok (.bl (!b)) st1
  | _ => .no
theorem zone {op} (ha : PE X a (lE X.K k ma)) : PE X (.BoolOp op [a] pos) (lE X.K k ma) := pe_one ha
theorem zand (ha : PE X a (lE X.K k ma)) (hb : PE X (.BoolOp .And (b :: rest) pos) (lE X.K k mb)) : PE X (.BoolOp .And (a :: b :: rest) pos) (lE X.K k (eAnd ma mb)) :=
  PE.imp (pe_and ha hb) fun σ H Q ⟨μ, st, es, so, ok, h⟩ => ⟨μ, st, es, so, ok, Aft.mono (Aft.bind h) (fun d st1 μ1 H1 p1 ok1 h1 v rv => by
    split at h1
    · rename_i c
      cases rv
      refine ⟨c, rfl, ?_⟩
      cases c with
      | true =>
        rw [if_pos rfl]
        exact ⟨μ1, st1, es, so.step p1, ok1, h1⟩
      | false =>
        rw [if_neg Bool.false_ne_true]
        exact Aft.ret ok1 h1 _ (.bl false)
    · exact h1.elim) fun _ _ _ z => z⟩
theorem zor (ha : PE X a (lE X.K k ma)) (hb : PE X (.BoolOp .Or (b :: rest) pos) (lE X.K k mb)) : PE X (.BoolOp .Or (a :: b :: rest) pos) (lE X.K k (eOr ma mb)) :=
  PE.imp (pe_or ha hb) fun σ H Q ⟨μ, st, es, so, ok, h⟩ => ⟨μ, st, es, so, ok, Aft.mono (Aft.bind h) (fun d st1 μ1 H1 p1 ok1 h1 v rv => by
    split at h1
    · rename_i c
      cases rv
      refine ⟨c, rfl, ?_⟩
      cases c with
      | true =>
        rw [if_pos rfl]
        exact Aft.ret ok1 h1 _ (.bl true)
      | false =>
        rw [if_neg Bool.false_ne_true]
        exact ⟨μ1, st1, es, so.step p1, ok1, h1⟩
    · exact h1.elim) fun _ _ _ z => z⟩
theorem znot (ha : PE X a (lE X.K k ma)) : PE X (.UnaryOp .Not a pos) (lE X.K k (eNot ma)) :=
  PE.imp (pe_not ha) fun σ H Q ⟨μ, st, es, so, ok, h⟩ => ⟨μ, st, es, so, ok, Aft.mono (Aft.bind h) (fun d st1 μ1 H1 p1 ok1 h1 v rv => by
    split at h1
    · cases rv
      exact ⟨_, rfl, Aft.ret ok1 h1 _ (.bl _)⟩
    · exact h1.elim) fun _ _ _ z => z⟩
def mIf (t : TM) (ma mb : EM) (es : Sl) (st : Store) : R D := (t es st).bind fun b st1 => if b then ma es st1 else mb es st1
theorem zif {c : Expr} (hc : PT X c (lT X.K k ta)) (ha : PE X a (lE X.K k ma)) (hb : PE X b (lE X.K k mb)) : PE X (.IfExp c a b pos) (lE X.K k (mIf ta ma mb)) :=
  PE.imp (pe_ifExp hc ha hb) fun σ H Q ⟨μ, st, es, so, ok, h⟩ => ⟨μ, st, es, so, ok, Aft.mono (Aft.bind h) (fun c st1 μ1 H1 p1 ok1 h1 => by
    cases c with
    | true =>
      rw [if_pos rfl]
      exact ⟨μ1, st1, es, so.step p1, ok1, h1⟩
    | false =>
      rw [if_neg Bool.false_ne_true]
      exact ⟨μ1, st1, es, so.step p1, ok1, h1⟩) fun _ _ _ z => z⟩

/-! ### arguments, tuples, lists -/
def aNil (es : Sl) (st : Store) : R (List D) := .ok [] st
def aCons (ma : EM) (mr : AM) (es : Sl) (st : Store) : R (List D) := (ma es st).bind fun d st1 => (mr es st1).bind fun ds st2 => .ok (d :: ds) st2
variable {es : List Expr} {mr : AM}
theorem zanil : PA X [] (lA X.K k aNil) := PA.imp pa_nil fun σ H Q ⟨μ, st, es, so, ok, h⟩ => Aft.ret ok h _ .nil
theorem zacons (ha : PE X a (lE X.K k ma)) (hr : PA X es (lA X.K k mr)) (hs : starEach (a :: es) X.env = (false, eval a X.env) :: starEach es X.env := by rfl) : PA X (a :: es) (lA X.K k (aCons ma mr)) :=
  PA.imp (pa_cons ha hr hs) fun σ H Q ⟨μ, st, es, so, ok, h⟩ => ⟨μ, st, es, so, ok, Aft.mono (Aft.bind h) (fun d st1 μ1 H1 p1 ok1 h1 x rx =>
    ⟨μ1, st1, es, so.step p1, ok1, Aft.mono (Aft.bind h1) (fun ds st2 μ2 H2 p2 ok2 h2 xs rxs => Aft.ret ok2 h2 _ (.cons (p2.rep _ _ rx) rxs)) fun _ _ _ z => z⟩) fun _ _ _ z => z⟩
def mTup (mr : AM) (es : Sl) (st : Store) : R D := (mr es st).bind fun ds st1 => if ds.length ≤ sizeLine then .ok (.tup ds) st1 else .no
def mLst (mr : AM) (es : Sl) (st : Store) : R D := (mr es st).bind fun ds st1 => if ds.length ≤ sizeLine then .ok (.lst ds) st1 else .no
theorem zmadeT {K : PySem.W.Frag} {H : Hp} {μ : Mp} {cl : Str → Option Addr} {st : Store} {ds : List D} {vs : List V} {p : Addr} (ok : StOk K cl H μ st) (r : Reps K H μ ds vs) (hp : H p = none) :
    Step μ μ H (upd H p (.tup vs)) ∧ StOk K cl (upd H p (.tup vs)) μ st ∧ Rep K (upd H p (.tup vs)) μ (.tup ds) (.ref p) :=
  ⟨Step.alloc hp, ok.alloc hp, .tup (.inl ⟨.inl upd_same, ok.notin hp, ok.notav hp⟩) ((Step.alloc hp).reps _ _ r)⟩
theorem zmadeL {K : PySem.W.Frag} {H : Hp} {μ : Mp} {cl : Str → Option Addr} {st : Store} {ds : List D} {vs : List V} {p : Addr} (ok : StOk K cl H μ st) (r : Reps K H μ ds vs) (hp : H p = none) :
    Step μ μ H (upd H p (.lst vs)) ∧ StOk K cl (upd H p (.lst vs)) μ st ∧ Rep K (upd H p (.lst vs)) μ (.lst ds) (.ref p) :=
  ⟨Step.alloc hp, ok.alloc hp, .lst ⟨upd_same, ok.notin hp, ok.notav hp⟩ ((Step.alloc hp).reps _ _ r)⟩
theorem ztup {x1} (h : PA X es (lA X.K k mr)) : PE X (.Tuple es x1 pos) (lE X.K k (mTup mr)) :=
  PE.imp (pe_tup h) fun σ H Q ⟨μ, st, es, so, ok, h⟩ => ⟨μ, st, es, so, ok, Aft.mono (Aft.bind h) (fun ds st1 μ1 H1 p1 ok1 h1 xs rxs => by
    split at h1
    · rename_i hl
      refine ⟨by rw [← rxs.length]; exact hl, fun p hp => ?_⟩
      obtain ⟨a, b, c⟩ := zmadeT ok1 rxs hp
      exact h1 _ _ a b _ c
    · exact h1.elim) fun _ _ _ z => z⟩
theorem zlst (h : PA X es (lA X.K k mr)) : PE X (.List es pos) (lE X.K k (mLst mr)) :=
  PE.imp (pe_lst h) fun σ H Q ⟨μ, st, es, so, ok, h⟩ => ⟨μ, st, es, so, ok, Aft.mono (Aft.bind h) (fun ds st1 μ1 H1 p1 ok1 h1 xs rxs => by
    split at h1
    · rename_i hl
      refine ⟨by rw [← rxs.length]; exact hl, fun p hp => ?_⟩
      obtain ⟨a, b, c⟩ := zmadeL ok1 rxs hp
      exact h1 _ _ a b _ c
    · exact h1.elim) fun _ _ _ z => z⟩

/-! ### builtins -/
abbrev Fn := List D → Store → Option D
def rCZ (K : PySem.W.Frag) (cl : Str → Option Addr) (f : Fn) : List V → Hp → VK → Prop := fun xs H Q => ∃ μ st ds d, Reps K H μ ds xs ∧ StOk K cl H μ st ∧ f ds st = some d ∧ ∀ v H', Step μ μ H H' → StOk K cl H' μ st → Rep K H' μ d v → Q v H'
def mB (f : Fn) (mr : AM) (es : Sl) (st : Store) : R D := (mr es st).bind fun ds st1 => R.ofO (f ds st1) st1
theorem lB {f : Fn} {r : List V → Hp → VK → Prop} (hr : ∀ xs H Q, rCZ X.K k.cl f xs H Q → r xs H Q) {σ : L2.St} {H : Hp} {Q : VK} (h : lE X.K k (mB f mr) σ H Q) : tCB r (lA X.K k mr) σ H Q := by
  obtain ⟨μ, st, es, so, ok, h⟩ := h
  refine ⟨μ, st, es, so, ok, Aft.mono (Aft.bind h) (fun ds st1 μ1 H1 p1 ok1 h1 vs rv => ?_) fun _ _ _ z => z⟩
  obtain ⟨d, e, h⟩ := Aft.ofO h1
  exact hr _ _ _ ⟨μ1, st1, ds, d, rv, ok1, e, fun v H' p so r => h μ1 H' p so v r⟩
variable {x : Str} {p : Pos} {e : Expr} {id T : String} {f : Fn}
theorem zcallB (hc : CallR X (.builtin id) (rCZ X.K k.cl f)) (hg : Gl X x) (hm : X.mg x = none) (hv : bootBuiltins x = some (.builtin id)) (ha : PA X (e :: es) (lA X.K k mr)) (hn : x ≠ "__name__" := by decide) (hdb : (x == ("__debug__" : Str)) = false := by decide)
    (he : starEach (e :: es) X.env = (false, eval e X.env) :: starEach es X.env := by rfl) (hpl : (backTo pos (starEach es X.env)).any (·.1) = false := by rfl) :
    PE X (.Call (.Name x p) (e :: es) [] pos) (lE X.K k (mB f mr)) := PE.imp (pe_callB hc hg hm hv ha hn hdb he hpl) fun _ _ _ h => lB (fun _ _ _ z => z) h
theorem zcallTy (hc : CallR X (.type T) (rCZ X.K k.cl f)) (hg : Gl X x) (hm : X.mg x = none) (hv : bootBuiltins x = some (.type T)) (ha : PA X (e :: es) (lA X.K k mr)) (hn : x ≠ "__name__" := by decide) (hdb : (x == ("__debug__" : Str)) = false := by decide)
    (he : starEach (e :: es) X.env = (false, eval e X.env) :: starEach es X.env := by rfl) (hpl : (backTo pos (starEach es X.env)).any (·.1) = false := by rfl) :
    PE X (.Call (.Name x p) (e :: es) [] pos) (lE X.K k (mB f mr)) := PE.imp (pe_callTy hc hg hm hv ha hn hdb he hpl) fun _ _ _ h => lB (fun _ _ _ z => z) h
end
end Zv
namespace Zv
open PySem PySem.Spec L2

/-! ## statements -/
inductive Fl where
  | nx | bk | ct
  | rt (d : D)
inductive RS where
  | ok (f : Fl) (es : Sl) (st : Store)
  | ex (x : Exn) (es : Sl) (st : Store)
  | no
abbrev SM := Sl → Store → RS
def R.toS {α : Type} (r : R α) (es : Sl) (f : α → Store → RS) : RS := match r with
  | .ok a st => f a st
  | .ex x st => .ex x es st
  | .no => .no
@[simp] theorem R.toS_ok {α : Type} (a : α) (st : Store) (es : Sl) (f : α → Store → RS) : (R.ok a st).toS es f = f a st := rfl
@[simp] theorem R.toS_ex {α : Type} (x : Exn) (st : Store) (es : Sl) (f : α → Store → RS) : (R.ex x st : R α).toS es f = .ex x es st := rfl
@[simp] theorem R.toS_no {α : Type} (es : Sl) (f : α → Store → RS) : (R.no : R α).toS es f = .no := rfl

def AftS (K : PySem.W.Frag) (k : Pk) (D : Ends) (μ : Mp) (H : Hp) (r : RS) : Prop := match r with
  | .ok .nx es st => ∀ μ' H' σ, Step μ μ' H H' → StOk K k.cl H' μ' st → SlOk K H' μ' es σ → D.nx σ H'
  | .ok .bk es st => ∀ μ' H' σ, Step μ μ' H H' → StOk K k.cl H' μ' st → SlOk K H' μ' es σ → D.bk σ H'
  | .ok .ct es st => ∀ μ' H' σ, Step μ μ' H H' → StOk K k.cl H' μ' st → SlOk K H' μ' es σ → D.ct σ H'
  | .ok (.rt d) es st => ∀ μ' H' v, Step μ μ' H H' → StOk K k.cl H' μ' st → Rep K H' μ' d v → D.rt v H'
  | .ex x es st => ∀ μ' H' σ c od, Step μ μ' H H' → StOk K k.cl H' μ' st → SlOk K H' μ' es σ → ExOk K k.cl H' μ' x c od → k.W c od σ H'
  | .no => False
theorem AftS.step {K : PySem.W.Frag} {k : Pk} {D : Ends} {μ μ1 : Mp} {H H1 : Hp} {r : RS} (p : Step μ μ1 H H1) (h : AftS K k D μ H r) : AftS K k D μ1 H1 r := by
  cases r with
  | ok f es st =>
    cases f with
    | nx => exact fun μ' H' σ q => h μ' H' σ (p.trans q)
    | bk => exact fun μ' H' σ q => h μ' H' σ (p.trans q)
    | ct => exact fun μ' H' σ q => h μ' H' σ (p.trans q)
    | rt d => exact fun μ' H' v q => h μ' H' v (p.trans q)
  | ex x es st => exact fun μ' H' σ c od q => h μ' H' σ c od (p.trans q)
  | no => exact h
def lS (K : PySem.W.Frag) (k : Pk) (m : SM) : TS := fun D σ H => ∃ μ st es, SlOk K H μ es σ ∧ StOk K k.cl H μ st ∧ AftS K k D μ H (m es st)
/-- an expression at the head of a statement -/
theorem aftE {α : Type} {K : PySem.W.Frag} {k : Pk} {D : Ends} {μ : Mp} {H : Hp} {σ : L2.St} {es : Sl} {r : R α} {f : α → Store → RS} (so : SlOk K H μ es σ) (h : AftS K k D μ H (r.toS es f)) :
    Aft K k.cl μ H r (fun a st1 μ1 H1 => AftS K k D μ1 H1 (f a st1)) fun c od H' => k.W c od σ H' := by
  cases r with
  | ok a st => exact fun μ' H' p ok => AftS.step p h
  | ex x st => exact fun μ' H' c od p ok e => h μ' H' σ c od p ok (so.step p) e
  | no => exact h

def sNil (es : Sl) (st : Store) : RS := .ok .nx es st
def RS.seq (r : RS) (m : SM) : RS := match r with
  | .ok .nx es st => m es st
  | .ok .bk es st => .ok .bk es st
  | .ok .ct es st => .ok .ct es st
  | .ok (.rt d) es st => .ok (.rt d) es st
  | .ex x es st => .ex x es st
  | .no => .no
theorem RS.seq_congr {r r' : RS} {m : SM} (h : r = r') : r.seq m = r'.seq m := by rw [h]
theorem R.toS_congr {α : Type} {r r' : R α} {es : Sl} {f : α → Store → RS} (h : r = r') : r.toS es f = r'.toS es f := by rw [h]
theorem R.bind_congr {α β : Type} {r r' : R α} {f : α → Store → R β} (h : r = r') : r.bind f = r'.bind f := by rw [h]
@[simp] theorem RS.seq_nx (es : Sl) (st : Store) (m : SM) : (RS.ok .nx es st).seq m = m es st := rfl
@[simp] theorem RS.seq_bk (es : Sl) (st : Store) (m : SM) : (RS.ok .bk es st).seq m = .ok .bk es st := rfl
@[simp] theorem RS.seq_ct (es : Sl) (st : Store) (m : SM) : (RS.ok .ct es st).seq m = .ok .ct es st := rfl
@[simp] theorem RS.seq_rt (d : D) (es : Sl) (st : Store) (m : SM) : (RS.ok (.rt d) es st).seq m = .ok (.rt d) es st := rfl
@[simp] theorem RS.seq_ex (x : Exn) (es : Sl) (st : Store) (m : SM) : (RS.ex x es st).seq m = .ex x es st := rfl
@[simp] theorem RS.seq_no (m : SM) : RS.no.seq m = .no := rfl
def sSeq (m1 m2 : SM) (es : Sl) (st : Store) : RS := (m1 es st).seq m2
def sExpr (ma : EM) (es : Sl) (st : Store) : RS := (ma es st).toS es fun _ st1 => .ok .nx es st1
def sRet (ma : EM) (es : Sl) (st : Store) : RS := (ma es st).toS es fun d st1 => .ok (.rt d) es st1
def sRetN (es : Sl) (st : Store) : RS := .ok (.rt .non) es st
def sIf (t : TM) (m1 m2 : SM) (es : Sl) (st : Store) : RS := (t es st).toS es fun b st1 => if b then m1 es st1 else m2 es st1
def sBk (es : Sl) (st : Store) : RS := .ok .bk es st
def sCt (es : Sl) (st : Store) : RS := .ok .ct es st

section
variable {X : Cx} {k : Pk} {st : Stmt} {rest : List Stmt} {m m1 m2 : SM} {e a b c : Expr} {ma mb : EM} {ta : TM} {pos : Pos}
theorem zsnil : PSs X [] (lS X.K k sNil) := PSs.imp pss_nil fun D σ H ⟨μ, st, es, so, ok, h⟩ => h μ H σ (Step.refl _ _) ok so
theorem zscons (h1 : PS X st (lS X.K k m1)) (h2 : PSs X rest (lS X.K k m2)) : PSs X (st :: rest) (lS X.K k (sSeq m1 m2)) :=
  PSs.imp (pss_cons h1 h2) fun D σ H ⟨μ, st, es, so, ok, h⟩ => by
    refine ⟨μ, st, es, so, ok, ?_⟩
    unfold sSeq RS.seq at h
    generalize e : m1 es st = r at h
    cases r with
    | ok f es1 st1 =>
      cases f with
      | nx => exact fun μ' H' σ' p ok' so' => ⟨μ', st1, es1, so', ok', AftS.step p h⟩
      | bk => exact h
      | ct => exact h
      | rt d => exact h
    | ex x es1 st1 => exact h
    | no => exact h
theorem zsone (h1 : PS X st (lS X.K k m1)) : PSs X [st] (lS X.K k m1) := pss_one h1
theorem zsexpr (he : PE X e (lE X.K k ma)) (hs : swapsWith e none pos.line X.env = pure false := by rfl) : PS X (.Expr e pos) (lS X.K k (sExpr ma)) :=
  PS.imp (ps_expr he hs) fun D σ H ⟨μ, st, es, so, ok, h⟩ => ⟨μ, st, es, so, ok, Aft.mono (aftE so h) (fun d st1 μ1 H1 p1 ok1 h1 v rv => h1 μ1 H1 σ (Step.refl _ _) ok1 (so.step p1)) fun _ _ _ z => z⟩
theorem zsdoc {x j pos'} : PS X (.Expr (.Constant (.str x) j pos) pos') (lS X.K k sNil) := PS.imp ps_doc fun D σ H ⟨μ, st, es, so, ok, h⟩ => h μ H σ (Step.refl _ _) ok so
theorem zspass : PS X (.Pass pos) (lS X.K k sNil) := PS.imp ps_pass fun D σ H ⟨μ, st, es, so, ok, h⟩ => h μ H σ (Step.refl _ _) ok so
theorem zsbreak : PS X (.Break pos) (lS X.K k sBk) := PS.imp ps_break fun D σ H ⟨μ, st, es, so, ok, h⟩ => h μ H σ (Step.refl _ _) ok so
theorem zscont : PS X (.Continue pos) (lS X.K k sCt) := PS.imp ps_continue fun D σ H ⟨μ, st, es, so, ok, h⟩ => h μ H σ (Step.refl _ _) ok so
theorem zsret (he : PE X e (lE X.K k ma)) : PS X (.Return (some e) pos) (lS X.K k (sRet ma)) :=
  PS.imp (ps_ret he) fun D σ H ⟨μ, st, es, so, ok, h⟩ => ⟨μ, st, es, so, ok, Aft.mono (aftE so h) (fun d st1 μ1 H1 p1 ok1 h1 v rv => h1 μ1 H1 v (Step.refl _ _) ok1 rv) fun _ _ _ z => z⟩
theorem zsretN : PS X (.Return none pos) (lS X.K k sRetN) := PS.imp ps_retN fun D σ H ⟨μ, st, es, so, ok, h⟩ => h μ H _ (Step.refl _ _) ok .non
theorem zsif {sa sb : List Stmt} (hc : PT X c (lT X.K k ta)) (ha : PSs X sa (lS X.K k m1)) (hb : PSs X sb (lS X.K k m2)) : PS X (.If c sa sb pos) (lS X.K k (sIf ta m1 m2)) :=
  PS.imp (ps_if hc ha hb) fun D σ H ⟨μ, st, es, so, ok, h⟩ => ⟨μ, st, es, so, ok, Aft.mono (aftE so h) (fun b st1 μ1 H1 p1 ok1 h1 => by
    cases b with
    | true =>
      rw [if_pos rfl]
      exact ⟨μ1, st1, es, so.step p1, ok1, h1⟩
    | false =>
      rw [if_neg Bool.false_ne_true]
      exact ⟨μ1, st1, es, so.step p1, ok1, h1⟩) fun _ _ _ z => z⟩

/-! ### targets -/
inductive Tg where
  | nm (i : Nat)
  | tp (ts : List Tg)
mutual
def Tg.put : Tg → D → Sl → Option Sl
  | .nm i, d, es => some (es.set i (some d))
  | .tp ts, d, es => match d with
    | .tup ds => Tg.puts ts ds es
    | .lst ds => Tg.puts ts ds es
    | _ => none
def Tg.puts : List Tg → List D → Sl → Option Sl
  | [], [], es => some es
  | t :: ts, d :: ds, es => (t.put d es).bind fun es1 => Tg.puts ts ds es1
  | _, _, _ => none
end
mutual
def Tg.ix : Tg → List Nat
  | .nm i => [i]
  | .tp ts => Tg.ixs ts
def Tg.ixs : List Tg → List Nat
  | [] => []
  | t :: ts => t.ix ++ Tg.ixs ts
end
def lG (K : PySem.W.Frag) (cl : Str → Option Addr) (t : Tg) : TG := fun v σ H Q => ∃ μ st es d es', SlOk K H μ es σ ∧ StOk K cl H μ st ∧ Rep K H μ d v ∧ t.put d es = some es' ∧
  ∀ σ', SlOk K H μ es' σ' → (∀ vs, (∀ i ∈ t.ix, i ∈ vs) → wipe σ' vs = wipe σ vs) → Q σ' H
def lGs (K : PySem.W.Frag) (cl : Str → Option Addr) (ts : List Tg) : TGs := fun vs σ H Q => ∃ μ st es ds es', SlOk K H μ es σ ∧ StOk K cl H μ st ∧ Reps K H μ ds vs ∧ Tg.puts ts ds es = some es' ∧
  ∀ σ', SlOk K H μ es' σ' → (∀ vs, (∀ i ∈ Tg.ixs ts, i ∈ vs) → wipe σ' vs = wipe σ vs) → Q σ' H
theorem PGs.imp {X : Cx} {es : List Expr} {t t' : TGs} (h : PGs X es t) (i : ∀ v σ H Q, t' v σ H Q → t v σ H Q) : PGs X es t' := ⟨fun pins s σ H v u Q I r w => h.run pins s σ H v u Q I r (i v σ H Q w)⟩
theorem wipe_set {σ : L2.St} {i : Nat} {o : Option V} : ∀ {vs : List Nat}, i ∈ vs → wipe (σ.set i o) vs = wipe σ vs
  | [], h => nomatch h
  | v :: vs, h => by
    unfold wipe
    by_cases e : i = v
    · subst e
      have gen : ∀ (us : List Nat), (wipe (σ.set i o) us).set i none = (wipe σ us).set i none := by
        intro us
        induction us with
        | nil => unfold wipe; rw [List.set_set]
        | cons u us ih =>
          unfold wipe
          by_cases q : u = i
          · subst q; rw [List.set_set, List.set_set, ih]
          · rw [List.set_comm _ _ q, List.set_comm _ _ q, ih]
      exact gen vs
    · rw [wipe_set ((List.mem_cons.mp h).resolve_left e)]
theorem zgname (i : Nat) {x : Str} (hN : X.N.Nodup) (hi : X.N[i]? = some x := by rfl) (hx : Loc X.env.scope x := by first | exact Or.inl rfl | exact Or.inr rfl) (hf : X.fn x = true ∨ X.env.scope.names.lookup x = some .local := by first | exact .inl rfl | exact .inr rfl | assumption) {cl : Str → Option Addr} :
    PG X (.Name x pos) (lG X.K cl (.nm i)) :=
  PG.imp (pg_name hN hi hx hf) fun v σ H Q ⟨μ, st, es, d, es', so, ok, r, e, h⟩ => by
    have e' : some (es.set i (some d)) = some es' := e
    cases e'
    exact h _ (so.set r i) fun vs hv => wipe_set (hv i List.mem_cons_self)
theorem zgnil {cl : Str → Option Addr} : PGs X [] (lGs X.K cl []) :=
  PGs.imp pgs_nil fun v σ H Q ⟨μ, st, es, ds, es', so, ok, r, e, h⟩ => by
    cases r with
    | nil =>
      have e' : some es = some es' := e
      cases e'
      exact ⟨rfl, h _ so fun _ _ => rfl⟩
    | cons _ _ => cases e
theorem zgcons {e : Expr} {es : List Expr} {cl : Str → Option Addr} {t : Tg} {ts : List Tg} (h1 : PG X e (lG X.K cl t)) (h2 : PGs X es (lGs X.K cl ts))
    (hs : (assignEach (e :: es) X.env).map (·.2) = assign e X.env :: (assignEach es X.env).map (·.2) := by rfl) : PGs X (e :: es) (lGs X.K cl (t :: ts)) :=
  PGs.imp (pgs_cons h1 h2 hs) fun v σ H Q ⟨μ, st, es, ds, es', so, ok, r, e, h⟩ => by
    cases r with
    | nil => cases e
    | @cons d v ds vs rd rs =>
      have e' : (t.put d es).bind (fun es1 => Tg.puts ts ds es1) = some es' := e
      obtain ⟨es1, e1, e2⟩ := Option.bind_eq_some_iff.mp e'
      refine ⟨v, vs, rfl, μ, st, es, d, es1, so, ok, rd, e1, fun σ1 so1 w1 => ?_⟩
      refine ⟨μ, st, es1, ds, es', so1, ok, rs, e2, fun σ2 so2 w2 => h σ2 so2 fun us hu => ?_⟩
      rw [w2 us fun i hi => hu i (List.mem_append_right _ hi), w1 us fun i hi => hu i (List.mem_append_left _ hi)]
end
end Zv
namespace Zv
open PySem PySem.Spec L2

theorem puts_len : ∀ {ts : List Tg} {ds : List D} {es es' : Sl}, Tg.puts ts ds es = some es' → ts.length = ds.length
  | [], [], _, _, _ => rfl
  | t :: ts, d :: ds, es, es', h => by
    have e' : (t.put d es).bind (fun es1 => Tg.puts ts ds es1) = some es' := h
    obtain ⟨es1, e1, e2⟩ := Option.bind_eq_some_iff.mp e'
    rw [List.length_cons, List.length_cons, puts_len e2]
  | [], _ :: _, _, _, h => nomatch h
  | _ :: _, [], _, _, h => nomatch h
section
variable {X : Cx} {k : Pk} {pos : Pos}
theorem PG.or {tg : Expr} {t t' : TG} (h : PG X tg t) (h' : PG X tg t') : PG X tg (fun v σ H Q => t v σ H Q ∨ t' v σ H Q) :=
  ⟨fun pins s σ H v u Q I r w => w.elim (h.run pins s σ H v u Q I r) (h'.run pins s σ H v u Q I r)⟩
theorem zgtup {es : List Expr} {kk : Nat} {cl : Str → Option Addr} {ts : List Tg} (hc : X.calm = true) (h : PGs X es (lGs X.K cl ts))
    (hn : (assignEach es X.env).length = ts.length := by rfl) (hst : (assignEach es X.env).findIdx? (·.1) = none := by rfl) : PG X (.Tuple es kk pos) (lG X.K cl (.tp ts)) :=
  PG.imp (PG.or (pg_tup hc h hn hst) (pg_unl hc h hn hst)) fun v σ H Q ⟨μ, st, es, d, es', so, ok, r, e, h⟩ => by
    cases d with
    | tup ds =>
      cases r with
      | tup r1 r2 =>
        have e' : Tg.puts ts ds es = some es' := e
        exact .inl ⟨_, _, rfl, r1.sq, by rw [← r2.length, puts_len e'], μ, st, es, ds, es', so, ok, r2, e', h⟩
    | lst ds =>
      cases r with
      | lst r1 r2 =>
        have e' : Tg.puts ts ds es = some es' := e
        exact .inr ⟨_, _, rfl, r1.sq, by rw [← r2.length, puts_len e'], μ, st, es, ds, es', so, ok, r2, e', h⟩
    | _ => cases e

/-! ### assignments -/
def sAsg (t : Tg) (ma : EM) (es : Sl) (st : Store) : RS := (ma es st).toS es fun d st1 => match t.put d es with
  | some es1 => .ok .nx es1 st1
  | none => .no
variable {e : Expr} {ma mb mc : EM}
theorem lAsg {t : Tg} {D : Ends} {σ : L2.St} {H : Hp} (h : lS X.K k (sAsg t ma) D σ H) : tAsg (lE X.K k ma) (lG X.K k.cl t) D σ H := by
  obtain ⟨μ, st, es, so, ok, h⟩ := h
  refine ⟨μ, st, es, so, ok, Aft.mono (aftE so h) (fun d st1 μ1 H1 p1 ok1 h1 v rv => ?_) fun _ _ _ z => z⟩
  split at h1
  · rename_i es1 e1
    exact ⟨μ1, st1, es, d, es1, so.step p1, ok1, rv, e1, fun σ' so' _ => h1 μ1 H1 σ' (Step.refl _ _) ok1 so'⟩
  · exact h1.elim
theorem zsasg {tg : Expr} {t : Tg} (he : PE X e (lE X.K k ma)) (hg : PG X tg (lG X.K k.cl t)) (hs : swapsWithSole [tg] e pos.line X.env = pure false := by rfl) (hw : swappedStores [tg] e X.env = pure none := by rfl)
    (h1 : (assignEach [tg] X.env).map (·.2) = [assign tg X.env] := by rfl) : PS X (.Assign [tg] e pos) (lS X.K k (sAsg t ma)) := PS.imp (ps_asg he hg hs hw h1) fun _ _ _ h => lAsg h
/-- a = b = e -/
theorem gName_lG {i : Nat} {v : V} {σ : L2.St} {H : Hp} {Q : L2.St → Hp → Prop} {cl : Str → Option Addr} (h : lG X.K cl (.nm i) v σ H Q) : gName i v σ H Q := by
  obtain ⟨μ, st, es, d, es', so, ok, r, e, h⟩ := h
  have e' : some (es.set i (some d)) = some es' := e
  cases e'
  exact h _ (so.set r i) fun vs hv => wipe_set (hv i List.mem_cons_self)
theorem zset (i : Nat) {x : Str} {pos' : Pos} (hN : X.N.Nodup) (he : PE X e (lE X.K k ma)) (hi : X.N[i]? = some x := by rfl) (hx : Loc X.env.scope x := by first | exact Or.inl rfl | exact Or.inr rfl) (hs : swapsWith e (some (.Name x pos')) pos.line X.env = pure false := by rfl)
    (hf : X.fn x = true ∨ X.env.scope.names.lookup x = some .local := by first | exact .inl rfl | exact .inr rfl | assumption) : PS X (.Assign [.Name x pos'] e pos) (lS X.K k (sAsg (.nm i) ma)) :=
  PS.imp (ps_set hN hi hx he hs hf) fun D σ H h => by
    obtain ⟨μ, st, es, so, ok, h⟩ := lAsg h
    exact ⟨μ, st, es, so, ok, Aft.mono h (fun _ _ _ _ _ _ h v rv => gName_lG (h v rv)) fun _ _ _ z => z⟩
/-- a, b = x, y -/
def sPar (i j : Nat) (ma mb : EM) (es : Sl) (st : Store) : RS := (ma es st).toS es fun d st1 => (mb es st1).toS es fun d' st2 => .ok .nx ((es.set i (some d)).set j (some d')) st2

/-! ### a new list that a name holds: a cell -/
/-- a list that has just been made: at any new place -/
def lF (K : PySem.W.Frag) (k : Pk) (m : EM) : TE := fun σ H Q => ∃ μ st es, SlOk K H μ es σ ∧ StOk K k.cl H μ st ∧ Aft K k.cl μ H (m es st) (fun d _ μ' H' => ∃ ds, d = .lst ds ∧ ∀ p vs, H' p = none → Reps K H' μ' ds vs → Q (.ref p) (upd H' p (.lst vs))) fun c od H' => k.W c od σ H'
def sBox (i : Nat) (ma : EM) (es : Sl) (st : Store) : RS := (ma es st).toS es fun d st1 => match d with
  | .lst ds => .ok .nx (es.set i (some (.ref st1.length))) (st1 ++ [.lst ds])
  | _ => .no
theorem StOk.push {K : PySem.W.Frag} {cl : Str → Option Addr} {H : Hp} {μ : Mp} {st : Store} {ds : List D} {vs : List V} {p : Addr} (ok : StOk K cl H μ st) (r : Reps K H μ ds vs) (hp : H p = none) :
    Step μ ⟨μ.cs ++ [p], μ.av⟩ H (upd H p (.lst vs)) ∧ StOk K cl (upd H p (.lst vs)) ⟨μ.cs ++ [p], μ.av⟩ (st ++ [.lst ds]) ∧ Rep K (upd H p (.lst vs)) ⟨μ.cs ++ [p], μ.av⟩ (.ref st.length) (.ref p) := by
  have hn := ok.notin hp
  have s0 : Step μ ⟨μ.cs ++ [p], μ.av⟩ H (upd H p (.lst vs)) := ⟨⟨[p], rfl, fun a ha => by rw [List.mem_singleton.mp ha]; exact hp⟩, (Step.alloc (μ := μ) hp).fr, (Step.alloc (μ := μ) hp).dom⟩
  refine ⟨s0, ⟨by show (μ.cs ++ [p]).length = _; rw [List.length_append, List.length_append, ok.len]; rfl, ?_, fun n c e => ?_, fun a ha z => ok.av a ha (s0.dom a z)⟩, .ref ?_⟩
  · refine List.nodup_append.mpr ⟨ok.nd, List.nodup_cons.mpr ⟨List.not_mem_nil, List.nodup_nil⟩, fun a ha b hb => ?_⟩
    rw [List.mem_singleton.mp hb]
    rintro rfl
    exact hn ha
  · by_cases hl : n < st.length
    · rw [List.getElem?_append_left hl] at e
      obtain ⟨a, e1, c1⟩ := ok.cell n c e
      refine ⟨a, s0.get e1, ?_⟩
      have hne : a ≠ p := fun z => hn (z ▸ List.mem_of_getElem? e1)
      cases c with
      | lst xs =>
        obtain ⟨us, e2, r2⟩ := c1
        exact ⟨us, by rw [upd_ne hne]; exact e2, s0.reps _ _ r2⟩
      | obj nm fs =>
        obtain ⟨C, dx, gs, q, e2, r2⟩ := c1
        exact ⟨C, dx, gs, q, by rw [upd_ne hne]; exact e2, r2.1, s0.reps _ _ r2.2⟩
    · have e0 : n = st.length := by
        have := (List.getElem?_eq_some_iff.mp e).1
        rw [List.length_append, List.length_singleton] at this
        omega
      subst e0
      rw [List.getElem?_append_right (Nat.le_refl _), Nat.sub_self] at e
      have e' : some (Cell.lst ds) = some c := e
      cases e'
      refine ⟨p, ?_, vs, upd_same, s0.reps _ _ r⟩
      show (μ.cs ++ [p])[st.length]? = some p
      rw [← ok.len, List.getElem?_append_right (Nat.le_refl _), Nat.sub_self]
      rfl
  · show (μ.cs ++ [p])[st.length]? = some p
    rw [← ok.len, List.getElem?_append_right (Nat.le_refl _), Nat.sub_self]
    rfl
theorem zbox (i : Nat) {x : Str} {pos' : Pos} (hN : X.N.Nodup) (he : PE X e (lF X.K k ma)) (hi : X.N[i]? = some x := by rfl) (hx : Loc X.env.scope x := by first | exact Or.inl rfl | exact Or.inr rfl) (hs : swapsWith e (some (.Name x pos')) pos.line X.env = pure false := by rfl)
    (hf : X.fn x = true ∨ X.env.scope.names.lookup x = some .local := by first | exact .inl rfl | exact .inr rfl | assumption) : PS X (.Assign [.Name x pos'] e pos) (lS X.K k (sBox i ma)) :=
  PS.imp (ps_set hN hi hx he hs hf) fun D σ H h => by
    obtain ⟨μ, st, es, so, ok, h⟩ := h
    refine ⟨μ, st, es, so, ok, Aft.mono (aftE so h) (fun d st1 μ1 H1 p1 ok1 h1 => ?_) fun _ _ _ z => z⟩
    cases d with
    | lst ds =>
      refine ⟨ds, rfl, fun p vs hp rv => ?_⟩
      obtain ⟨a, b, c⟩ := ok1.push rv hp
      exact h1 _ _ _ a b (((so.step p1).step a).set c i)
    | _ => exact h1.elim
variable {es : List Expr} {mr : AM}
theorem zlstF (h : PA X es (lA X.K k mr)) : PE X (.List es pos) (lF X.K k (mLst mr)) :=
  PE.imp (pe_lst h) fun σ H Q ⟨μ, st, es, so, ok, h⟩ => ⟨μ, st, es, so, ok, Aft.mono (Aft.bind h) (fun ds st1 μ1 H1 p1 ok1 h1 xs rxs => by
    split at h1
    · rename_i hl
      refine ⟨by rw [← rxs.length]; exact hl, fun p hp => ?_⟩
      obtain ⟨ds', e, q⟩ := Aft.ret ok1 h1
      cases e
      exact q p xs hp rxs
    · exact h1.elim) fun _ _ _ z => z⟩

/-! ### writing a cell -/
theorem StOk.write {K : PySem.W.Frag} {cl : Str → Option Addr} {H : Hp} {μ : Mp} {st : Store} {n : Nat} {a : Addr} {ds : List D} {vs : List V} (ok : StOk K cl H μ st) (ha : μ.cs[n]? = some a) (r : Reps K H μ ds vs) :
    Step μ μ H (upd H a (.lst vs)) ∧ StOk K cl (upd H a (.lst vs)) μ (st.set n (.lst ds)) := by
  have ham : a ∈ μ.cs := List.mem_of_getElem? ha
  have s0 : Step μ μ H (upd H a (.lst vs)) := ⟨⟨[], by simp, fun _ z => nomatch z⟩, fun b o e hb => by rw [upd_ne (show b ≠ a from fun z => hb (by rw [z]; exact ham))]; exact e, fun b e => by
    by_cases q : b = a
    · subst q; rw [upd_same] at e; cases e
    · rw [upd_ne q] at e; exact e⟩
  refine ⟨s0, by rw [List.length_set]; exact ok.len, ok.nd, fun m c e => ?_, fun b hb z => ok.av b hb (s0.dom b z)⟩
  by_cases hm : m = n
  · subst hm
    have hl : m < st.length := by rw [← ok.len]; exact (List.getElem?_eq_some_iff.mp ha).1
    rw [List.getElem?_set_self hl] at e
    cases e
    exact ⟨a, ha, vs, upd_same, s0.reps _ _ r⟩
  · rw [List.getElem?_set_ne (Ne.symm hm)] at e
    obtain ⟨b, e1, c1⟩ := ok.cell m c e
    have hne : b ≠ a := fun z => hm (by
      subst z
      exact (List.getElem?_inj (List.getElem?_eq_some_iff.mp e1).1 ok.nd).mp (e1.trans ha.symm))
    refine ⟨b, e1, ?_⟩
    cases c with
    | lst xs =>
      obtain ⟨us, e2, r2⟩ := c1
      exact ⟨us, by rw [upd_ne hne]; exact e2, s0.reps _ _ r2⟩
    | obj nm fs =>
      obtain ⟨C, dx, gs, q, e2, r2⟩ := c1
      exact ⟨C, dx, gs, q, by rw [upd_ne hne]; exact e2, r2.1, s0.reps _ _ r2.2⟩
/-- xs.append(e), a statement -/
def sApp (mo me : EM) (es : Sl) (st : Store) : RS := (mo es st).toS es fun o st1 => match o with
  | .ref n => match st1[n]? with
    | some (.lst _) => (me es st1).toS es fun d st2 => match st2[n]? with
      | some (.lst ds) => if ds.length < sizeLine then .ok .nx es (st2.set n (.lst (ds ++ [d]))) else .no
      | _ => .no
    | _ => .no
  | _ => .no
/-- two expressions at the head of a statement -/
theorem aftE2 {α β : Type} {K : PySem.W.Frag} {D : Ends} {μ : Mp} {H : Hp} {σ : L2.St} {es : Sl} {r : R α} {f : α → Store → RS} (so : SlOk K H μ es σ) (h : AftS K k D μ H (r.toS es f)) :
    Aft K k.cl μ H r (fun a st1 μ1 H1 => SlOk K H1 μ1 es σ ∧ AftS K k D μ1 H1 (f a st1)) fun c od H' => k.W c od σ H' :=
  Aft.mono (aftE so h) (fun a st1 μ1 H1 p1 ok1 h1 => ⟨so.step p1, h1⟩) fun _ _ _ z => z
theorem cellAt {K : PySem.W.Frag} {cl : Str → Option Addr} {H : Hp} {μ : Mp} {st : Store} {n : Nat} {ds : List D} {v : V} (ok : StOk K cl H μ st) (r : Rep K H μ (.ref n) v) (e : st[n]? = some (.lst ds)) :
    ∃ a vs, v = .ref a ∧ μ.cs[n]? = some a ∧ H a = some (.lst vs) ∧ Reps K H μ ds vs := by
  cases r with
  | ref h1 =>
    obtain ⟨a, e1, vs, e2, r2⟩ := ok.cell n _ e
    rw [h1] at e1
    cases e1
    exact ⟨_, vs, rfl, h1, e2, r2⟩
theorem zsapp {o e : Expr} {mo me : EM} {apos cpos : Pos} (ho : PE X o (lE X.K k mo)) (he : PE X e (lE X.K k me)) (hs : swapsWith (.Call (.Attribute o "append" apos) [e] [] cpos) none pos.line X.env = pure false := by rfl)
    (hbase : attributeBase o "append" X.env (eval o X.env) = eval o X.env := by rfl)
    (hfew : ((backTo cpos (starEach [e] X.env)).all (fun x => !x.1) && (backToKw cpos (keywordEach [] X.env)).all (fun x => x.1.isSome)
      && decide (([e] : List Expr).length + ([] : List Keyword).length + (if ([] : List Keyword).isEmpty then 0 else 1) < 30)) = true := by rfl)
    (hline : (apos.endLine == cpos.line) = true := by rfl) (hst : starEach [e] X.env = (false, eval e X.env) :: starEach [] X.env := by rfl) (hplain : (backTo cpos (starEach [] X.env)).any (·.1) = false := by rfl) :
    PS X (.Expr (.Call (.Attribute o "append" apos) [e] [] cpos) pos) (lS X.K k (sApp mo me)) :=
  PS.imp (ps_expr (pe_bm PySem.F.plainAttrs_list PySem.F.slot_list_append PySem.F.type_list_append mt_append ho (pa_cons he pa_nil hst) hbase hfew hline hst hplain) hs) fun D σ H ⟨μ, st, es, so, ok, h⟩ => by
    refine ⟨μ, st, es, so, ok, Aft.mono (aftE so h) (fun o st1 μ1 H1 p1 ok1 h1 x rx => ?_) fun _ _ _ z => z⟩
    cases o with
    | ref n =>
      simp only at h1
      split at h1
      · rename_i ds0 e0
        obtain ⟨a, vs0, rfl, ea, eh, _⟩ := cellAt ok1 rx e0
        have so1 := so.step p1
        refine ⟨.inl ⟨rfl, _, .inl (.inl eh)⟩, μ1, st1, es, so1, ok1, Aft.mono (aftE so1 h1) (fun d st2 μ2 H2 p2 ok2 h2 y ry => ?_) fun _ _ _ z => z⟩
        split at h2
        · rename_i ds e2
          obtain ⟨a', vs, e3, ea', eh', rs⟩ := cellAt ok2 (p2.rep _ _ rx) e2
          cases e3
          split at h2
          · rename_i hl
            obtain ⟨s3, ok3⟩ := ok2.write ea' (rs.append (.cons ry .nil))
            exact ⟨a, vs, y, rfl, rfl, eh', by rw [← rs.length]; exact hl, h2 _ _ _ s3 ok3 ((so1.step p2).step s3)⟩
          · exact h2.elim
        · exact h2.elim
      · exact h1.elim
    | _ => exact h1.elim
/-- o[i] = e, o a list -/
def sSetI (me mo mi : EM) (es : Sl) (st : Store) : RS := (me es st).toS es fun d st1 => (mo es st1).toS es fun o st2 => (mi es st2).toS es fun i st3 => match o, i with
  | .ref n, .int z => match st3[n]? with
    | some (.lst ds) => match ixN ds.length z with
      | some j => .ok .nx es (st3.set n (.lst (ds.set j d)))
      | none => .no
    | _ => .no
  | _, _ => .no
theorem zsseti {o i e : Expr} {me mo mi : EM} {ps : Pos} (he : PE X e (lE X.K k me)) (ho : PE X o (lE X.K k mo)) (hi : PE X i (lE X.K k mi)) (hs : swapsWithSole [.Subscript o i ps] e pos.line X.env = pure false := by rfl) (hw : swappedStores [.Subscript o i ps] e X.env = pure none := by rfl)
    (h1 : (assignEach [.Subscript o i ps] X.env).map (·.2) = [assign (.Subscript o i ps) X.env] := by rfl)
    (hz : ∀ v : Value, assign (.Subscript o i ps) X.env v = (do let ov ← holding [v] (eval o X.env); let iv ← holding [v, ov] (eval i X.env); standAt ps; holding [v, ov, iv] (setItem ov iv v); release [v, ov, iv] []) := by intro _; rfl) : PS X (.Assign [.Subscript o i ps] e pos) (lS X.K k (sSetI me mo mi)) :=
  PS.imp (ps_asg he (pg_sub ho hi set_list hz) hs hw h1) fun D σ H ⟨μ, st, es, so, ok, h⟩ => by
    refine ⟨μ, st, es, so, ok, Aft.mono (aftE so h) (fun d st1 μ1 H1 p1 ok1 h1 x rx => ?_) fun _ _ _ z => z⟩
    have so1 := so.step p1
    refine ⟨μ1, st1, es, so1, ok1, Aft.mono (aftE so1 h1) (fun o st2 μ2 H2 p2 ok2 h2 y ry => ?_) fun _ _ _ z => z⟩
    have so2 := so1.step p2
    refine ⟨μ2, st2, es, so2, ok2, Aft.mono (aftE so2 h2) (fun i st3 μ3 H3 p3 ok3 h3 u ru => ?_) fun _ _ _ z => z⟩
    split at h3
    · rename_i n z
      cases ru
      split at h3
      · rename_i ds e0
        split at h3
        · rename_i j ej
          obtain ⟨a, vs, e3, ea, eh, rs⟩ := cellAt ok3 (p3.rep _ _ ry) e0
          have e3' : y = V.ref a := e3
          subst e3'
          obtain ⟨s4, ok4⟩ := ok3.write ea (Reps.set (p3.rep _ _ (p2.rep _ _ rx)) j rs)
          exact ⟨a, vs, z, j, rfl, rfl, eh, by rw [← rs.length]; exact ej, h3 _ _ _ s4 ok4 ((so2.step p3).step s4)⟩
        · exact h3.elim
      · exact h3.elim
    · exact h3.elim

/-! ### name op= e -/
def ipZ (K : PySem.W.Frag) (cl : Str → Option Addr) (f : F2) : TIp := rZ K cl f
def sAug (i : Nat) (f : F2) (me : EM) (es : Sl) (st : Store) : RS := match es[i]? with
  | some (some x) => (me es st).toS es fun y st1 => match f st1 x y with
    | some z => .ok .nx (es.set i (some z)) st1
    | none => .no
  | _ => .no
theorem PIp.imp {op : Operator} {t t' : TIp} (h : PIp X op t) (i : ∀ x y H Q, t' x y H Q → t x y H Q) : PIp X op t' := fun pins s σ H x y v u Q I rx ry w => h pins s σ H x y v u Q I rx ry (i x y H Q w)
theorem zsaug (i : Nat) {x : Str} {e : Expr} {me : EM} {op : Operator} {pos' : Pos} {f : F2} (hN : X.N.Nodup) (ho : PIp X op (ipZ X.K k.cl f)) (he : PE X e (lE X.K k me)) (hi : X.N[i]? = some x := by rfl) (hx : Loc X.env.scope x := by first | exact Or.inl rfl | exact Or.inr rfl)
    (hf : X.fn x = true ∨ X.env.scope.names.lookup x = some .local := by first | exact .inl rfl | exact .inr rfl | assumption) : PS X (.AugAssign (.Name x pos') op e pos) (lS X.K k (sAug i f me)) :=
  PS.imp (ps_aug hN hi hx he ho hf) fun D σ H ⟨μ, st, es, so, ok, h⟩ => by
    unfold sAug at h
    split at h
    · rename_i d e0
      obtain ⟨v, e1, rv⟩ := so.get e0
      refine ⟨v, e1, μ, st, es, so, ok, Aft.mono (aftE so h) (fun y st1 μ1 H1 p1 ok1 h1 u ru => ?_) fun _ _ _ z => z⟩
      split at h1
      · rename_i z ez
        exact ⟨μ1, st1, d, y, z, p1.rep _ _ rv, ru, ok1, ez, fun w H' p ok' rw' => h1 _ _ _ p ok' (((so.step p1).step p).set rw' i)⟩
      · exact h1.elim
    · exact h.elim
end
end Zv
namespace Zv
open PySem PySem.Spec L2

/-! ## what is walked -/
def Held : List (Nat × List D) → Store → Prop
  | [], _ => True
  | p :: l, st => st[p.1]? = some (.lst p.2) ∧ Held l st
abbrev Its := List D × List (Nat × List D)
abbrev IM := Sl → Store → R Its
structure Goes (K : PySem.W.Frag) (cl : Str → Option Addr) (μ0 : Mp) (H0 : Hp) (J : It) (ds : List D) (P : Store → Prop) : Prop where
  go : ∀ (μ : Mp) (H : Hp) (st : Store) (i : Nat) (d : D), StepA μ0 μ H0 H → StOk K cl H μ st → P st → ds[i]? = some d → J.go i H ∧ ∀ x H', J.yld i H x H' → Step μ μ H H' ∧ StOk K cl H' μ st ∧ Rep K H' μ d x
  stop : ∀ (μ : Mp) (H : Hp) (st : Store), StepA μ0 μ H0 H → StOk K cl H μ st → P st → J.stop ds.length H
def lI (K : PySem.W.Frag) (k : Pk) (m : IM) : TI := fun σ H Rr => ∃ μ st es, SlOk K H μ es σ ∧ StOk K k.cl H μ st ∧ Aft K k.cl μ H (m es st) (fun p _ μ' H' => ∀ J, Goes K k.cl μ' H' J p.1 (Held p.2) → Rr J H') fun c od H' => k.W c od σ H'
theorem PI.imp {X : Cx} {tg e : Expr} {t t' : TI} (h : PI X tg e t) (i : ∀ σ H Q, t' σ H Q → t σ H Q) : PI X tg e t' := ⟨fun pins s σ H Q I w => h.run pins s σ H Q I (i σ H Q w)⟩

open Classical in
noncomputable def forL (t : Tg) (body : SM) (P : Store → Prop) : List D → SM
  | [], es, st => if P st then .ok .nx es st else .no
  | d :: ds, es, st => if P st then match t.put d es with
      | none => .no
      | some es1 => match body es1 st with
        | .ok .nx es2 st2 => forL t body P ds es2 st2
        | .ok .ct es2 st2 => forL t body P ds es2 st2
        | .ok .bk es2 st2 => .ok .nx es2 st2
        | .ok (.rt d) es2 st2 => .ok (.rt d) es2 st2
        | .ex x es2 st2 => .ex x es2 st2
        | .no => .no
    else .no
noncomputable def sFor (mi : IM) (t : Tg) (body : SM) (es : Sl) (st : Store) : RS := (mi es st).toS es fun p st1 => forL t body (Held p.2) p.1 es st1

section
variable {X : Cx} {k : Pk} {pos : Pos}
theorem zsfor {tg iter : Expr} {body : List Stmt} {mi : IM} {t : Tg} {mb : SM} (hp : PassesOwn (model X.prog X.w) X.A X.env X.xe) (hc : X.calm = true) (hi : PI X tg iter (lI X.K k mi)) (hg : PG X tg (lG X.K k.cl t)) (hb : PSs X body (lS X.K k mb))
    (hs : ∀ x, foldedSetIterable iter X.env x = pure x := by intro _; rfl) : PS X (.For tg iter body [] pos) (lS X.K k (sFor mi t mb)) :=
  PS.imp (ps_for hp hc hi hg hb hs) fun D σ H ⟨μ, st, es, so, ok, h⟩ => by
    refine ⟨μ, st, es, so, ok, Aft.mono (aftE so h) (fun p st1 μ1 H1 p1 ok1 h1 J gJ => ?_) fun _ _ _ z => z⟩
    refine ⟨fun i m σ' H' => ∃ μ' st' es', i ≤ p.1.length ∧ m = p.1.length - i ∧ Step μ1 μ' H1 H' ∧ SlOk X.K H' μ' es' σ' ∧ StOk X.K k.cl H' μ' st' ∧ AftS X.K k D μ' H' (forL t mb (Held p.2) (p.1.drop i) es' st'),
      ⟨p.1.length, μ1, st1, es, Nat.zero_le _, rfl, Step.refl _ _, so.step p1, ok1, h1⟩, ?_⟩
    rintro i m σ2 H2 ⟨μ2, st2, es2, hi, rfl, q2, so2, ok2, h2⟩
    by_cases hl : i < p.1.length
    · rw [List.drop_eq_getElem_cons hl] at h2
      unfold forL at h2
      split at h2
      · rename_i hP
        obtain ⟨g1, g2⟩ := gJ.go μ2 H2 st2 i p.1[i] q2.toA ok2 hP (List.getElem?_eq_getElem hl)
        refine .inr ⟨g1, fun σ' H' => ∃ μ' st' es', Step μ1 μ' H1 H' ∧ SlOk X.K H' μ' es' σ' ∧ StOk X.K k.cl H' μ' st' ∧ AftS X.K k D μ' H' (forL t mb (Held p.2) (p.1.drop (i + 1)) es' st'), ?_, fun x H3 y => ?_⟩
        · rintro σ' H' ⟨μ', st', es', a, b, c, d⟩
          exact ⟨p.1.length - (i + 1), by omega, μ', st', es', hl, rfl, a, b, c, d⟩
        · obtain ⟨p3, ok3, r3⟩ := g2 x H3 y
          split at h2
          · exact h2.elim
          · rename_i es3 e3
            refine ⟨μ2, st2, es2, p.1[i], es3, so2.step p3, ok3, r3, e3, fun σ3 so3 _ => ⟨μ2, st2, es3, so3, ok3, ?_⟩⟩
            have q3 := q2.trans p3
            generalize hr : mb es3 st2 = r at h2
            cases r with
            | ok f es4 st4 =>
              cases f with
              | nx => exact fun μ' H' σ' p4 ok4 so4 => ⟨μ', st4, es4, q3.trans p4, so4, ok4, AftS.step (p3.trans p4) h2⟩
              | ct => exact fun μ' H' σ' p4 ok4 so4 => ⟨μ', st4, es4, q3.trans p4, so4, ok4, AftS.step (p3.trans p4) h2⟩
              | bk => exact fun μ' H' σ' p4 ok4 so4 => h2 μ' H' σ' (p3.trans p4) ok4 so4
              | rt d => exact fun μ' H' v p4 ok4 rv => h2 μ' H' v (p3.trans p4) ok4 rv
            | ex x es4 st4 => exact fun μ' H' σ' c od p4 ok4 so4 xo => h2 μ' H' σ' c od (p3.trans p4) ok4 so4 xo
            | no => exact h2.elim
      · exact h2.elim
    · have e : i = p.1.length := by omega
      subst e
      rw [List.drop_length] at h2
      unfold forL at h2
      split at h2
      · rename_i hP
        exact .inl ⟨gJ.stop μ2 H2 st2 q2.toA ok2 hP, h2 μ2 H2 σ2 (Step.refl _ _) ok2 so2⟩
      · exact h2.elim

/-! ### while -/
def whL (c : TM) (body : SM) : Nat → SM
  | 0, _, _ => .no
  | n + 1, es, st => (c es st).toS es fun b st1 => if b then match body es st1 with
      | .ok .nx es2 st2 => whL c body n es2 st2
      | .ok .ct es2 st2 => whL c body n es2 st2
      | .ok .bk es2 st2 => .ok .nx es2 st2
      | .ok (.rt d) es2 st2 => .ok (.rt d) es2 st2
      | .ex x es2 st2 => .ex x es2 st2
      | .no => .no
    else .ok .nx es st1
theorem zswhile (n : Nat) {c : Expr} {body : List Stmt} {tc : TM} {mb : SM} (hp : PassesOwn (model X.prog X.w) X.A X.env X.xe) (hc : PT X c (lT X.K k tc)) (hb : PSs X body (lS X.K k mb)) : PS X (.While c body [] pos) (lS X.K k (whL tc mb n)) :=
  PS.imp (ps_while hp hc hb) fun D σ H h => by
    obtain ⟨μ, st, es, so, ok, h⟩ := h
    refine ⟨fun m σ' H' => ∃ μ' st' es', SlOk X.K H' μ' es' σ' ∧ StOk X.K k.cl H' μ' st' ∧ AftS X.K k D μ' H' (whL tc mb m es' st'), ⟨n, μ, st, es, so, ok, h⟩, ?_⟩
    rintro m σ1 H1 ⟨μ1, st1, es1, so1, ok1, h1⟩
    cases m with
    | zero => exact h1.elim
    | succ m =>
      refine ⟨μ1, st1, es1, so1, ok1, Aft.mono (aftE so1 h1) (fun b st2 μ2 H2 p2 ok2 h2 => ?_) fun _ _ _ z => z⟩
      cases b with
      | false =>
        rw [if_neg Bool.false_ne_true]
        exact h2 μ2 H2 σ1 (Step.refl _ _) ok2 (so1.step p2)
      | true =>
        rw [if_pos rfl]
        refine ⟨fun σ' H' => ∃ μ' st' es', SlOk X.K H' μ' es' σ' ∧ StOk X.K k.cl H' μ' st' ∧ AftS X.K k D μ' H' (whL tc mb m es' st'), fun σ' H' q => ⟨m, Nat.lt_succ_self _, q⟩, μ2, st2, es1, so1.step p2, ok2, ?_⟩
        rw [if_pos rfl] at h2
        generalize hr : mb es1 st2 = r at h2
        cases r with
        | ok f es4 st4 =>
          cases f with
          | nx => exact fun μ' H' σ' p4 ok4 so4 => ⟨μ', st4, es4, so4, ok4, AftS.step p4 h2⟩
          | ct => exact fun μ' H' σ' p4 ok4 so4 => ⟨μ', st4, es4, so4, ok4, AftS.step p4 h2⟩
          | bk => exact fun μ' H' σ' p4 ok4 so4 => h2 μ' H' σ' p4 ok4 so4
          | rt d => exact fun μ' H' v p4 ok4 rv => h2 μ' H' v p4 ok4 rv
        | ex x es4 st4 => exact fun μ' H' σ' c od p4 ok4 so4 xo => h2 μ' H' σ' c od p4 ok4 so4 xo
        | no => exact h2.elim

/-! ### comprehensions -/
def wipeD (es : Sl) : List Nat → Sl
  | [] => es
  | v :: vs => (wipeD es vs).set v none
theorem SlOk.wipe {K : PySem.W.Frag} {H : Hp} {μ : Mp} {es : Sl} {σ : L2.St} (h : SlOk K H μ es σ) : ∀ vs : List Nat, SlOk K H μ (wipeD es vs) (L2.wipe σ vs)
  | [] => h
  | v :: vs => by
    unfold wipeD L2.wipe
    exact (SlOk.wipe h vs).setN v
def R.noex {α : Type} (r : R α) : R α := match r with
  | .ok a st => .ok a st
  | _ => .no
@[simp] theorem R.noex_ok {α : Type} (a : α) (st : Store) : (R.ok a st).noex = .ok a st := rfl
open Classical in
noncomputable def lcL (t : Tg) (tt : TM) (elt : EM) (P : Store → Prop) (es : Sl) : List D → Store → R (List D)
  | [], st => if P st then .ok [] st else .no
  | d :: ds, st => if P st then match t.put d es with
      | none => .no
      | some es1 => (tt es1 st).noex.bind fun b st1 => if b then (elt es1 st1).noex.bind fun y st2 => (lcL t tt elt P es ds st2).bind fun ys st3 => .ok (y :: ys) st3 else lcL t tt elt P es ds st1
    else .no
noncomputable def mLC (vs : List Nat) (mi : IM) (t : Tg) (tt : TM) (elt : EM) (es : Sl) (st : Store) : R D := (mi es st).bind fun p st1 => if p.1.length ≤ sizeLine then (lcL t tt elt (Held p.2) (wipeD es vs) p.1 st1).bind fun ys st2 => .ok (.lst ys) st2 else .no
def tYes (es : Sl) (st : Store) : R Bool := .ok true st
def pk0 (k : Pk) : Pk := { k with W := fun _ _ _ _ => False }
theorem ztyes {Y : Cx} {k : Pk} : PTs Y [] (lT Y.K k tYes) := ⟨fun pins s σ H Q I ⟨μ, st, es, so, ok, h⟩ => pts_nil.run pins s σ H Q I (Aft.ret ok h)⟩
/-- a place that is written apart (the list that a comprehension makes) -/
theorem avoid_rep {K : PySem.W.Frag} {H : Hp} {μ : Mp} {p : Addr} {o : HO} (hp : H p = none) {d : D} {v : V} (h : Rep K H μ d v) : Rep K (upd H p o) ⟨μ.cs, p :: μ.av⟩ d v := by
  have up : ∀ {a : Addr} {u : HO}, Rd H a u ∧ a ∉ μ.cs ∧ a ∉ μ.av → Rd (upd H p o) a u ∧ a ∉ μ.cs ∧ a ∉ p :: μ.av := fun {a u} ⟨r, n, m⟩ => by
    have hne : a ≠ p := by
      rcases r with r | ⟨ob, r⟩
      · exact ne_of_none r hp
      · exact ne_of_none r hp
    refine ⟨?_, n, fun z => (List.mem_cons.mp z).elim hne m⟩
    rcases r with r | ⟨ob, r⟩
    · exact .inl (by rw [upd_ne hne]; exact r)
    · exact .inr ⟨ob, by rw [upd_ne hne]; exact r⟩
  exact Rep.rec (motive_1 := fun d v _ => Rep K (upd H p o) ⟨μ.cs, p :: μ.av⟩ d v) (motive_2 := fun ds vs _ => Reps K (upd H p o) ⟨μ.cs, p :: μ.av⟩ ds vs) .non (fun b => .bl b) (fun i => .int i) (fun s => .str s)
    (fun h1 _ h3 => .tup (h1.elim (fun z => .inl (up z)) .inr) h3) (fun h1 _ h3 => .lst ⟨by rw [upd_ne (ne_of_none h1.1 hp)]; exact h1.1, h1.2.1, fun z => (List.mem_cons.mp z).elim (ne_of_none h1.1 hp) h1.2.2⟩ h3) (fun h1 => .ref h1) (fun h1 => .scr (h1.elim (fun z => .inl (up z)) .inr))
    (fun h1 _ h3 => .dct (let ⟨kvs, z, e⟩ := h1; ⟨kvs, up z, e⟩) h3) (fun h1 _ h3 => .dcu (let ⟨kvs, z, e⟩ := h1; ⟨kvs, up z, e⟩) h3)
    .nil (fun _ _ h1 h2 => .cons h1 h2) h
theorem unavoid_rep {K : PySem.W.Frag} {H : Hp} {cs av : List Addr} {p : Addr} {d : D} {v : V} (h : Rep K H ⟨cs, p :: av⟩ d v) : Rep K H ⟨cs, av⟩ d v := by
  have ot : ∀ {a : Addr}, a ∉ (⟨cs, p :: av⟩ : Mp).av → a ∉ (⟨cs, av⟩ : Mp).av := fun {a} m z => m (List.mem_cons_of_mem _ (show a ∈ av from z))
  have up : ∀ {a : Addr} {u : HO}, Rd H a u ∧ a ∉ (⟨cs, p :: av⟩ : Mp).cs ∧ a ∉ (⟨cs, p :: av⟩ : Mp).av → Rd H a u ∧ a ∉ (⟨cs, av⟩ : Mp).cs ∧ a ∉ (⟨cs, av⟩ : Mp).av := fun {a u} ⟨r, n, m⟩ => ⟨r, n, ot m⟩
  exact Rep.rec (motive_1 := fun d v _ => Rep K H ⟨cs, av⟩ d v) (motive_2 := fun ds vs _ => Reps K H ⟨cs, av⟩ ds vs) .non (fun b => .bl b) (fun i => .int i) (fun s => .str s)
    (fun h1 _ h3 => .tup (h1.elim (fun z => .inl (up z)) .inr) h3) (fun h1 _ h3 => .lst ⟨h1.1, h1.2.1, ot h1.2.2⟩ h3) (fun h1 => .ref h1) (fun h1 => .scr (h1.elim (fun z => .inl (up z)) .inr))
    (fun h1 _ h3 => .dct (let ⟨kvs, z, e⟩ := h1; ⟨kvs, up z, e⟩) h3) (fun h1 _ h3 => .dcu (let ⟨kvs, z, e⟩ := h1; ⟨kvs, up z, e⟩) h3)
    .nil (fun _ _ h1 h2 => .cons h1 h2) h
theorem apart_rep {K : PySem.W.Frag} {H : Hp} {μ : Mp} {p : Addr} {o : HO} (hp : p ∈ μ.av) {d : D} {v : V} (h : Rep K H μ d v) : Rep K (upd H p o) μ d v := by
  have up : ∀ {a : Addr} {u : HO}, Rd H a u ∧ a ∉ μ.cs ∧ a ∉ μ.av → Rd (upd H p o) a u ∧ a ∉ μ.cs ∧ a ∉ μ.av := fun {a u} ⟨r, n, m⟩ => by
    have hne : a ≠ p := fun z => m (z ▸ hp)
    refine ⟨?_, n, m⟩
    rcases r with r | ⟨ob, r⟩
    · exact .inl (by rw [upd_ne hne]; exact r)
    · exact .inr ⟨ob, by rw [upd_ne hne]; exact r⟩
  exact Rep.rec (motive_1 := fun d v _ => Rep K (upd H p o) μ d v) (motive_2 := fun ds vs _ => Reps K (upd H p o) μ ds vs) .non (fun b => .bl b) (fun i => .int i) (fun s => .str s)
    (fun h1 _ h3 => .tup (h1.elim (fun z => .inl (up z)) .inr) h3) (fun {a _ _} h1 _ h3 => .lst ⟨by rw [upd_ne (show a ≠ p from fun z => h1.2.2 (z ▸ hp))]; exact h1.1, h1.2.1, h1.2.2⟩ h3) (fun h1 => .ref h1) (fun h1 => .scr (h1.elim (fun z => .inl (up z)) .inr))
    (fun h1 _ h3 => .dct (let ⟨kvs, z, e⟩ := h1; ⟨kvs, up z, e⟩) h3) (fun h1 _ h3 => .dcu (let ⟨kvs, z, e⟩ := h1; ⟨kvs, up z, e⟩) h3)
    .nil (fun _ _ h1 h2 => .cons h1 h2) h
theorem reps_of {K : PySem.W.Frag} {H H' : Hp} {μ μ' : Mp} (h : ∀ d v, Rep K H μ d v → Rep K H' μ' d v) : ∀ {ds : List D} {vs : List V}, Reps K H μ ds vs → Reps K H' μ' ds vs
  | _, _, .nil => .nil
  | _, _, .cons a b => .cons (h _ _ a) (reps_of h b)
theorem StOk.of {K : PySem.W.Frag} {cl : Str → Option Addr} {H H' : Hp} {μ μ' : Mp} {st : Store} (ok : StOk K cl H μ st) (hc : μ'.cs = μ.cs) (r : ∀ d v, Rep K H μ d v → Rep K H' μ' d v) (hh : ∀ a ∈ μ.cs, H' a = H a) (hav : ∀ a ∈ μ'.av, H' a ≠ none) : StOk K cl H' μ' st := by
  refine ⟨by rw [hc]; exact ok.len, by rw [hc]; exact ok.nd, fun n c e => ?_, hav⟩
  obtain ⟨a, e1, c1⟩ := ok.cell n c e
  refine ⟨a, by rw [hc]; exact e1, ?_⟩
  have ham := List.mem_of_getElem? e1
  cases c with
  | lst ds => obtain ⟨vs, e2, q⟩ := c1; exact ⟨vs, by rw [hh a ham]; exact e2, reps_of r q⟩
  | obj n fs => obtain ⟨C, dx, gs, q, e2, q2⟩ := c1; exact ⟨C, dx, gs, q, by rw [hh a ham]; exact e2, q2.1, reps_of r q2.2⟩
theorem sl_of {K : PySem.W.Frag} {H H' : Hp} {μ μ' : Mp} (h : ∀ d v, Rep K H μ d v → Rep K H' μ' d v) : ∀ {es : Sl} {σ : L2.St}, SlOk K H μ es σ → SlOk K H' μ' es σ
  | _, _, .nil => .nil
  | _, _, .un t => .un (sl_of h t)
  | _, _, .is r t => .is (h _ _ r) (sl_of h t)
theorem aft_noex {α : Type} {K : PySem.W.Frag} {cl : Str → Option Addr} {μ : Mp} {H : Hp} {r : R α} {Q : α → Store → Mp → Hp → Prop} {Q' Q1' : Value → Option Addr → Hp → Prop} (h : Aft K cl μ H r.noex Q Q') : Aft K cl μ H r Q Q1' := by
  cases r with
  | ok a st => exact h
  | ex x st => exact h.elim
  | no => exact h
theorem wipe_in {σ : L2.St} {vs : List Nat} : ∀ us : List Nat, (∀ i ∈ us, i ∈ vs) → L2.wipe (L2.wipe σ us) vs = L2.wipe σ vs
  | [], _ => rfl
  | u :: us, h => by
    show L2.wipe ((L2.wipe σ us).set u none) vs = L2.wipe σ vs
    rw [wipe_set (h u List.mem_cons_self), wipe_in us fun i hi => h i (List.mem_cons_of_mem _ hi)]
theorem lLC {vs : List Nat} {mi : IM} {t : Tg} {tt : TM} {te : EM} (hix : ∀ i ∈ t.ix, i ∈ vs) (σ : L2.St) (H : Hp) (Q : VK) (h : lE X.K k (mLC vs mi t tt te) σ H Q) : tLc (lI X.K k mi) (lG X.K k.cl t) (lT X.K (pk0 k) tt) (lE X.K (pk0 k) te) vs σ H Q := by
  obtain ⟨μ, st, es, so, ok, h⟩ := h
  refine ⟨μ, st, es, so, ok, Aft.mono (Aft.bind h) (fun p st1 μ1 H1 p1 ok1 h1 J gJ => ?_) fun _ _ _ z => z⟩
  intro Dd hD
  split at h1
  · rename_i hlen
    have nc := ok1.notin hD
    have na := ok1.notav hD
    refine ⟨fun i m H' => ∃ (cs' : List Addr) (st' : Store) (acc : List D) (vs' : List V), i ≤ p.1.length ∧ m = p.1.length - i ∧ acc.length ≤ i ∧ StepA μ1 ⟨cs', Dd :: μ1.av⟩ H1 H' ∧ StOk X.K k.cl H' ⟨cs', Dd :: μ1.av⟩ st' ∧ SlOk X.K H' ⟨cs', Dd :: μ1.av⟩ (wipeD es vs) (L2.wipe σ vs) ∧
        H' Dd = some (.lst vs') ∧ Dd ∉ cs' ∧ Reps X.K H' ⟨cs', Dd :: μ1.av⟩ acc vs' ∧
        Aft X.K k.cl μ1 H1 ((lcL t tt te (Held p.2) (wipeD es vs) (p.1.drop i) st').bind fun ys st2 => .ok (.lst (acc ++ ys)) st2) (fun d _ μ' H' => ∀ v, Rep X.K H' μ' d v → Q v H') fun c od H' => k.W c od σ H',
      ⟨p.1.length, μ1.cs, st1, [], [], Nat.zero_le _, rfl, Nat.le_refl _, ⟨⟨[], by simp, fun _ z => nomatch z⟩, fun a ha => (List.mem_cons.mp ha).elim (fun z => .inr (z ▸ hD)) .inl, (Step.alloc (μ := μ1) hD).fr, (Step.alloc (μ := μ1) hD).dom⟩,
        ok1.of rfl (fun d v r => avoid_rep hD r) (fun a ha => upd_ne (fun z => nc (z ▸ ha))) (fun a ha => ?_), (sl_of (fun d v r => avoid_rep hD r) (so.step p1)).wipe _, upd_same, nc, .nil, by simpa using h1⟩, ?_⟩
    · by_cases q : a = Dd
      · subst q; rw [upd_same]; exact fun z => nomatch z
      · rw [upd_ne q]; exact ok1.av a ((List.mem_cons.mp ha).resolve_left q)
    · rintro i m H2 ⟨cs2, st2, acc, vs2, hil, rfl, hacc, q2, ok2, so2, hd2, nd2, ra, h2⟩
      by_cases hl : i < p.1.length
      · rw [List.drop_eq_getElem_cons hl] at h2
        unfold lcL at h2
        split at h2
        · rename_i hP
          obtain ⟨g1, g2⟩ := gJ.go _ H2 st2 i p.1[i] q2 ok2 hP (List.getElem?_eq_getElem hl)
          refine .inr ⟨g1, fun H' => ∃ (cs' : List Addr) (st' : Store) (acc : List D) (vs' : List V), acc.length ≤ i + 1 ∧ StepA μ1 ⟨cs', Dd :: μ1.av⟩ H1 H' ∧ StOk X.K k.cl H' ⟨cs', Dd :: μ1.av⟩ st' ∧ SlOk X.K H' ⟨cs', Dd :: μ1.av⟩ (wipeD es vs) (L2.wipe σ vs) ∧
            H' Dd = some (.lst vs') ∧ Dd ∉ cs' ∧ Reps X.K H' ⟨cs', Dd :: μ1.av⟩ acc vs' ∧
            Aft X.K k.cl μ1 H1 ((lcL t tt te (Held p.2) (wipeD es vs) (p.1.drop (i + 1)) st').bind fun ys st2 => .ok (.lst (acc ++ ys)) st2) (fun d _ μ' H' => ∀ v, Rep X.K H' μ' d v → Q v H') fun c od H' => k.W c od σ H', ?_, fun x H3 y => ?_⟩
          · rintro H' ⟨cs', st', acc', vs', a0, a, b, c, d, e, f, g⟩
            exact ⟨p.1.length - (i + 1), by omega, cs', st', acc', vs', hl, rfl, a0, a, b, c, d, e, f, g⟩
          · obtain ⟨p3, ok3, r3⟩ := g2 x H3 y
            split at h2
            · exact h2.elim
            · rename_i es3 e3
              refine ⟨_, st2, _, p.1[i], es3, so2.step p3, ok3, r3, e3, fun σ3 so3 w3 => ⟨by rw [w3 _ hix, wipe_in _ fun _ hi => hi], ?_⟩⟩
              generalize hb : tt es3 st2 = rb at h2
              cases rb with
              | no => exact h2.elim
              | ex x s => exact h2.elim
              | ok b st4 =>
                refine ⟨_, st2, es3, so3, ok3, ?_⟩
                rw [hb]
                intro μ4 H4 p4 ok4
                have hd4 : H4 Dd = some (.lst vs2) := p4.fr _ _ (p3.fr _ _ hd2 nd2) nd2
                obtain ⟨t4, e4, f4⟩ := p4.ext
                subst e4
                have nd4 : Dd ∉ cs2 ++ t4 := p4.notin (p3.fr _ _ hd2 nd2) nd2
                have q4 : StepA μ1 ⟨cs2 ++ t4, Dd :: μ1.av⟩ H1 H4 := (q2.trans p3.toA).trans p4.toA
                cases b with
                | false =>
                  refine iteF ?_
                  exact ⟨cs2 ++ t4, st4, acc, vs2, Nat.le_succ_of_le hacc, q4, ok4, (so2.step p3).step p4, hd4, nd4, p4.reps _ _ (p3.reps _ _ ra), h2⟩
                | true =>
                  refine iteT ?_
                  refine ⟨_, st4, es3, so3.step p4, ok4, ?_⟩
                  simp only [R.noex_ok, R.bind_ok, if_true] at h2
                  generalize hy : te es3 st4 = ry at h2
                  cases ry with
                  | no => exact h2.elim
                  | ex x s => exact h2.elim
                  | ok y st5 =>
                    intro μ5 H5 p5 ok5 v5 rv5
                    have hd5 : H5 Dd = some (.lst vs2) := p5.fr _ _ hd4 nd4
                    obtain ⟨t5, e5, f5⟩ := p5.ext
                    subst e5
                    have nd5 : Dd ∉ (cs2 ++ t4) ++ t5 := p5.notin hd4 nd4
                    have q5 : StepA μ1 ⟨(cs2 ++ t4) ++ t5, Dd :: μ1.av⟩ H1 H5 := q4.trans p5.toA
                    have mem : Dd ∈ (⟨(cs2 ++ t4) ++ t5, Dd :: μ1.av⟩ : Mp).av := List.mem_cons_self
                    have ra5 : Reps X.K H5 ⟨(cs2 ++ t4) ++ t5, Dd :: μ1.av⟩ acc vs2 := p5.reps _ _ (p4.reps _ _ (p3.reps _ _ ra))
                    refine ⟨vs2, hd5, ?_, (cs2 ++ t4) ++ t5, st5, acc ++ [y], vs2 ++ [v5], ?_, ?_, ?_, ?_, upd_same, nd5, ?_, ?_⟩
                    · rw [← ra.length]; omega
                    · rw [List.length_append, List.length_singleton]; omega
                    · exact ⟨q5.ext, q5.av, fun a o ha hn => by rw [upd_ne (ne_of_none ha hD)]; exact q5.fr a o ha hn, fun a ha => by
                        by_cases q : a = Dd
                        · rw [q] at ha; rw [upd_same] at ha; cases ha
                        · rw [upd_ne q] at ha; exact q5.dom a ha⟩
                    · refine ok5.of rfl (fun d v r => apart_rep mem r) (fun a ha => upd_ne (fun z => nd5 (z ▸ ha))) fun a ha => ?_
                      by_cases q : a = Dd
                      · subst q; rw [upd_same]; exact fun z => nomatch z
                      · rw [upd_ne q]; exact ok5.av a ha
                    · exact sl_of (fun d v r => apart_rep mem r) (((so2.step p3).step p4).step p5)
                    · exact reps_of (fun d v r => apart_rep mem r) (ra5.append (.cons rv5 .nil))
                    · simp only [R.noex_ok, R.bind_ok, R.bind_assoc] at h2
                      simpa only [List.append_assoc, List.cons_append, List.nil_append] using h2
        · exact h2.elim
      · have e : i = p.1.length := by omega
        subst e
        rw [List.drop_length] at h2
        unfold lcL at h2
        split at h2
        · rename_i hP
          refine .inl ⟨gJ.stop _ H2 st2 q2 ok2 hP, ?_⟩
          simp only [R.bind_ok, List.append_nil] at h2
          obtain ⟨t2, e2, f2⟩ := q2.ext
          have e2' : cs2 = μ1.cs ++ t2 := e2
          have s2 : Step μ1 ⟨cs2, μ1.av⟩ H1 H2 := ⟨⟨t2, by rw [e2'], f2⟩, q2.fr, q2.dom⟩
          refine h2 ⟨cs2, μ1.av⟩ H2 s2 (ok2.of rfl (fun d v r => unavoid_rep r) (fun a ha => rfl) fun a ha => ok2.av a (List.mem_cons_of_mem _ ha)) _ (.lst ⟨hd2, nd2, na⟩ (reps_of (fun d v r => unavoid_rep r) ra))
        · exact h2.elim
  · exact h1.elim
theorem zlc {elt tg iter : Expr} {ifs : List Expr} {scope : Scope} {own : List (Str × Nat)} {mi : IM} {t : Tg} {tt : TM} {te : EM} (hc : X.calm = true) (hN : X.N.Nodup) (hi : PI X tg iter (lI X.K k mi)) (ok : BlkOk X.N X.env.scope scope own) (hix : ∀ i ∈ t.ix, i ∈ own.map (·.2))
    (hg : ∀ (s : Shared) (H : Hp) (C : Addr) (cl : List (Str × Addr)) (fp : List Addr), PG (X.blk s H scope (compEnvC scope cl C X.env) fp) tg (lG X.K k.cl t))
    (ht : ∀ (s : Shared) (H : Hp) (C : Addr) (cl : List (Str × Addr)) (fp : List Addr), PTs (X.blk s H scope (compEnvC scope cl C X.env) fp) ifs (lT X.K (pk0 k) tt))
    (he : ∀ (s : Shared) (H : Hp) (C : Addr) (cl : List (Str × Addr)) (fp : List Addr), PE (X.blk s H scope (compEnvC scope cl C X.env) fp) elt (lE X.K (pk0 k) te))
    (hs : ∀ x, foldedSetIterable iter X.env x = pure x := by intro _; rfl) : PE X (.ListComp elt [⟨tg, iter, ifs, 0⟩] scope pos) (lE X.K k (mLC (own.map (·.2)) mi t tt te)) := by
  exact PE.imp (pe_lc hc hN hi ok hg ht he hs) (lLC hix)
theorem zsetlc (i : Nat) {y : Str} {py spos : Pos} {elt tg iter : Expr} {ifs : List Expr} {scope : Scope} {own : List (Str × Nat)} {mi : IM} {t : Tg} {tt : TM} {te : EM} (hc : X.calm = true) (hN : X.N.Nodup) (hi : PI X tg iter (lI X.K k mi)) (ok : BlkOk X.N X.env.scope scope own) (hix : ∀ i ∈ t.ix, i ∈ own.map (·.2))
    (hg : ∀ (s : Shared) (H : Hp) (C : Addr) (cl : List (Str × Addr)) (fp : List Addr), PG (X.blk s H scope (compEnvC scope cl C X.env) fp) tg (lG X.K k.cl t))
    (ht : ∀ (s : Shared) (H : Hp) (C : Addr) (cl : List (Str × Addr)) (fp : List Addr), PTs (X.blk s H scope (compEnvC scope cl C X.env) fp) ifs (lT X.K (pk0 k) tt))
    (he : ∀ (s : Shared) (H : Hp) (C : Addr) (cl : List (Str × Addr)) (fp : List Addr), PE (X.blk s H scope (compEnvC scope cl C X.env) fp) elt (lE X.K (pk0 k) te))
    (hs : ∀ x, foldedSetIterable iter X.env x = pure x := by intro _; rfl) 
    (hy : X.N[i]? = some y := by rfl) (hyl : X.env.scope.names.lookup y = some .local := by rfl) (hl : (py.line == pos.line) = true := by rfl) (hk : X.env.scope.kind = .function := by rfl) (ha : (scope.names.any fun (n, k) => n == y && (k == .local || k == .cell)) = false := by decide +kernel) :
    PS X (.Assign [.Name y py] (.ListComp elt [⟨tg, iter, ifs, 0⟩] scope pos) spos) (lS X.K k (sAsg (.nm i) (mLC (own.map (·.2)) mi t tt te))) := by
  exact PS.imp (ps_setLc hc hN hy hyl (sw_true hk hyl hl ha) hi ok hg ht he hs) fun D σ H h => by
    obtain ⟨μ, st, es, so, ok, h⟩ := h
    refine lLC hix σ H _ ⟨μ, st, es, so, ok, Aft.mono (aftE so h) (fun d st1 μ1 H1 p1 ok1 h1 v rv => ?_) fun _ _ _ z => z⟩
    exact h1 μ1 H1 _ (Step.refl _ _) ok1 ((so.step p1).set rv i)
end
end Zv
namespace Zv
open PySem PySem.Spec L2
section
variable {X : Cx} {k : Pk} {pos p : Pos} {tg e : Expr} {ma mb : EM} {mr : AM} {es : List Expr}

/-! ## iterables -/
def mIt (ma : EM) (es : Sl) (st : Store) : R Its := (ma es st).bind fun d st1 => match d with
  | .lst ds => .ok (ds, []) st1
  | .tup ds => .ok (ds, []) st1
  | .scr ns => .ok (ns.map .int, []) st1
  | .ref n => match st1[n]? with
    | some (.lst ds) => .ok (ds, [(n, ds)]) st1
    | _ => .no
  | _ => .no
theorem goes_list {K : PySem.W.Frag} {cl : Str → Option Addr} {μ : Mp} {H : Hp} {a : Addr} {ds : List D} {vs : List V} {P : Store → Prop} (h : LstAt H μ a vs) (r : Reps K H μ ds vs) : Goes K cl μ H (Itl K a) ds P where
  go := fun μ' H' st i d p ok _ e => by
    have h' := (p.lst h).sq (K := K)
    obtain ⟨v, e1, r1⟩ := (p.reps _ _ r).get e
    refine ⟨⟨vs, v, h', e1⟩, fun x H2 y => ?_⟩
    obtain ⟨rfl, y2⟩ := y
    have e3 := y2 vs h'
    rw [e1] at e3
    cases e3
    exact ⟨Step.refl _ _, ok, r1⟩
  stop := fun μ' H' st p ok _ => ⟨vs, (p.lst h).sq, by rw [r.length]; exact Nat.le_refl _⟩
theorem goes_cell {K : PySem.W.Frag} {cl : Str → Option Addr} {μ : Mp} {H : Hp} {a : Addr} {n : Nat} {ds : List D} {P : Store → Prop} (h : μ.cs[n]? = some a) (hP : ∀ st, P st → st[n]? = some (.lst ds)) : Goes K cl μ H (Itl K a) ds P where
  go := fun μ' H' st i d p ok hp e => by
    obtain ⟨b, e0, vs, e1, r⟩ := ok.cell n _ (hP st hp)
    rw [p.get h] at e0
    cases e0
    have h' : SqL K H' a vs := .inl (.inl e1)
    obtain ⟨v, e4, r1⟩ := r.get e
    refine ⟨⟨vs, v, h', e4⟩, fun x H2 y => ?_⟩
    obtain ⟨rfl, y2⟩ := y
    have e3 := y2 vs h'
    rw [e4] at e3
    cases e3
    exact ⟨Step.refl _ _, ok, r1⟩
  stop := fun μ' H' st p ok hp => by
    obtain ⟨b, e0, vs, e1, r⟩ := ok.cell n _ (hP st hp)
    rw [p.get h] at e0
    cases e0
    exact ⟨vs, .inl (.inl e1), by rw [r.length]; exact Nat.le_refl _⟩
theorem goes_tup {K : PySem.W.Frag} {cl : Str → Option Addr} {μ : Mp} {H : Hp} {a : Addr} {ds : List D} {vs : List V} {P : Store → Prop} (h : TupAt K H μ a vs) (r : Reps K H μ ds vs) : Goes K cl μ H (Itt K a) ds P where
  go := fun μ' H' st i d p ok _ e => by
    have h' := (p.tup h).sq
    obtain ⟨v, e1, r1⟩ := (p.reps _ _ r).get e
    refine ⟨⟨vs, v, h', e1⟩, fun x H2 y => ?_⟩
    obtain ⟨rfl, y2⟩ := y
    have e3 := y2 vs h'
    rw [e1] at e3
    cases e3
    exact ⟨Step.refl _ _, ok, r1⟩
  stop := fun μ' H' st p ok _ => ⟨vs, (p.tup h).sq, by rw [r.length]; exact Nat.le_refl _⟩
theorem reps_ints {K : PySem.W.Frag} {H : Hp} {μ : Mp} : ∀ ns : List Int, Reps K H μ (ns.map D.int) (ns.map V.int)
  | [] => .nil
  | n :: ns => .cons (.int n) (reps_ints ns)
theorem goes_scr {K : PySem.W.Frag} {cl : Str → Option Addr} {μ : Mp} {H : Hp} {a : Addr} {ns : List Int} {P : Store → Prop} (h : ScrAt K H μ a (ns.map V.int)) : Goes K cl μ H (Itl K a) (ns.map D.int) P where
  go := fun μ' H' st i d p ok _ e => by
    have h' := (p.scr h).sq
    obtain ⟨v, e1, r1⟩ := (reps_ints (K := K) (H := H') (μ := μ') ns).get e
    refine ⟨⟨_, v, h', e1⟩, fun x H2 y => ?_⟩
    obtain ⟨rfl, y2⟩ := y
    have e3 := y2 _ h'
    rw [e1] at e3
    cases e3
    exact ⟨Step.refl _ _, ok, r1⟩
  stop := fun μ' H' st p ok _ => ⟨_, (p.scr h).sq, by rw [List.length_map, List.length_map]; exact Nat.le_refl _⟩
theorem PI.or {t t' : TI} (h : PI X tg e t) (h' : PI X tg e t') : PI X tg e (fun σ H R => t σ H R ∨ t' σ H R) :=
  ⟨fun pins s σ H Q I w => w.elim (h.run pins s σ H Q I) (h'.run pins s σ H Q I)⟩
theorem zit (ha : PE X e (lE X.K k ma)) : PI X tg e (lI X.K k (mIt ma)) :=
  PI.imp (PI.or (pi_list ha) (pi_tup ha)) fun σ H Rr ⟨μ, st, es, so, ok, h⟩ => by
    unfold mIt at h
    generalize hm : ma es st = r at h
    cases r with
    | no => exact h.elim
    | ex x s =>
      refine .inl ⟨μ, st, es, so, ok, ?_⟩
      rw [hm]
      exact fun μ' H' c od p ok' xo => h μ' H' c od p ok' xo
    | ok d st1 =>
      cases d with
      | lst ds =>
        refine .inl ⟨μ, st, es, so, ok, ?_⟩
        rw [hm]
        intro μ' H' p ok' v rv
        cases rv with
        | lst h1 h2 => exact ⟨_, rfl, ⟨_, h1.sq⟩, h μ' H' p ok' _ (goes_list h1 h2)⟩
      | scr ns =>
        refine .inl ⟨μ, st, es, so, ok, ?_⟩
        rw [hm]
        intro μ' H' p ok' v rv
        cases rv with
        | scr h1 => exact ⟨_, rfl, ⟨_, h1.sq⟩, h μ' H' p ok' _ (goes_scr h1)⟩
      | tup ds =>
        refine .inr ⟨μ, st, es, so, ok, ?_⟩
        rw [hm]
        intro μ' H' p ok' v rv
        cases rv with
        | tup h1 h2 => exact ⟨_, rfl, ⟨_, h1.sq⟩, h μ' H' p ok' _ (goes_tup h1 h2)⟩
      | ref n =>
        refine .inl ⟨μ, st, es, so, ok, ?_⟩
        rw [hm]
        simp only [Zv.R.bind_ok] at h
        split at h
        · rename_i ds e0
          intro μ' H' p ok' v rv
          obtain ⟨a, vs, rfl, e1, e2, r2⟩ := cellAt ok' rv e0
          exact ⟨_, rfl, ⟨_, .inl (.inl e2)⟩, h μ' H' p ok' _ (goes_cell e1 fun st q => q.1)⟩
        · exact h.elim
      | _ => exact h.elim
def rngD (lo : Int) (n : Nat) : List D := (List.range n).map fun (i : Nat) => D.int (lo + (i : Int))
def mRng1 (mr : AM) (es : Sl) (st : Store) : R Its := (mr es st).bind fun ds st1 => match ds with
  | [.int j] => if -(2 ^ 62) ≤ j ∧ j < 2 ^ 62 then .ok (rngD 0 j.toNat, []) st1 else .no
  | _ => .no
def mRng2 (mr : AM) (es : Sl) (st : Store) : R Its := (mr es st).bind fun ds st1 => match ds with
  | [.int i, .int j] => if -(2 ^ 62) ≤ i ∧ i < 2 ^ 62 ∧ -(2 ^ 62) ≤ j ∧ j < 2 ^ 62 then .ok (rngD i (j - i).toNat, []) st1 else .no
  | _ => .no
theorem goes_rng {K : PySem.W.Frag} {cl : Str → Option Addr} {μ : Mp} {H : Hp} {lo : Int} {n : Nat} {P : Store → Prop} : Goes K cl μ H (Itr lo n) (rngD lo n) P where
  go := fun μ' H' st i d p ok _ e => by
    unfold rngD at e
    rw [List.getElem?_map] at e
    have hi : i < n := by
      cases q : (List.range n)[i]? with
      | none => rw [q] at e; cases e
      | some z => simpa using (List.getElem?_eq_some_iff.mp q).1
    rw [List.getElem?_range hi] at e
    cases e
    refine ⟨hi, fun x H2 y => ?_⟩
    obtain ⟨rfl, rfl⟩ := y
    exact ⟨Step.refl _ _, ok, .int _⟩
  stop := fun μ' H' st p ok _ => by show n ≤ (rngD lo n).length; unfold rngD; simp
theorem zrng1 {a : Expr} (hg : Gl X "range") (hm : X.mg "range" = none) (ha : PA X [a] (lA X.K k mr)) (hs : starEach [a] X.env = [(false, eval a X.env)] := by rfl) : PI X tg (.Call (.Name "range" p) [a] [] pos) (lI X.K k (mRng1 mr)) :=
  PI.imp (pi_range1 hg hm ha hs) fun σ H Rr ⟨μ, st, es, so, ok, h⟩ => ⟨μ, st, es, so, ok, Aft.mono (Aft.bind h) (fun ds st1 μ1 H1 p1 ok1 h1 vs rv => by
    split at h1
    · rename_i j
      cases rv with
      | cons r1 r2 =>
        cases r1
        cases r2
        split at h1
        · rename_i hb
          exact ⟨j, rfl, hb.1, hb.2, h1 μ1 H1 (Step.refl _ _) ok1 _ goes_rng⟩
        · exact h1.elim
    · exact h1.elim) fun _ _ _ z => z⟩
theorem zrng2 {a b : Expr} (hg : Gl X "range") (hm : X.mg "range" = none) (ha : PA X [a, b] (lA X.K k mr)) (hs : starEach [a, b] X.env = [(false, eval a X.env), (false, eval b X.env)] := by rfl) (hs2 : starEach [b] X.env = [(false, eval b X.env)] := by rfl) :
    PI X tg (.Call (.Name "range" p) [a, b] [] pos) (lI X.K k (mRng2 mr)) :=
  PI.imp (pi_range2 hg hm ha hs hs2) fun σ H Rr ⟨μ, st, es, so, ok, h⟩ => ⟨μ, st, es, so, ok, Aft.mono (Aft.bind h) (fun ds st1 μ1 H1 p1 ok1 h1 vs rv => by
    split at h1
    · rename_i i j
      cases rv with
      | cons r1 r2 =>
        cases r1
        cases r2 with
        | cons r3 r4 =>
          cases r3
          cases r4
          split at h1
          · rename_i hb
            exact ⟨i, j, rfl, hb, h1 μ1 H1 (Step.refl _ _) ok1 _ goes_rng⟩
          · exact h1.elim
    · exact h1.elim) fun _ _ _ z => z⟩
end

/-! ## operations -/
section
variable {Y : Cx} {cl : Str → Option Addr}
theorem rZ_int {f : F2} {g : Int → Int → V} {gd : Int → Int → D} {x y : V} {H : Hp} {Q : VK} (h : rZ Y.K cl f x y H Q) (hf : ∀ st dx dy d, f st dx dy = some d → ∃ i j, dx = .int i ∧ dy = .int j ∧ d = gd i j) (hg : ∀ i j K H μ, Rep K H μ (gd i j) (g i j)) :
    ∃ i j st, x = .int i ∧ y = .int j ∧ f st (.int i) (.int j) = some (gd i j) ∧ Q (g i j) H := by
  obtain ⟨μ, st, dx, dy, d, rx, ry, ok, e, q⟩ := h
  obtain ⟨i, j, rfl, rfl, rfl⟩ := hf _ _ _ _ e
  cases rx
  cases ry
  exact ⟨i, j, st, rfl, rfl, e, q _ H (Step.refl _ _) ok (hg _ _ _ _ _)⟩
def dSub : F2
  | _, .int i, .int j => some (.int (i - j))
  | _, _, _ => none
def dMul : F2
  | _, .int i, .int j => if (-(2 ^ 64) < i ∧ i < 2 ^ 64) ∨ (-(2 ^ 64) < j ∧ j < 2 ^ 64) then some (.int (i * j)) else none
  | _, _, _ => none
def dMod : F2
  | _, .int i, .int j => if 0 < j then some (.int (i % j)) else none
  | _, _, _ => none
def dFdv : F2
  | _, .int i, .int j => if 0 < j ∧ j < 1073741824 then some (.int (i / j)) else none
  | _, _, _ => none
def dPow : F2
  | _, .int i, .int j => if 0 ≤ j ∧ j ≤ 1000000 ∧ i.natAbs < 2 ^ 64 then some (.int (i ^ j.toNat)) else none
  | _, _, _ => none
/-- a list by value, or the list in a cell -/
def D.items (st : Store) : D → Option (List D)
  | .lst xs => some xs
  | .ref n => match st[n]? with
    | some (.lst xs) => some xs
    | _ => none
  | _ => none
def dAdd : F2
  | _, .int i, .int j => some (.int (i + j))
  | _, .str i, .str j => if i.length + j.length ≤ sizeLine then some (.str (i ++ j)) else none
  | _, .tup xs, .tup ys => if xs.length + ys.length ≤ sizeLine then some (.tup (xs ++ ys)) else none
  | st, x, y => match x.items st, y.items st with
    | some xs, some ys => if xs.length + ys.length ≤ sizeLine then some (.lst (xs ++ ys)) else none
    | _, _ => none
def dLt : F2
  | _, .int i, .int j => some (.bl (decide (i < j)))
  | _, _, _ => none
def dLe : F2
  | _, .int i, .int j => some (.bl (decide (i ≤ j)))
  | _, _, _ => none
def dGt : F2
  | _, .int i, .int j => some (.bl (decide (j < i)))
  | _, _, _ => none
def dGe : F2
  | _, .int i, .int j => some (.bl (decide (j ≤ i)))
  | _, _, _ => none
theorem zo_sub : OpR Y (binaryOp .Sub) (rZ Y.K cl dSub) := OpR.imp op_sub fun x y H Q h => by
  obtain ⟨i, j, _, rfl, rfl, _, q⟩ := rZ_int (gd := fun i j => .int (i - j)) (g := fun i j => .int (i - j)) h (fun _ dx dy d e => by unfold dSub at e; split at e <;> first | (cases e; exact ⟨_, _, rfl, rfl, rfl⟩) | cases e) fun _ _ _ _ _ => .int _
  exact ⟨i, j, rfl, rfl, q⟩
theorem zo_mul : OpR Y (binaryOp .Mult) (rZ Y.K cl dMul) := OpR.imp op_mul fun x y H Q h => by
  obtain ⟨i, j, _, rfl, rfl, e, q⟩ := rZ_int (gd := fun i j => .int (i * j)) (g := fun i j => .int (i * j)) h (fun _ dx dy d e => by
    unfold dMul at e
    split at e
    · split at e
      · cases e; exact ⟨_, _, rfl, rfl, rfl⟩
      · cases e
    · cases e) fun _ _ _ _ _ => .int _
  refine ⟨i, j, rfl, rfl, ?_, q⟩
  unfold dMul at e
  simp only at e
  split at e
  · assumption
  · cases e
theorem zo_mod : OpR Y (binaryOp .Mod) (rZ Y.K cl dMod) := OpR.imp op_mod fun x y H Q h => by
  obtain ⟨i, j, _, rfl, rfl, e, q⟩ := rZ_int (gd := fun i j => .int (i % j)) (g := fun i j => .int (i % j)) h (fun _ dx dy d e => by
    unfold dMod at e
    split at e
    · split at e
      · cases e; exact ⟨_, _, rfl, rfl, rfl⟩
      · cases e
    · cases e) fun _ _ _ _ _ => .int _
  refine ⟨i, j, rfl, rfl, ?_, q⟩
  unfold dMod at e
  simp only at e
  split at e
  · assumption
  · cases e
theorem zo_fdv : OpR Y (binaryOp .FloorDiv) (rZ Y.K cl dFdv) := OpR.imp op_fdiv fun x y H Q h => by
  obtain ⟨i, j, _, rfl, rfl, e, q⟩ := rZ_int (gd := fun i j => .int (i / j)) (g := fun i j => .int (i / j)) h (fun _ dx dy d e => by
    unfold dFdv at e
    split at e
    · split at e
      · cases e; exact ⟨_, _, rfl, rfl, rfl⟩
      · cases e
    · cases e) fun _ _ _ _ _ => .int _
  refine ⟨i, j, rfl, rfl, ?_, q⟩
  unfold dFdv at e
  simp only at e
  split at e
  · assumption
  · cases e
theorem zo_pow : OpR Y (binaryOp .Pow) (rZ Y.K cl dPow) := OpR.imp op_pow fun x y H Q h => by
  obtain ⟨i, j, _, rfl, rfl, e, q⟩ := rZ_int (gd := fun i j => .int (i ^ j.toNat)) (g := fun i j => .int (i ^ j.toNat)) h (fun _ dx dy d e => by
    unfold dPow at e
    split at e
    · split at e
      · cases e; exact ⟨_, _, rfl, rfl, rfl⟩
      · cases e
    · cases e) fun _ _ _ _ _ => .int _
  refine ⟨i, j, rfl, rfl, ?_, q⟩
  unfold dPow at e
  simp only at e
  split at e
  · assumption
  · cases e
theorem zo_cmp {op : CmpOp} {f : F2} {g : Int → Int → Bool} (ho : OpR Y (compareOp op) (rI0 fun i j => .bl (g i j))) (hf : ∀ st dx dy d, f st dx dy = some d → ∃ i j, dx = .int i ∧ dy = .int j ∧ d = .bl (g i j)) : OpR Y (compareOp op) (rZ Y.K cl f) := OpR.imp ho fun x y H Q h => by
  obtain ⟨i, j, _, rfl, rfl, _, q⟩ := rZ_int (gd := fun i j => .bl (g i j)) (g := fun i j => .bl (g i j)) h hf fun _ _ _ _ _ => .bl _
  exact ⟨i, j, rfl, rfl, q⟩
theorem zo_lt : OpR Y (compareOp .Lt) (rZ Y.K cl dLt) := zo_cmp op_lt fun _ dx dy d e => by unfold dLt at e; split at e <;> first | (cases e; exact ⟨_, _, rfl, rfl, rfl⟩) | cases e
theorem zo_le : OpR Y (compareOp .LtE) (rZ Y.K cl dLe) := zo_cmp op_le fun _ dx dy d e => by unfold dLe at e; split at e <;> first | (cases e; exact ⟨_, _, rfl, rfl, rfl⟩) | cases e
theorem zo_gt : OpR Y (compareOp .Gt) (rZ Y.K cl dGt) := zo_cmp op_gt fun _ dx dy d e => by unfold dGt at e; split at e <;> first | (cases e; exact ⟨_, _, rfl, rfl, rfl⟩) | cases e
theorem zo_ge : OpR Y (compareOp .GtE) (rZ Y.K cl dGe) := zo_cmp op_ge fun _ dx dy d e => by unfold dGe at e; split at e <;> first | (cases e; exact ⟨_, _, rfl, rfl, rfl⟩) | cases e
theorem items_at {K : PySem.W.Frag} {cl : Str → Option Addr} {H : Hp} {μ : Mp} {st : Store} {d : D} {v : V} {xs : List D} (ok : StOk K cl H μ st) (r : Rep K H μ d v) (e : d.items st = some xs) : ∃ a vs, v = .ref a ∧ H a = some (.lst vs) ∧ Reps K H μ xs vs := by
  cases d with
  | lst ys =>
    have e' : some ys = some xs := e
    cases e'
    cases r with
    | lst h1 h2 => exact ⟨_, _, rfl, h1.1, h2⟩
  | ref n =>
    unfold D.items at e
    simp only at e
    split at e
    · rename_i ys e0
      cases e
      obtain ⟨a, vs, rfl, e1, e2, r2⟩ := cellAt ok r e0
      exact ⟨a, vs, rfl, e2, r2⟩
    · cases e
  | _ => cases e
theorem zo_add : OpR Y (binaryOp .Add) (rZ Y.K cl dAdd) := OpR.imp (op_add.or (op_add_str.or (op_catA.or op_cat))) fun x y H Q h => by
  obtain ⟨μ, st, dx, dy, d, rx, ry, ok, e, q⟩ := h
  unfold dAdd at e
  split at e
  · cases e
    cases rx
    cases ry
    exact .inl ⟨_, _, rfl, rfl, q _ H (Step.refl _ _) ok (.int _)⟩
  · split at e
    · cases e
      cases rx
      cases ry
      exact .inr (.inl ⟨_, _, rfl, rfl, by assumption, q _ H (Step.refl _ _) ok (.str _)⟩)
    · cases e
  · split at e
    · rename_i hl
      cases e
      cases rx with
      | tup x1 x2 =>
        cases ry with
        | tup y1 y2 =>
          refine .inr (.inr (.inl ⟨_, _, _, _, rfl, rfl, x1.sq, y1.sq, by rw [← x2.length, ← y2.length]; exact hl, fun z => ?_, fun z1 z2 => ?_, fun z1 z2 p hp => ?_⟩))
          · subst z
            cases x2
            exact q _ H (Step.refl _ _) ok (.tup y1 y2)
          · subst z2
            cases y2
            exact q _ H (Step.refl _ _) ok (.tup x1 (by rw [List.append_nil]; exact x2))
          · obtain ⟨a, b, c⟩ := zmadeT ok (x2.append y2) hp
            exact q _ _ a b c
    · cases e
  · split at e
    · rename_i xs ys ex ey
      split at e
      · rename_i hl
        cases e
        obtain ⟨a, vs, rfl, ea, ra⟩ := items_at ok rx ex
        obtain ⟨b, us, rfl, eb, rb⟩ := items_at ok ry ey
        refine .inr (.inr (.inr ⟨_, _, _, _, rfl, rfl, ea, eb, by rw [← ra.length, ← rb.length]; exact hl, fun p hp => ?_⟩))
        obtain ⟨a, b, c⟩ := zmadeL ok (ra.append rb) hp
        exact q _ _ a b c
      · cases e
    · cases e
def dIadd : F2
  | _, .int i, .int j => some (.int (i + j))
  | _, _, _ => none
def dIsub : F2
  | _, .int i, .int j => some (.int (i - j))
  | _, _, _ => none
theorem zi_add : PIp Y .Add (ipZ Y.K cl dIadd) := PIp.imp ip_add fun x y H Q h => by
  obtain ⟨i, j, _, rfl, rfl, _, q⟩ := rZ_int (gd := fun i j => .int (i + j)) (g := fun i j => .int (i + j)) h (fun _ dx dy d e => by unfold dIadd at e; split at e <;> first | (cases e; exact ⟨_, _, rfl, rfl, rfl⟩) | cases e) fun _ _ _ _ _ => .int _
  exact ⟨i, j, rfl, rfl, q⟩
theorem zi_sub : PIp Y .Sub (ipZ Y.K cl dIsub) := PIp.imp ip_sub fun x y H Q h => by
  obtain ⟨i, j, _, rfl, rfl, _, q⟩ := rZ_int (gd := fun i j => .int (i - j)) (g := fun i j => .int (i - j)) h (fun _ dx dy d e => by unfold dIsub at e; split at e <;> first | (cases e; exact ⟨_, _, rfl, rfl, rfl⟩) | cases e) fun _ _ _ _ _ => .int _
  exact ⟨i, j, rfl, rfl, q⟩
def isNon : D → Bool
  | .non => true
  | _ => false
def dIsN : F2 := fun _ x y => match y with
  | .non => some (.bl (isNon x))
  | _ => none
def dNotN : F2 := fun _ x y => match y with
  | .non => some (.bl (!isNon x))
  | _ => none
theorem rep_non {K : PySem.W.Frag} {H : Hp} {μ : Mp} {d : D} {v : V} (r : Rep K H μ d v) : decide (v = .non) = isNon d := by
  cases r <;> simp [isNon]
theorem zo_isN : OpR Y (compareOp .Is) (rZ Y.K cl dIsN) := OpR.imp op_isN fun x y H Q h => by
  obtain ⟨μ, st, dx, dy, d, rx, ry, ok, e, q⟩ := h
  cases dy with
  | non =>
    cases e
    cases ry
    refine ⟨rfl, q _ H (Step.refl _ _) ok ?_⟩
    rw [rep_non rx]
    exact .bl _
  | _ => cases e
theorem zo_notN : OpR Y (compareOp .IsNot) (rZ Y.K cl dNotN) := OpR.imp op_notN fun x y H Q h => by
  obtain ⟨μ, st, dx, dy, d, rx, ry, ok, e, q⟩ := h
  cases dy with
  | non =>
    cases e
    cases ry
    refine ⟨rfl, q _ H (Step.refl _ _) ok ?_⟩
    rw [rep_non rx]
    exact .bl _
  | _ => cases e
end
end Zv
namespace Zv
open PySem PySem.Spec L2 PyProof.Rows

/-! ## what leaves a def -/
mutual
def D.lo (b : Nat) : D → Bool
  | .tup xs => D.los b xs
  | .lst xs => D.los b xs
  | .ref n => decide (n < b)
  | .dct _ xs => D.los b xs
  | .dcu _ xs => D.los b xs
  | _ => true
def D.los (b : Nat) : List D → Bool
  | [] => true
  | x :: xs => x.lo b && D.los b xs
end
def Cell.lo (b : Nat) : Cell → Bool
  | .lst xs => D.los b xs
  | .obj _ fs => D.los b (fs.map (·.2))
def tidy (st st' : Store) : Prop := st.length ≤ st'.length ∧ ∀ n : Nat, n < st.length → st'[n]? = st[n]? ∨ ∃ c, st'[n]? = some c ∧ c.lo st.length = true
open Classical in
noncomputable def leave (st st' : Store) (d : D) : R D :=
  if tidy st st' then
    if d.lo st.length then .ok d (st'.take st.length)
    else match d with
      | .ref n => match st'[n]? with
        | some (.lst ds) => if D.los st.length ds then .ok (.lst ds) (st'.take st.length) else .ok d st'
        | _ => .ok d st'
      | _ => .ok d st'
  else .ok d st'
open Classical in
noncomputable def leaveX (st st' : Store) (x : Exn) : R D := if tidy st st' ∧ D.los st.length (x.fs.map (·.2)) = true then .ex x (st'.take st.length) else .ex x st'
noncomputable def runF (n : Nat) (m : SM) (ds : List D) (st : Store) : R D := match m (ds.map some ++ List.replicate (n - ds.length) none) st with
  | .ok .nx _ st' => leave st st' .non
  | .ok (.rt d) _ st' => leave st st' d
  | .ex x _ st' => leaveX st st' x
  | _ => .no
abbrev FM := List D → Store → R D

section
variable {K : PySem.W.Frag} {H : Hp} {cs t av : List Addr}
mutual
theorem lo_rep : ∀ (d : D) (v : V), Rep K H ⟨cs ++ t, av⟩ d v → d.lo cs.length = true → Rep K H ⟨cs, av⟩ d v
  | .non, _, h, _ => by cases h; exact .non
  | .bl b, _, h, _ => by cases h; exact .bl b
  | .int i, _, h, _ => by cases h; exact .int i
  | .str s, _, h, _ => by cases h; exact .str s
  | .tup ds, _, h, q => by
    cases h with
    | tup h1 h2 => exact .tup (h1.elim (fun z => .inl ⟨z.1, fun y => z.2.1 (List.mem_append_left _ y), z.2.2⟩) .inr) (lo_reps ds _ h2 (by simpa [D.lo] using q))
  | .lst ds, _, h, q => by
    cases h with
    | lst h1 h2 => exact .lst ⟨h1.1, fun y => h1.2.1 (List.mem_append_left _ y), h1.2.2⟩ (lo_reps ds _ h2 (by simpa [D.lo] using q))
  | .ref n, _, h, q => by
    cases h with
    | ref h1 =>
      have hn : n < cs.length := by simpa [D.lo] using q
      have h1' : (cs ++ t)[n]? = some _ := h1
      rw [List.getElem?_append_left hn] at h1'
      exact .ref h1'
  | .scr n, _, h, _ => by
    cases h with
    | scr h1 => exact .scr (h1.elim (fun z => .inl ⟨z.1, fun y => z.2.1 (List.mem_append_left _ y), z.2.2⟩) .inr)
  | .dct ks ds, _, h, q => by
    cases h with
    | dct h1 h2 =>
      obtain ⟨kvs, z, e⟩ := h1
      exact .dct ⟨kvs, ⟨z.1, fun y => z.2.1 (List.mem_append_left _ y), z.2.2⟩, e⟩ (lo_reps ds _ h2 (by simpa [D.lo] using q))
  | .dcu ks ds, _, h, q => by
    cases h with
    | dcu h1 h2 =>
      obtain ⟨kvs, z, e⟩ := h1
      exact .dcu ⟨kvs, ⟨z.1, fun y => z.2.1 (List.mem_append_left _ y), z.2.2⟩, e⟩ (lo_reps ds _ h2 (by simpa [D.lo] using q))
theorem lo_reps : ∀ (ds : List D) (vs : List V), Reps K H ⟨cs ++ t, av⟩ ds vs → D.los cs.length ds = true → Reps K H ⟨cs, av⟩ ds vs
  | [], _, h, _ => by cases h; exact .nil
  | d :: ds, _, h, q => by
    cases h with
    | cons h1 h2 =>
      simp only [D.los, Bool.and_eq_true] at q
      exact .cons (lo_rep d _ h1 q.1) (lo_reps ds _ h2 q.2)
end
mutual
theorem rep_lo {μ : Mp} : ∀ (d : D) (v : V), Rep K H μ d v → d.lo μ.cs.length = true
  | .non, _, _ => by simp [D.lo]
  | .bl b, _, _ => by simp [D.lo]
  | .int i, _, _ => by simp [D.lo]
  | .str s, _, _ => by simp [D.lo]
  | .tup ds, _, h => by
    cases h with
    | tup h1 h2 => simpa [D.lo] using reps_lo ds _ h2
  | .lst ds, _, h => by
    cases h with
    | lst h1 h2 => simpa [D.lo] using reps_lo ds _ h2
  | .ref n, _, h => by
    cases h with
    | ref h1 => simpa [D.lo] using (List.getElem?_eq_some_iff.mp h1).1
  | .scr n, _, _ => by simp [D.lo]
  | .dct ks ds, _, h => by
    cases h with
    | dct h1 h2 => simpa [D.lo] using reps_lo ds _ h2
  | .dcu ks ds, _, h => by
    cases h with
    | dcu h1 h2 => simpa [D.lo] using reps_lo ds _ h2
theorem reps_lo {μ : Mp} : ∀ (ds : List D) (vs : List V), Reps K H μ ds vs → D.los μ.cs.length ds = true
  | [], _, _ => by simp [D.los]
  | d :: ds, _, h => by
    cases h with
    | cons h1 h2 => simp only [D.los, Bool.and_eq_true]; exact ⟨rep_lo d _ h1, reps_lo ds _ h2⟩
end
end
theorem cell_lo {K : PySem.W.Frag} {cl : Str → Option Addr} {H : Hp} {cs t av : List Addr} {a : Addr} {c : Cell} (h : CellAt K cl H ⟨cs ++ t, av⟩ a c) (q : c.lo cs.length = true) : CellAt K cl H ⟨cs, av⟩ a c := by
  cases c with
  | lst ds => obtain ⟨vs, e, r⟩ := h; exact ⟨vs, e, lo_reps _ _ r q⟩
  | obj n fs => obtain ⟨C, dx, gs, e1, e2, e3, r⟩ := h; exact ⟨C, dx, gs, e1, e2, e3, lo_reps _ _ r q⟩
theorem cell_is_lo {K : PySem.W.Frag} {cl : Str → Option Addr} {H : Hp} {μ : Mp} {a : Addr} {c : Cell} (h : CellAt K cl H μ a c) : c.lo μ.cs.length = true := by
  cases c with
  | lst ds => obtain ⟨vs, e, r⟩ := h; exact reps_lo _ _ r
  | obj n fs => obtain ⟨C, dx, gs, e1, e2, e3, r⟩ := h; exact reps_lo _ _ r
/-- the cells that were there at the entry -/
theorem tidy_ok {K : PySem.W.Frag} {cl : Str → Option Addr} {H H' : Hp} {μ μ' : Mp} {st st' : Store} (ok : StOk K cl H μ st) (p : Step μ μ' H H') (ok' : StOk K cl H' μ' st') (td : tidy st st') : Step μ μ H H' ∧ StOk K cl H' μ (st'.take st.length) := by
  obtain ⟨t, e, f⟩ := p.ext
  obtain ⟨cs, av⟩ := μ
  subst e
  have s0 : Step ⟨cs, av⟩ ⟨cs, av⟩ H H' := ⟨⟨[], by simp, fun _ z => nomatch z⟩, p.fr, p.dom⟩
  have hlen : cs.length = st.length := ok.len
  refine ⟨s0, by rw [List.length_take]; have := td.1; show cs.length = _; omega, ok.nd, fun n c ec => ?_, fun a ha => ok'.av a ha⟩
  have hn : n < st.length := by
    have := (List.getElem?_eq_some_iff.mp ec).1
    rw [List.length_take] at this
    omega
  rw [List.getElem?_take_of_lt hn] at ec
  obtain ⟨a, e1, c1⟩ := ok'.cell n c ec
  have e1' : (cs ++ t)[n]? = some a := e1
  rw [List.getElem?_append_left (by omega)] at e1'
  refine ⟨a, e1', cell_lo c1 ?_⟩
  rcases td.2 n hn with q | ⟨c2, q, q2⟩
  · rw [ec] at q
    obtain ⟨b, _, c3⟩ := ok.cell n c q.symm
    exact cell_is_lo c3
  · rw [ec] at q
    cases q
    rw [hlen]
    exact q2

/-! ## defs -/
/-- a def keeps its promise where nothing is being written out by repr around it -/
structure Gf (P : Program) (w : World) (K : PySem.W.Frag) (mg : Str → Option Value) (base : Heap) (j : Nat) (f : Addr) (fd : FuncData) (ps : List Str) (sp : Sp) : Prop where
  many : ∀ vs H Q E, sp vs H Q E → vs.length = ps.length
  does : ∀ (A : Around) (callers : List Env) (s : Shared) (H : Hp) (given : Args) (us : List Value) (vs : List V) (Q : VK) (E : XK), Room j A → A.guards = some [] → Env0 P w K mg base A callers s H →
    BindsTo s fd given (ps.zip us) → Vals vs us → sp vs H Q E → codeAny (model P w) A (.call (.ref f) given) (CR (L2.CX P w) callers P w H s Q E) s
def spF (K : PySem.W.Frag) (cl : Str → Option Addr) (n : Nat) (fm : FM) : Sp := fun vs H Q E => vs.length = n ∧ ∃ μ ds st, Reps K H μ ds vs ∧ StOk K cl H μ st ∧
  Aft K cl μ H (fm ds st) (fun d _ μ' H' => ∀ v, Rep K H' μ' d v → Q v H') E
/-- the wish of a body about exceptions -/
def pkOf (cl : Str → Option Addr) (E : XK) : Pk := ⟨cl, fun c od _ H' => E c od H'⟩
theorem body_ok {K : PySem.W.Frag} {cl : Str → Option Addr} {N : List Str} {m : SM} {ds : List D} {vs : List V} {st : Store} {μ : Mp} {H : Hp} {Q : VK} {E : XK} (hl : ds.length = vs.length) (r : Reps K H μ ds vs) (ok : StOk K cl H μ st)
    (h : Aft K cl μ H (runF N.length m ds st) (fun d _ μ' H' => ∀ v, Rep K H' μ' d v → Q v H') E) : lS K (pkOf cl E) m { nx := fun _ H' => Q .non H', rt := Q } (L2.start N vs) H := by
  refine ⟨μ, st, ds.map some ++ List.replicate (N.length - ds.length) none, ?_, ok, ?_⟩
  · unfold L2.start
    rw [← hl]
    exact SlOk.start _ r
  · unfold runF at h
    generalize hm : m (ds.map some ++ List.replicate (N.length - ds.length) none) st = rr at h
    have lv : ∀ {st' : Store} {d : D}, Aft K cl μ H (leave st st' d) (fun d _ μ' H' => ∀ v, Rep K H' μ' d v → Q v H') E → ∀ μ' H' v, Step μ μ' H H' → StOk K cl H' μ' st' → Rep K H' μ' d v → Q v H' := by
      intro st' d h μ' H' v p ok' rv
      unfold leave at h
      split at h
      · rename_i td
        obtain ⟨s0, ok2⟩ := tidy_ok ok p ok' td
        obtain ⟨t, e, f⟩ := p.ext
        subst e
        split at h
        · rename_i hlo
          refine h μ H' s0 ok2 v ?_
          rw [← ok.len] at hlo
          exact lo_rep (cs := μ.cs) (av := μ.av) d v rv hlo
        · split at h
          · rename_i n hlo
            split at h
            · rename_i es ec
              split at h
              · rename_i hes
                obtain ⟨a, us, rfl, e1, e2, r2⟩ := cellAt ok' rv ec
                rw [← ok.len] at hes
                refine h μ H' s0 ok2 _ (.lst ⟨e2, fun z => ?_, fun z => ?_⟩ (lo_reps (cs := μ.cs) (av := μ.av) es us r2 hes))
                · have hn : ¬ n < st.length := by simpa [D.lo] using hlo
                  have e1' : (μ.cs ++ t)[n]? = some a := e1
                  rw [List.getElem?_append_right (by rw [ok.len]; omega)] at e1'
                  obtain ⟨o, ho, _⟩ : ∃ o, H a = some o ∧ True := by
                    obtain ⟨i, hi, ei⟩ := List.getElem_of_mem z
                    have hi2 : i < st.length := by rw [← ok.len]; exact hi
                    obtain ⟨b, eb, cb⟩ := ok.cell i st[i] (List.getElem?_eq_getElem hi2)
                    rw [List.getElem?_eq_getElem hi, ei] at eb
                    cases eb
                    obtain ⟨o, q, _⟩ := cb.there
                    exact ⟨o, q, trivial⟩
                  rw [f a (List.mem_of_getElem? e1')] at ho
                  cases ho
                · have hn : ¬ n < st.length := by simpa [D.lo] using hlo
                  have e1' : (μ.cs ++ t)[n]? = some a := e1
                  rw [List.getElem?_append_right (by rw [ok.len]; omega)] at e1'
                  exact ok.av a z (f a (List.mem_of_getElem? e1'))
              · exact h _ H' p ok' v rv
            · exact h _ H' p ok' v rv
          · exact h _ H' p ok' v rv
      · exact h μ' H' p ok' v rv
    cases rr with
    | no => exact h.elim
    | ex x es' st' =>
      unfold leaveX at h
      intro μ' H' σ c od p ok' _ xo
      simp only at h
      split at h
      · rename_i td
        obtain ⟨s0, ok2⟩ := tidy_ok ok p ok' td.1
        obtain ⟨t, e, f⟩ := p.ext
        subst e
        obtain ⟨C, e1, e2, e3⟩ := xo
        refine h μ H' c od s0 ok2 ⟨C, e1, e2, ?_⟩
        rcases e3 with e3 | ⟨d, gs, e4, e5, e6, e7⟩
        · exact .inl e3
        · refine .inr ⟨d, gs, e4, e5, e6, ?_⟩
          have := td.2
          rw [← ok.len] at this
          exact lo_reps (cs := μ.cs) (av := μ.av) _ _ e7 this
      · exact h μ' H' c od p ok' xo
    | ok fl es' st' =>
      cases fl with
      | nx => exact fun μ' H' σ p ok' _ => lv h μ' H' .non p ok' .non
      | rt d => exact fun μ' H' v p ok' rv => lv h μ' H' v p ok' rv
      | bk => exact h.elim
      | ct => exact h.elim

/-- a def of the text, by its body -/
theorem gf_of {P : Program} {w : World} {K : PySem.W.Frag} {mg : Str → Option Value} {base : Heap} {x qual : Str} {st : Stmt} {f : Addr} {fd : FuncData} {N ps : List Str} {j : Nat} {cl : Str → Option Addr} {m : SM} (F : Fun K x qual st f fd) (S : FnScope N ps (defScope st))
    (body : ∀ (cdv : Value) (A : Around) (callers : List Env) (s : Shared) (H : Hp) (E : XK), Room j (A.deeper (envOfC qual (defScope st) s.heap.objs.size f cdv)) → A.guards = some [] →
      PSs (cxOf (L2.CX P w) P w K mg base N qual (defScope st) f cdv A callers s H E) (defBody st) (lS K (pkOf cl E) m)) :
    Gf P w K mg base (j + 1) f fd ps (spF K cl ps.length (runF N.length m)) := by
  obtain ⟨oc, od, kV, doc, pm, an, cdv, ct, osl, rfl, lk, hcd⟩ := F.ex
  refine ⟨fun vs H Q E h => h.1, fun A callers s H given us vs Q E room hg0 env0 binds rel hsp => ?_⟩
  obtain ⟨hn, μ, ds, st0, rd, ok, h⟩ := hsp
  have KX : K.In s.heap := env0.mod.kin.keeps fun b o e => (env0.bs b o e).1
  have nolim : s.heap.NoLimit := env0.mod.nolimit.keeps fun b o e => (env0.bs b o e).1
  have kinds : ∀ y ∈ ps.zip us, (defScope st).names.lookup y.1 = some .local ∨ ((defScope st).names.lookup y.1 = some .cell ∧ ((cellsFrom (s.heap.objs.size + 1) (defScope st).names []).lookup y.1).isSome = true) := by
    rintro ⟨nm, v⟩ hy
    rcases S.par nm (List.of_mem_zip hy).1 with q | q
    · exact Or.inl q
    · exact Or.inr ⟨q, PySem.W.cellsFrom_some _ _ _ (Or.inl q)⟩
  refine PySem.codeAny_call_function room.depth (KX _ _ lk) rfl S.co S.gen rfl (PySem.W.codeRec_of KX hcd) (binds _ _ _ _ ?_)
  refine wpAny_newFunctionEnv_cells S.kind kinds (fun env he s1 x1 => ?_)
  subst he
  refine ⟨nolim.keeps x1.toInCall.keep, codeAny_func ?_⟩
  have I := inv_start (CX := L2.CX P w) (E := E) S room.hd env0 hn rel x1
  refine wpAny_mono ((body cdv A callers s H E (room.deeper _) hg0).run [] s1 _ H { nx := fun _ H' => Q .non H', rt := Q } I (body_ok rd.length rd ok h)) (fun fl s' hs => ?_) fun e s' hs => hs
  have done : ∀ {σ' : L2.St} {H' : Hp} {v : V} {u : Value}, Inv _ [] σ' H' s' → RelV v u → Q v H' → CE callers P w H s Q u s' := fun {σ' H' v u} (J : Inv (cxOf (L2.CX P w) P w K mg base N qual (defScope st) f cdv A callers s H E) [] σ' H' s') rv q => ⟨v, H', J.os, J.bare, J.base, J.hok, rv, q⟩
  cases fl with
  | next => obtain ⟨σ', H', J, q⟩ := hs; exact done (v := V.non) (u := Value.none) J rfl q
  | ret u => obtain ⟨v, σ', H', J, rv, q⟩ := hs; exact done J rv q
  | brk => obtain ⟨_, _, _, q⟩ := hs; exact q.elim
  | cont => obtain ⟨_, _, _, q⟩ := hs; exact q.elim

noncomputable def mCall (n : Nat) (fm : FM) (mr : AM) (es : Sl) (st : Store) : R D := (mr es st).bind fun ds st1 => if ds.length = n then fm ds st1 else .no
section
variable {X : Cx} {k : Pk} {j n : Nat} {f : Addr} {fd : FuncData} {ps : List Str} {fm : FM} {x : Str} {p pos : Pos} {e : Expr} {es : List Expr} {mr : AM}
/-- the callee, by its promise; what it lets out is what the caller wishes -/
theorem callee {pins : List (Addr × Obj)} {σ : L2.St} {H : Hp} {s : Shared} {Q : VK} {us : List Value} {vs : List V} {sp : Sp} (G : Gf X.prog X.w X.K X.mg X.base j f fd ps sp) (room : Room j X.A) (guards : X.A.guards = some []) (binds : Binds X.K fd ps []) (tk : Takes X k.W)
    (I : Inv X pins σ H s) (rel : Vals vs us) (h : sp vs H Q fun c od H' => k.W c od σ H') : wpAny (model X.prog X.w) X.A (call (.ref f) us) (EP X pins σ Q) X.xe s := by
  have many : (us ++ []).length = ps.length := by rw [List.append_nil, ← rel.length]; exact G.many _ _ _ _ h
  have bound := binds s us I.kIn many
  rw [List.append_nil] at bound
  refine wpAny_call (codeAny_mono (G.does X.A X.stack s H ⟨us, []⟩ us vs Q _ room guards I.env0 bound rel h) fun r s' hq => ?_)
  match r with
  | .error e => exact passAt tk σ pins H s e s' I hq
  | .ok (.ret u) => exact I.after hq
  | .ok .next => exact hq.elim
  | .ok .brk => exact hq.elim
  | .ok .cont => exact hq.elim
theorem zcall (G : Gf X.prog X.w X.K X.mg X.base j f fd ps (spF X.K k.cl n fm)) (room : Room j X.A) (guards : X.A.guards = some []) (hg : Gl X x) (hm : X.mg x = some (.ref f)) (kept : PySem.W.keepIn X.K (.ref f) = true) (binds : Binds X.K fd ps []) (tk : Takes X k.W)
    (ha : PA X (e :: es) (lA X.K k mr)) (nodebug : (x == ("__debug__" : Str)) = false := by decide) (star1 : starEach (e :: es) X.env = (false, eval e X.env) :: starEach es X.env := by rfl)
    (star2 : (backTo pos (starEach es X.env)).any (·.1) = false := by rfl) : PE X (.Call (.Name x p) (e :: es) [] pos) (lE X.K k (mCall n fm mr)) := by
  constructor
  intro pins s σ H Q I h
  obtain ⟨μ, st, el, so, ok, h⟩ := h
  have args := ha.run pos pins s σ H (fun vs H1 => spF X.K k.cl n fm vs H1 Q fun c od H' => k.W c od σ H') I ⟨μ, st, el, so, ok, Aft.mono (Aft.bind h) (fun ds st1 μ1 H1 p1 ok1 h1 vs rv => by
    split at h1
    · rename_i hn
      exact ⟨by rw [← rv.length]; exact hn, μ1, ds, st1, rv, ok1, h1⟩
    · exact h1.elim) fun _ _ _ z => z⟩
  exact wpAny_Call_Name_kw (ld_glob I hg hm (PySem.W.callWith_K (h₀ := X.base) I.ok.mod.kin kept (thn args fun us s1 ⟨vs, H1, I1, rv, q⟩ => ⟨I1.kIn, callee G room guards binds tk I1 rv q⟩) star1 star2) nodebug)
end
end Zv
namespace Zv
open PySem PySem.Spec L2

/-! ## data as the model's own data -/
mutual
def D.py : D → Option PyData
  | .non => some .none
  | .bl b => some (.bool b)
  | .int i => some (.int i)
  | .str s => some (.str s)
  | .tup xs => (D.pys xs).map .tuple
  | .lst xs => (D.pys xs).map .list
  | .ref _ => none
  | .scr ns => some (.list (ns.map .int))
  | .dct _ _ => none
  | .dcu _ _ => none
def D.pys : List D → Option (List PyData)
  | [] => some []
  | x :: xs => (x.py).bind fun p => (D.pys xs).map fun ps => p :: ps
end
def D.pyS (st : Store) : D → Option PyData
  | .ref n => match st[n]? with
    | some (.lst xs) => (D.pys xs).map .list
    | _ => none
  | d => d.py
theorem dp_ints {K : PySem.W.Frag} {H : Hp} : ∀ ns : List Int, DpAll K H (ns.map V.int) (ns.map PyData.int)
  | [] => .nil
  | n :: ns => .cons (.int n) (dp_ints ns)
section
variable {K : PySem.W.Frag} {H : Hp} {μ : Mp}
mutual
theorem py_dp : ∀ (d : D) (v : V) (p : PyData), Rep K H μ d v → d.py = some p → Dp K H v p
  | .non, _, _, h, e => by cases h; simp only [D.py, Option.some.injEq] at e; subst e; exact .non
  | .bl b, _, _, h, e => by cases h; simp only [D.py, Option.some.injEq] at e; subst e; exact .bl b
  | .int i, _, _, h, e => by cases h; simp only [D.py, Option.some.injEq] at e; subst e; exact .int i
  | .str s, _, _, h, e => by cases h; simp only [D.py, Option.some.injEq] at e; subst e; exact .str s
  | .tup ds, _, _, h, e => by
    cases h with
    | tup h1 h2 =>
      simp only [D.py, Option.map_eq_some_iff] at e
      obtain ⟨ps, e1, rfl⟩ := e
      exact .tup h1.sq (pys_dp ds _ ps h2 e1)
  | .lst ds, _, _, h, e => by
    cases h with
    | lst h1 h2 =>
      simp only [D.py, Option.map_eq_some_iff] at e
      obtain ⟨ps, e1, rfl⟩ := e
      exact .lst h1.sq (pys_dp ds _ ps h2 e1)
  | .ref n, _, _, _, e => by simp [D.py] at e
  | .scr ns, _, _, h, e => by
    cases h with
    | scr h1 => simp only [D.py, Option.some.injEq] at e; subst e; exact .lst h1.sq (dp_ints ns)
  | .dct _ _, _, _, _, e => by simp [D.py] at e
  | .dcu _ _, _, _, _, e => by simp [D.py] at e
theorem pys_dp : ∀ (ds : List D) (vs : List V) (ps : List PyData), Reps K H μ ds vs → D.pys ds = some ps → DpAll K H vs ps
  | [], _, _, h, e => by cases h; simp only [D.pys, Option.some.injEq] at e; subst e; exact .nil
  | d :: ds, _, _, h, e => by
    cases h with
    | cons h1 h2 =>
      simp only [D.pys, Option.bind_eq_some_iff, Option.map_eq_some_iff] at e
      obtain ⟨p, e1, ps, e2, rfl⟩ := e
      exact .cons (py_dp d _ p h1 e1) (pys_dp ds _ ps h2 e2)
end
theorem pyS_dp {cl : Str → Option Addr} {st : Store} {d : D} {v : V} {p : PyData} (ok : StOk K cl H μ st) (h : Rep K H μ d v) (e : d.pyS st = some p) : Dp K H v p := by
  cases d with
  | ref n =>
    unfold D.pyS at e
    simp only at e
    split at e
    · rename_i xs e0
      obtain ⟨a, vs, rfl, e1, e2, r2⟩ := cellAt ok h e0
      simp only [Option.map_eq_some_iff] at e
      obtain ⟨ps, e3, rfl⟩ := e
      exact .lst (.inl (.inl e2)) (pys_dp _ _ _ r2 e3)
    · cases e
  | _ => exact py_dp _ _ _ h e
end

/-! ## == -/
def dEqP (st : Store) (x y : D) : Option Bool := (x.pyS st).bind fun p => (y.pyS st).bind fun q => if SeqAt.shaped p = true ∧ SeqAt.shaped q = true then some (PyData.eqv p q) else none
def dEqB : Store → D → D → Option Bool
  | _, .int a, .int b => some (decide (a = b))
  | _, .str a, .str b => some (decide (a = b))
  | st, x, y => dEqP st x y
def dEq : F2 := fun st x y => (dEqB st x y).map .bl
def dNe : F2 := fun st x y => (dEqB st x y).map fun b => .bl (!b)
section
variable {Y : Cx} {cl : Str → Option Addr}
theorem zo_eq (hu : Y.A.units + 64 < cLine) : OpR Y (compareOp .Eq) (rZ Y.K cl dEq) := OpR.imp (op_eq.or (op_eqD hu)) fun x y H Q h => by
  obtain ⟨μ, st, dx, dy, d, rx, ry, ok, e, q⟩ := h
  unfold dEq at e
  obtain ⟨b, eb, rfl⟩ := Option.map_eq_some_iff.mp e
  have fin : Q (.bl b) H := q _ H (Step.refl _ _) ok (.bl b)
  unfold dEqB at eb
  split at eb
  · cases eb
    cases rx
    cases ry
    exact .inl ⟨rfl, by rw [show decide (V.int _ = V.int _) = decide _ from decide_eq_decide.mpr (by rw [V.int.injEq])]; exact fin⟩
  · cases eb
    cases rx
    cases ry
    exact .inl ⟨rfl, by rw [show decide (V.str _ = V.str _) = decide _ from decide_eq_decide.mpr (by rw [V.str.injEq])]; exact fin⟩
  · unfold dEqP at eb
    simp only [Option.bind_eq_some_iff] at eb
    obtain ⟨p, e1, p2, e2, e3⟩ := eb
    split at e3
    · rename_i hs
      cases e3
      exact .inr ⟨p, p2, pyS_dp ok rx e1, pyS_dp ok ry e2, hs.1, hs.2, fin⟩
    · cases e3
theorem zo_ne (hu : Y.A.units + 64 < cLine) : OpR Y (compareOp .NotEq) (rZ Y.K cl dNe) := OpR.imp (op_ne.or (op_neD hu)) fun x y H Q h => by
  obtain ⟨μ, st, dx, dy, d, rx, ry, ok, e, q⟩ := h
  unfold dNe at e
  obtain ⟨b, eb, rfl⟩ := Option.map_eq_some_iff.mp e
  have fin : Q (.bl (!b)) H := q _ H (Step.refl _ _) ok (.bl (!b))
  unfold dEqB at eb
  split at eb
  · cases eb
    cases rx
    cases ry
    exact .inl ⟨rfl, by rw [show decide (V.int _ = V.int _) = decide _ from decide_eq_decide.mpr (by rw [V.int.injEq])]; exact fin⟩
  · cases eb
    cases rx
    cases ry
    exact .inl ⟨rfl, by rw [show decide (V.str _ = V.str _) = decide _ from decide_eq_decide.mpr (by rw [V.str.injEq])]; exact fin⟩
  · unfold dEqP at eb
    simp only [Option.bind_eq_some_iff] at eb
    obtain ⟨p, e1, p2, e2, e3⟩ := eb
    split at e3
    · rename_i hs
      cases e3
      exact .inr ⟨p, p2, pyS_dp ok rx e1, pyS_dp ok ry e2, hs.1, hs.2, fin⟩
    · cases e3

/-! ## x in xs -/
def dIn (neg : Bool) : F2 := fun st x y => (x.py).bind fun p => match y.pyS st with
  | some (.list ps) => if SeqAt.shaped p = true ∧ SeqAt.shaped (.list ps) = true then some (.bl (if neg then !(ps.any fun z => PyData.eqv z p) else ps.any fun z => PyData.eqv z p)) else none
  | _ => none
theorem zo_in (hu : Y.A.units + 65 < cLine) : OpR Y (compareOp .In) (rZ Y.K cl (dIn false)) := OpR.imp (op_inD hu) fun x y H Q h => by
  obtain ⟨μ, st, dx, dy, d, rx, ry, ok, e, q⟩ := h
  unfold dIn at e
  simp only [Option.bind_eq_some_iff] at e
  obtain ⟨p, e1, e2⟩ := e
  split at e2
  · rename_i ps e3
    split at e2
    · rename_i hs
      cases e2
      exact ⟨p, ps, py_dp _ _ _ rx e1, pyS_dp ok ry e3, hs.1, hs.2, q _ H (Step.refl _ _) ok (.bl _)⟩
    · cases e2
  · cases e2
theorem zo_notin (hu : Y.A.units + 65 < cLine) : OpR Y (compareOp .NotIn) (rZ Y.K cl (dIn true)) := OpR.imp (op_notInD hu) fun x y H Q h => by
  obtain ⟨μ, st, dx, dy, d, rx, ry, ok, e, q⟩ := h
  unfold dIn at e
  simp only [Option.bind_eq_some_iff] at e
  obtain ⟨p, e1, e2⟩ := e
  split at e2
  · rename_i ps e3
    split at e2
    · rename_i hs
      cases e2
      exact ⟨p, ps, py_dp _ _ _ rx e1, pyS_dp ok ry e3, hs.1, hs.2, q _ H (Step.refl _ _) ok (.bl _)⟩
    · cases e2
  · cases e2

/-! ## x[i] -/
def dIx : F2
  | _, .tup xs, .int i => atI xs i
  | _, .scr ns, .int i => (atI ns i).map .int
  | _, .str z, .int i => if z.length ≤ sizeLine then (atI z.cps.toList i).map fun c => .str ⟨#[c]⟩ else none
  | st, x, .int i => (x.items st).bind fun xs => atI xs i
  | _, _, _ => none
theorem atI_rep {K : PySem.W.Frag} {H : Hp} {μ : Mp} {ds : List D} {vs : List V} {i : Int} {d : D} (r : Reps K H μ ds vs) (e : atI ds i = some d) : ∃ v, atI vs i = some v ∧ Rep K H μ d v := by
  unfold atI at e ⊢
  obtain ⟨j, e1, e2⟩ := Option.bind_eq_some_iff.mp e
  obtain ⟨v, e3, rv⟩ := r.get e2
  exact ⟨v, by rw [← r.length, e1]; exact e3, rv⟩
theorem zo_ix : IxR Y (rZ Y.K cl dIx) := IxR.imp ix_seq fun x y H Q h => by
  obtain ⟨μ, st, dx, dy, d, rx, ry, ok, e, q⟩ := h
  unfold dIx at e
  split at e
  · cases rx with
    | tup h1 h2 =>
      cases ry
      obtain ⟨v, e1, rv⟩ := atI_rep h2 e
      exact .inr (.inl ⟨_, _, _, v, rfl, rfl, h1.sq, e1, q v H (Step.refl _ _) ok rv⟩)
  · cases rx with
    | scr h1 =>
      cases ry
      obtain ⟨n, e1, rfl⟩ := Option.map_eq_some_iff.mp e
      refine .inl ⟨_, _, _, .int n, rfl, rfl, h1.sq, ?_, q _ H (Step.refl _ _) ok (.int n)⟩
      unfold atI at e1 ⊢
      obtain ⟨j, e2, e3⟩ := Option.bind_eq_some_iff.mp e1
      rw [List.length_map, e2]
      show (List.map V.int _)[j]? = _
      rw [List.getElem?_map, e3]
      rfl
  · cases rx
    cases ry
    split at e
    · rename_i hz
      obtain ⟨c, e1, rfl⟩ := Option.map_eq_some_iff.mp e
      exact .inr (.inr ⟨_, _, c, rfl, rfl, hz, e1, q _ H (Step.refl _ _) ok (.str _)⟩)
    · cases e
  · obtain ⟨xs, e1, e2⟩ := Option.bind_eq_some_iff.mp e
    cases ry
    obtain ⟨a, vs, rfl, ea, ra⟩ := items_at ok rx e1
    obtain ⟨v, e3, rv⟩ := atI_rep ra e2
    exact .inl ⟨_, _, _, v, rfl, rfl, .inl (.inl ea), e3, q v H (Step.refl _ _) ok rv⟩
  · cases e
end
section
variable {X : Cx} {k : Pk} {a b : Expr} {ma mb : EM} {pos : Pos}
theorem zix (ha : PE X a (lE X.K k ma)) (hb : PE X b (lE X.K k mb)) (hs : PlainIx b := by exact fun _ _ => rfl) : PE X (.Subscript a b pos) (lE X.K k (mOp dIx ma mb)) := PE.imp (pe_ix (zo_ix (cl := k.cl)) ha hb hs) fun _ _ _ h => lOp (fun _ _ _ _ z => z) h
end

/-! ## builtins -/
section
variable {Y : Cx} {cl : Str → Option Addr}
def bInt : Fn := fun ds _ => match ds with
  | [.int i] => some (.int i)
  | [.bl b] => some (.int (if b then 1 else 0))
  | _ => none
theorem zb_int : CallR Y (.type "int") (rCZ Y.K cl bInt) := CallR.imp call_int1 fun xs H Q h => by
  obtain ⟨μ, st, ds, d, r, ok, e, q⟩ := h
  unfold bInt at e
  split at e
  · cases e
    cases r with
    | cons r1 r2 => cases r1; cases r2; exact .inl ⟨_, rfl, q _ H (Step.refl _ _) ok (.int _)⟩
  · cases e
    cases r with
    | cons r1 r2 => cases r1; cases r2; exact .inr ⟨_, rfl, q _ H (Step.refl _ _) ok (.int _)⟩
  · cases e
def bLen : Fn := fun ds st => match ds with
  | [.tup xs] => some (.int xs.length)
  | [.scr xs] => some (.int xs.length)
  | [.str z] => if z.length ≤ sizeLine then some (.int z.length) else none
  | [d] => (d.items st).map fun xs => .int xs.length
  | _ => none
theorem zb_len : CallR Y (.builtin "len") (rCZ Y.K cl bLen) := CallR.imp (CallR.or call_len_seq call_len_str) fun xs H Q h => by
  obtain ⟨μ, st, ds, d, r, ok, e, q⟩ := h
  unfold bLen at e
  split at e
  · cases e
    cases r with
    | cons r1 r2 =>
      cases r2
      cases r1 with
      | tup h1 h2 => exact .inl ⟨_, _, rfl, .inr h1.sq, by rw [← h2.length]; exact q _ H (Step.refl _ _) ok (.int _)⟩
  · cases e
    cases r with
    | cons r1 r2 =>
      cases r2
      cases r1 with
      | scr h1 => exact .inl ⟨_, _, rfl, .inl h1.sq, by rw [List.length_map]; exact q _ H (Step.refl _ _) ok (.int _)⟩
  · split at e
    · cases e
      cases r with
      | cons r1 r2 => cases r2; cases r1; exact .inr ⟨_, rfl, by assumption, q _ H (Step.refl _ _) ok (.int _)⟩
    · cases e
  · obtain ⟨xs, e1, rfl⟩ := Option.map_eq_some_iff.mp e
    cases r with
    | cons r1 r2 =>
      cases r2
      obtain ⟨a, vs, rfl, ea, ra⟩ := items_at ok r1 e1
      exact .inl ⟨_, _, rfl, .inl (.inl (.inl ea)), by rw [← ra.length]; exact q _ H (Step.refl _ _) ok (.int _)⟩
  · cases e
def bAbs : Fn := fun ds _ => match ds with
  | [.int i] => some (.int (if i < 0 then -i else i))
  | _ => none
theorem zb_abs : CallR Y (.builtin "abs") (rCZ Y.K cl bAbs) := CallR.imp call_abs fun xs H Q h => by
  obtain ⟨μ, st, ds, d, r, ok, e, q⟩ := h
  unfold bAbs at e
  split at e
  · cases e
    cases r with
    | cons r1 r2 => cases r1; cases r2; exact ⟨_, rfl, q _ H (Step.refl _ _) ok (.int _)⟩
  · cases e
def bMin : Fn := fun ds _ => match ds with
  | [.int i, .int j] => some (.int (if j < i then j else i))
  | _ => none
theorem zb_min (hc : Y.calm = true) : CallR Y (.builtin "min") (rCZ Y.K cl bMin) := CallR.imp (call_min2 hc) fun xs H Q h => by
  obtain ⟨μ, st, ds, d, r, ok, e, q⟩ := h
  unfold bMin at e
  split at e
  · cases e
    cases r with
    | cons r1 r2 =>
      cases r1
      cases r2 with
      | cons r3 r4 => cases r3; cases r4; exact ⟨_, _, rfl, q _ H (Step.refl _ _) ok (.int _)⟩
  · cases e
def bMax : Fn := fun ds _ => match ds with
  | [.int i, .int j] => some (.int (if j > i then j else i))
  | _ => none
theorem zb_max (hc : Y.calm = true) : CallR Y (.builtin "max") (rCZ Y.K cl bMax) := CallR.imp (call_max2 hc) fun xs H Q h => by
  obtain ⟨μ, st, ds, d, r, ok, e, q⟩ := h
  unfold bMax at e
  split at e
  · cases e
    cases r with
    | cons r1 r2 =>
      cases r1
      cases r2 with
      | cons r3 r4 => cases r3; cases r4; exact ⟨_, _, rfl, q _ H (Step.refl _ _) ok (.int _)⟩
  · cases e
/-- the ints of a list -/
def intsOf : List D → Option (List Int)
  | [] => some []
  | .int i :: ds => (intsOf ds).map fun ns => i :: ns
  | _ :: _ => none
theorem intsOf_map : ∀ {ds : List D} {ns : List Int}, intsOf ds = some ns → ds = ns.map .int
  | [], _, h => by cases h; rfl
  | .int i :: ds, _, h => by
    obtain ⟨ns, e, rfl⟩ := Option.map_eq_some_iff.mp h
    rw [intsOf_map e]
    rfl
  | .non :: _, _, h => nomatch h
  | .bl _ :: _, _, h => nomatch h
  | .str _ :: _, _, h => nomatch h
  | .tup _ :: _, _, h => nomatch h
  | .lst _ :: _, _, h => nomatch h
  | .ref _ :: _, _, h => nomatch h
  | .scr _ :: _, _, h => nomatch h
@[simp] theorem intsOf_ints : ∀ ns : List Int, intsOf (ns.map .int) = some ns
  | [] => rfl
  | n :: ns => by show (intsOf (ns.map .int)).map _ = _; rw [intsOf_ints ns]; rfl
theorem reps_of_ints {K : PySem.W.Frag} {H : Hp} {μ : Mp} : ∀ {ns : List Int} {vs : List V}, Reps K H μ (ns.map .int) vs → vs = ns.map V.int
  | [], _, h => by cases h; rfl
  | n :: ns, _, h => by
    cases h with
    | cons h1 h2 => cases h1; rw [reps_of_ints h2]; rfl
def bSum : Fn := fun ds st => match ds with
  | [d] => (d.items st).bind fun xs => (intsOf xs).map fun ns => .int ns.sum
  | _ => none
theorem zb_sum (hc : Y.calm = true) : CallR Y (.builtin "sum") (rCZ Y.K cl bSum) := CallR.imp (cr_sum hc) fun xs H Q h => by
  obtain ⟨μ, st, ds, d, r, ok, e, q⟩ := h
  unfold bSum at e
  split at e
  · simp only [Option.bind_eq_some_iff, Option.map_eq_some_iff] at e
    obtain ⟨ys, e1, ns, e2, rfl⟩ := e
    cases r with
    | cons r1 r2 =>
      cases r2
      obtain ⟨a, vs, rfl, ea, ra⟩ := items_at ok r1 e1
      rw [intsOf_map e2] at ra
      rw [reps_of_ints ra] at ea
      exact ⟨a, ns, rfl, .inl (.inl ea), q _ H (Step.refl _ _) ok (.int _)⟩
  · cases e
def bTuple : Fn := fun ds st => match ds with
  | [.tup xs] => some (.tup xs)
  | [.scr ns] => some (.tup (ns.map .int))
  | [d] => (d.items st).map .tup
  | _ => none
theorem zb_tuple : CallR Y (.type "tuple") (rCZ Y.K cl bTuple) := CallR.imp call_tuple_of fun xs H Q h => by
  obtain ⟨μ, st, ds, d, r, ok, e, q⟩ := h
  unfold bTuple at e
  split at e
  · cases e
    cases r with
    | cons r1 r2 =>
      cases r2
      cases r1 with
      | tup h1 h2 => exact ⟨_, _, rfl, .inr ⟨h1.sq, q _ H (Step.refl _ _) ok (.tup h1 h2)⟩⟩
  · cases e
    cases r with
    | cons r1 r2 =>
      cases r2
      cases r1 with
      | scr h1 =>
        refine ⟨_, _, rfl, .inl ⟨h1.sq, fun l hl => ?_⟩⟩
        obtain ⟨a, b, c⟩ := zmadeT ok (reps_ints _) hl
        exact q _ _ a b c
  · obtain ⟨ys, e1, rfl⟩ := Option.map_eq_some_iff.mp e
    cases r with
    | cons r1 r2 =>
      cases r2
      obtain ⟨a, vs, rfl, ea, ra⟩ := items_at ok r1 e1
      refine ⟨_, _, rfl, .inl ⟨.inl (.inl ea), fun l hl => ?_⟩⟩
      obtain ⟨a, b, c⟩ := zmadeT ok ra hl
      exact q _ _ a b c
  · cases e
def bList : Fn := fun ds st => match ds with
  | [.tup xs] => some (.lst xs)
  | [.scr ns] => some (.lst (ns.map .int))
  | [d] => (d.items st).map .lst
  | _ => none
theorem zb_list : CallR Y (.type "list") (rCZ Y.K cl bList) := CallR.imp call_list_of fun xs H Q h => by
  obtain ⟨μ, st, ds, d, r, ok, e, q⟩ := h
  unfold bList at e
  split at e
  · cases e
    cases r with
    | cons r1 r2 =>
      cases r2
      cases r1 with
      | tup h1 h2 =>
        refine ⟨_, _, rfl, .inr h1.sq, fun l hl => ?_⟩
        obtain ⟨a, b, c⟩ := zmadeL ok h2 hl
        exact q _ _ a b c
  · cases e
    cases r with
    | cons r1 r2 =>
      cases r2
      cases r1 with
      | scr h1 =>
        refine ⟨_, _, rfl, .inl h1.sq, fun l hl => ?_⟩
        obtain ⟨a, b, c⟩ := zmadeL ok (reps_ints _) hl
        exact q _ _ a b c
  · obtain ⟨ys, e1, rfl⟩ := Option.map_eq_some_iff.mp e
    cases r with
    | cons r1 r2 =>
      cases r2
      obtain ⟨a, vs, rfl, ea, ra⟩ := items_at ok r1 e1
      refine ⟨_, _, rfl, .inl (.inl (.inl ea)), fun l hl => ?_⟩
      obtain ⟨a, b, c⟩ := zmadeL ok ra hl
      exact q _ _ a b c
  · cases e

/-! ## repr -/
def bRepr : Fn := fun ds st => match ds with
  | [d] => (d.pyS st).bind fun p => if p.showable = true ∧ p.hasDict = false ∧ p.depth ≤ 64 ∧ p.shown.length ≤ sizeLine then some (.str p.shown) else none
  | _ => none
theorem zb_repr (hg : Y.A.guards = some []) (hu : Y.A.units + 80 < cLine) : CallR Y (.builtin "repr") (rCZ Y.K cl bRepr) := by
  intro pins s σ H xs us Q I rx h
  obtain ⟨μ, st, ds, d, r, ok, e, q⟩ := h
  unfold bRepr at e
  split at e
  · simp only [Option.bind_eq_some_iff] at e
    obtain ⟨p, e1, e2⟩ := e
    split at e2
    · rename_i hs
      cases e2
      cases r with
      | cons r1 r2 =>
        cases r2
        cases rx with
        | cons rv rt =>
          cases rt
          have hdp := pyS_dp ok r1 e1
          obtain ⟨as, rd⟩ := Dp.reads I p _ _ hdp rv
          have fin : ∀ {s' : Shared}, Inv Y pins σ H s' → ∀ u, EP Y pins σ Q (.str p.shown u) s' := fun I' u => ⟨.str p.shown, H, I', ⟨u, rfl⟩, q _ H (Step.refl _ _) ok (.str _)⟩
          cases hdp with
          | non => cases rv; exact PySem.P.repr_of_none (fin (I.tok _) _)
          | bl b => cases rv; exact PySem.P.repr_of_bool (fin (I.tok _) _)
          | int i => obtain ⟨t, rfl⟩ := rv; exact PySem.P.repr_of_int (by simpa [PyData.showable] using hs.1) (fin (I.tok _) _)
          | str z => obtain ⟨t, rfl⟩ := rv; exact PySem.P.repr_of_str (fin (I.tok _) _) (by simpa [PyData.shown] using hs.2.2.2)
          | lst h1 h2 =>
            cases rv
            exact repr_of_reads' rd hs.1 (PyData.noDict_hsm hs.2.1) hg (by have := hs.2.2.1; omega) (fun _ _ z => z) (fun h' u tk k => fin (I.kept k) u) hs.2.2.2
          | tup h1 h2 =>
            cases rv
            exact repr_of_reads' rd hs.1 (PyData.noDict_hsm hs.2.1) hg (by have := hs.2.2.1; omega) (fun _ _ z => z) (fun h' u tk k => fin (I.kept k) u) hs.2.2.2
    · cases e2
  · cases e
end
end Zv
namespace Zv
open PySem PySem.Spec L2 PyProof.Rows

/-- the law's def is called on the script -/
theorem lawRun {P : Program} {w : World} {K : PySem.W.Frag} {mg mb : Str → Option Value} {cl : Str → Option Addr} {j : Nat} {fa a : Addr} {fd : FuncData} {fm : FM} {sh : Shared} {vs : List Value} {ns : List Int}
    (inK : K.In sh.heap) (globs : sh.heap.Ns mainGlobals mg) (blts : sh.heap.Ns builtinsNs mb) (blt : ∀ y : Str, y ≠ "__name__" → mb y = bootBuiltins y) (nolim : sh.heap.NoLimit) (gens : sh.gens = #[])
    (obj : sh.heap.get? a = some { cls := .type "list", data := .seq vs.toArray }) (isI : IntsAre vs ns) (few : ns.length ≤ sizeLine) (room : Room j callerA)
    (G : ∀ base : Heap, K.In base → base.Ns mainGlobals mg → Gf P w K mg base j fa fd ["script"] (spF K cl 1 fm)) (bind : ∀ (s : Shared) (u : Value), BindsTo s fd ⟨[u], []⟩ [("script", u)]) (yes : fm [.scr ns] [] = .ok (.bl true) []) :
    codeAny (model P w) callerA (.call (.ref fa) ⟨[.ref a], []⟩) (fun r s' => r = .ok (.ret (.bool true)) ∧ OldK sh.heap s'.heap ∧ s'.os = sh.os ∧ AllBare s'.gens) sh := by
  have rel := vals_ints isI
  have same := isI.length
  -- what is tracked: the script, unless it is one of the module's own objects
  obtain ⟨H, hH, hok, only, apart⟩ : ∃ H : Hp, ScrAt K H ⟨[], []⟩ a (ns.map V.int) ∧ HOk P w H sh.heap ∧ (∀ b u, H b = some u → b = a ∧ ∃ o xs, u = .frz o (.lst xs)) ∧ (∀ b u, H b = some u → K.lookup b = none) := by
    cases hk : K.lookup a with
    | some o =>
      have e := inK a o hk
      rw [obj] at e
      cases e
      refine ⟨fun _ => none, .inr ⟨_, vs.toArray, _, hk, rfl, rfl, rfl, by rw [List.size_toArray, same]; exact few, by simpa using rel⟩, fun b u z => ?_, fun b u z => ?_, fun b u z => ?_⟩
      all_goals
        have z' : (none : Option HO) = some u := z
        cases z'
    | none =>
      refine ⟨fun b => if b = a then some (.frz { cls := .type "list", data := .seq vs.toArray } (.lst (ns.map V.int))) else none, .inl ⟨.inr ⟨_, if_pos rfl⟩, List.not_mem_nil, List.not_mem_nil⟩, fun b u z => ?_, fun b u z => ?_, fun b u z => ?_⟩
      all_goals
        simp only at z
        split at z
        · rename_i hb
          subst hb
          cases z
          first
            | exact ⟨obj, by rw [List.length_map]; exact few, vs, _, rel, obj⟩
            | exact ⟨rfl, _, _, rfl⟩
            | exact hk
        · cases z
  have free : ∀ {b : Addr} {o : Obj} {m1 : Array DictEntry} {n1 : Nat}, sh.heap.get? b = some o → o.data = .dict m1 n1 → H b = none := by
    intro b o m1 n1 e d
    cases q : H b with
    | none => rfl
    | some u =>
      obtain ⟨rfl, _⟩ := only b u q
      rw [obj] at e
      cases e
      exact Data.noConfusion (show Data.seq vs.toArray _ = Data.dict m1 n1 from d)
  have spaces : ∀ {b : Addr} {m : Str → Option Value}, sh.heap.Ns b m → (hidT sh.heap H).Ns b m := by
    rintro b m ⟨o, m1, n1, e, d, r⟩
    exact ⟨o, m1, n1, hidT_get e (free e d), d, r⟩
  have inB : K.In (hidT sh.heap H) := fun b o e => hidT_get (inK b o e) (by
    cases q : H b with
    | none => rfl
    | some u => rw [apart b u q] at e; cases e)
  have mod : Mod K mg (hidT sh.heap H) := by
    obtain ⟨mc, h1, h2⟩ := nolim
    exact ⟨inB, spaces globs, ⟨mb, spaces blts, blt⟩, ⟨mc, spaces h1, h2⟩⟩
  have env0 : Env0 P w K mg (hidT sh.heap H) callerA [] sh H := ⟨rfl, mod, fun b o e => of_hidT e, Nat.le_of_eq (hidT_size _ _), trivial, (by intro b hb; cases hb), hok, .of_eq gens⟩
  have step0 : spF K cl 1 fm [.ref a] H (fun v _ => v = .bl true) fun _ _ _ => False := by
    refine ⟨rfl, ⟨[], []⟩, [.scr ns], [], .cons (.scr hH) .nil, ⟨rfl, List.nodup_nil, (by intro n c e; cases e), (by intro b hb; cases hb)⟩, ?_⟩
    rw [yes]
    intro μ' H' _ _ v r
    cases r
    rfl
  refine codeAny_mono ((G _ inB (spaces globs)).does callerA [] sh H ⟨[.ref a], []⟩ [.ref a] [.ref a] _ _ room rfl env0 (bind sh (.ref a)) (.cons rfl .nil) step0) fun r s' h => ?_
  match r with
  | .error e =>
    obtain ⟨_, _, _, _, _, _, _, _, _, _, _, _, z⟩ := h
    exact z.elim
  | .ok .next => exact h.elim
  | .ok .brk => exact h.elim
  | .ok .cont => exact h.elim
  | .ok (.ret u) =>
    obtain ⟨v, H', os, bare, un, hok', r', q⟩ := h
    subst q
    obtain rfl : u = Value.bool true := r'
    refine ⟨rfl, OldK.of_keep fun b o e => ?_, os, bare⟩
    cases q : H b with
    | none => exact un.keep b o e q (by intro z; cases z) (by intro z; cases z)
    | some u =>
      obtain ⟨_, o2, xs, rfl⟩ := only b u q
      obtain ⟨e1, _⟩ := hok b _ q
      obtain ⟨e2, _⟩ := hok' b _ (un.frzs b o2 _ q)
      rw [e] at e1
      cases e1
      exact e2
theorem zwalk {l : PySem.W.OpenLaw} {q : Program} {loose : List Str} {XP : (Str → Option Value) → Heap → Prop} {YP : World → Heap → Prop} {d : DefRec} {K : Params → PySem.W.Frag} (j : Nat) (fm : FM) (most : l.most = some 63) (nodef : d.params.defaults = []) (hj : j ≤ 200)
    (inK : ∀ (w : World) (h : Heap), YP w h → (K w.params).In h) (yes : ∀ ns : List Int, ns.length ≤ 63 → fm [.scr ns] [] = .ok (.bl true) [])
    (F : ∀ (w : World) (mg : Str → Option Value) (fa : Addr) (h : Heap), (K w.params).In h → h.Ns mainGlobals mg → mg d.name = some (.ref fa) →
      ∃ (fd : FuncData) (cl : Str → Option Addr), (∀ (s : Shared) (u : Value), BindsTo s fd ⟨[u], []⟩ [("script", u)]) ∧ ∀ base : Heap, (K w.params).In base → base.Ns mainGlobals mg → Gf l.prog w (K w.params) mg base j fa fd ["script"] (spF (K w.params) cl 1 fm)) :
    PySem.W.WalkO q loose XP YP l.row.toRowW d [] (fun f vs => PySem.call f vs) := by
  refine Att.attach_call most nodef fun w s₀ s₁ mg mb fa o pm cd doc a vs ns G Y ho hd hcd hmg hobj hints hlen hg => ?_
  obtain ⟨fd, cl, bind, run⟩ := F w mg fa _ (inK w _ Y) G.T.g hmg
  refine lawRun (inK w _ Y) G.T.g G.T.b G.T.builtins G.T.nolimit hg hobj hints (Nat.le_trans hlen (by decide)) ⟨rfl, ?_, ?_⟩ run bind (yes ns hlen)
  · show 1 + claimMargin + 3 * j + 5 < recursionLimit
    have : 1 + claimMargin + 3 * 200 + 5 < recursionLimit := by decide
    omega
  · show 4 + 16 * j + 200 < cLine
    have : 4 + 16 * 200 + 200 < cLine := by decide
    omega
end Zv
namespace Zv
open PySem PySem.Spec L2 PyProof.Rows
section
variable {X : Cx} {k : Pk} {a b c : Expr} {ma mb mc : EM} {pos : Pos}
/-! ## a op b op c -/
def mChain (f g : F2) (ma mb mc : EM) (es : Sl) (st : Store) : R D := (ma es st).bind fun x st1 => (mb es st1).bind fun y st2 => (R.ofO (f st2 x y) st2).bind fun d st3 => match d with
  | .bl true => (mc es st3).bind fun z st4 => R.ofO (g st4 y z) st4
  | .bl false => .ok (.bl false) st3
  | _ => .no
theorem lChain {f g : F2} {σ : L2.St} {H : Hp} {Q : VK} (h : lE X.K k (mChain f g ma mb mc) σ H Q) : tChain (rZ X.K k.cl f) (rZ X.K k.cl g) (lE X.K k ma) (lE X.K k mb) (lE X.K k mc) σ H Q := by
  obtain ⟨μ, st, es, so, ok, h⟩ := h
  refine ⟨μ, st, es, so, ok, Aft.mono (Aft.bind h) (fun x st1 μ1 H1 p1 ok1 h1 v rv => ?_) fun _ _ _ z => z⟩
  refine ⟨μ1, st1, es, so.step p1, ok1, Aft.mono (Aft.bind h1) (fun y st2 μ2 H2 p2 ok2 h2 u ru => ?_) fun _ _ _ z => z⟩
  have so2 := (so.step p1).step p2
  generalize hd : f st2 x y = o at h2
  cases o with
  | none => exact h2.elim
  | some d =>
    simp only [R.ofO_some, R.bind_ok] at h2
    refine ⟨μ2, st2, x, y, d, p2.rep _ _ rv, ru, ok2, hd, fun w H' p ok' rw' => ?_⟩
    split at h2
    · cases rw'
      refine ⟨true, rfl, ?_⟩
      rw [if_pos rfl]
      refine ⟨μ2, st2, es, so2.step p, ok', Aft.mono (Aft.bind (Aft.step p h2)) (fun z st4 μ4 H4 p4 ok4 h4 w rw4 => ?_) fun _ _ _ z => z⟩
      obtain ⟨d4, e4, h4⟩ := Aft.ofO h4
      exact ⟨μ4, st4, y, z, d4, p4.rep _ _ (p.rep _ _ ru), rw4, ok4, e4, fun v H' p so r => h4 μ4 H' p so v r⟩
    · cases rw'
      refine ⟨false, rfl, ?_⟩
      rw [if_neg Bool.false_ne_true]
      exact h2 μ2 H' p ok' _ (.bl false)
    · exact h2.elim
theorem zchain {f g : F2} {op op' : CmpOp} (ho : OpR X (compareOp op) (rZ X.K k.cl f)) (ho' : OpR X (compareOp op') (rZ X.K k.cl g)) (ha : PE X a (lE X.K k ma)) (hb : PE X b (lE X.K k mb)) (hc : PE X c (lE X.K k mc))
    (hm : lastMarks [op, op'] [b, c] = false := by with_unfolding_all rfl) : PE X (.Compare a [op, op'] [b, c] pos) (lE X.K k (mChain f g ma mb mc)) := PE.imp (pe_chain ho ho' ha hb hc hm) fun _ _ _ h => lChain h
theorem ztchain {f g : F2} {op op' : CmpOp} (ho : OpR X (compareOp op) (rZ X.K k.cl f)) (ho' : OpR X (compareOp op') (rZ X.K k.cl g)) (ha : PE X a (lE X.K k ma)) (hb : PE X b (lE X.K k mb)) (hc : PE X c (lE X.K k mc))
    (hm : lastMarks [op, op'] [b, c] = false := by with_unfolding_all rfl) : PT X (.Compare a [op, op'] [b, c] pos) (lT X.K k (mTest (mChain f g ma mb mc))) :=
  PT.imp (pt_chain ho ho' ha hb hc hm) fun σ H Q h => by
    obtain ⟨μ, st, es, so, ok, h⟩ := lTest h
    exact lChain ⟨μ, st, es, so, ok, h⟩
/-! ## -a -/
def mNeg (ma : EM) (es : Sl) (st : Store) : R D := (ma es st).bind fun x st1 => match x with
  | .int i => .ok (.int (-i)) st1
  | _ => .no
theorem zneg (ha : PE X a (lE X.K k ma)) : PE X (.UnaryOp .USub a pos) (lE X.K k (mNeg ma)) := PE.imp (pe_un un_neg ha) fun σ H Q ⟨μ, st, es, so, ok, h⟩ => ⟨μ, st, es, so, ok, Aft.mono (Aft.bind h) (fun x st1 μ1 H1 p1 ok1 h1 v rv => by
    split at h1
    · cases rv
      exact ⟨_, rfl, Aft.ret ok1 h1 _ (.int _)⟩
    · exact h1.elim) fun _ _ _ z => z⟩
/-! ## truth of any value -/
def truD (st : Store) : D → Option Bool
  | .non => some false
  | .bl b => some b
  | .int i => some (i != 0)
  | .str s => if s.length ≤ sizeLine then some ((s.length : Int) != 0) else none
  | .tup xs => some (!xs.isEmpty)
  | .scr xs => some (!xs.isEmpty)
  | d => (d.items st).map fun xs => !xs.isEmpty
def mTru (m : EM) (es : Sl) (st : Store) : R Bool := (m es st).bind fun d st1 => R.ofO (truD st1 d) st1
theorem reps_empty {K : PySem.W.Frag} {H : Hp} {μ : Mp} {ds : List D} {vs : List V} (r : Reps K H μ ds vs) : vs.isEmpty = ds.isEmpty := by cases r <;> rfl
theorem ztru (ha : PE X a (lE X.K k ma)) (he : ∀ whole, isTrue a X.env whole = (do let v ← whole; standAt a.pos; holding [v] (truthy v)) := by intro _; rfl) : PT X a (lT X.K k (mTru ma)) :=
  PT.imp (pt_truth ha he) fun σ H Q ⟨μ, st, es, so, ok, h⟩ => ⟨μ, st, es, so, ok, Aft.mono (Aft.bind h) (fun x st1 μ1 H1 p1 ok1 h1 v rv => by
    obtain ⟨b, e, h2⟩ := Aft.ofO h1
    refine ⟨b, ?_, h2 μ1 H1 (Step.refl _ _) ok1⟩
    unfold truD at e
    split at e
    · cases e; cases rv; rfl
    · cases e; cases rv; rfl
    · cases e; cases rv; rfl
    · split at e
      · cases e; cases rv; exact ⟨by assumption, rfl⟩
      · cases e
    · cases e
      cases rv with
      | tup h1 h2 => exact .inr (.inl ⟨_, h1.sq, by rw [reps_empty h2]⟩)
    · cases e
      cases rv with
      | scr h1 => exact .inl ⟨_, h1.sq, by rw [List.isEmpty_map]⟩
    · obtain ⟨xs, e1, rfl⟩ := Option.map_eq_some_iff.mp e
      obtain ⟨p, vs, rfl, ep, rp⟩ := items_at ok1 rv e1
      exact .inl ⟨_, .inl (.inl ep), by rw [reps_empty rp]⟩) fun _ _ _ z => z⟩
end

/-! ## what a caller needs of a def -/
structure Cal (P : Program) (w : World) (K : PySem.W.Frag) (mg : Str → Option Value) (base : Heap) (cl : Str → Option Addr) (x : Str) (j n : Nat) (fm : FM) : Prop where
  is : ∃ (f : Addr) (fd : FuncData) (ps : List Str), Gf P w K mg base j f fd ps (spF K cl n fm) ∧ mg x = some (.ref f) ∧ PySem.W.keepIn K (.ref f) = true ∧ Binds K fd ps []
theorem zcalC {X : Cx} {k : Pk} {j j' n : Nat} {fm : FM} {x : Str} {p pos : Pos} {e : Expr} {es : List Expr} {mr : AM} (C : Cal X.prog X.w X.K X.mg X.base k.cl x j n fm) (room : Room j' X.A) (guards : X.A.guards = some []) (tk : Takes X k.W) (ha : PA X (e :: es) (lA X.K k mr)) (hg : Gl X x := by rfl) (hj : j ≤ j' := by decide)
    (nodebug : (x == ("__debug__" : Str)) = false := by decide) (star1 : starEach (e :: es) X.env = (false, eval e X.env) :: starEach es X.env := by rfl) (star2 : (backTo pos (starEach es X.env)).any (·.1) = false := by rfl) : PE X (.Call (.Name x p) (e :: es) [] pos) (lE X.K k (mCall n fm mr)) := by
  obtain ⟨f, fd, ps, G, h1, h2, h3⟩ := C.is
  exact zcall G (room.mono hj) guards hg h1 h2 h3 tk ha nodebug star1 star2
theorem gf_is {P : Program} {w : World} {K : PySem.W.Frag} {mg : Str → Option Value} {base : Heap} {x qual : Str} {st : Stmt} {f : Addr} {fd : FuncData} {N ps : List Str} {j j' n nn : Nat} {cl : Str → Option Addr} {m : SM} {fm : FM} (F : Fun K x qual st f fd) (S : FnScope N ps (defScope st)) (hj : j' = j + 1) (hn : n = ps.length) (hnn : N.length = nn) (hf : fm = runF nn m)
    (body : ∀ (cdv : Value) (A : Around) (callers : List Env) (s : Shared) (H : Hp) (E : XK), Room j (A.deeper (envOfC qual (defScope st) s.heap.objs.size f cdv)) → A.guards = some [] →
      PSs (cxOf (L2.CX P w) P w K mg base N qual (defScope st) f cdv A callers s H E) (defBody st) (lS K (pkOf cl E) m)) :
    Gf P w K mg base j' f fd ps (spF K cl n fm) := by
  subst hj hn hnn hf
  exact gf_of F S body
theorem ztake {P : Program} {w : World} {K : PySem.W.Frag} {mg : Str → Option Value} {base : Heap} {N : List Str} {qual : Str} {sc : Scope} {f : Addr} {cd : Value} {A : Around} {callers : List Env} {s : Shared} {H : Hp} {E : XK} {cl : Str → Option Addr} :
    Takes (cxOf (L2.CX P w) P w K mg base N qual sc f cd A callers s H E) (pkOf cl E).W := takes_of rfl rfl rfl rfl
theorem zpass {P : Program} {w : World} {K : PySem.W.Frag} {mg : Str → Option Value} {base : Heap} {N : List Str} {qual : Str} {sc : Scope} {f : Addr} {cd : Value} {A : Around} {callers : List Env} {s : Shared} {H : Hp} {E : XK} :
    PassesOwn (model P w) (cxOf (L2.CX P w) P w K mg base N qual sc f cd A callers s H E).A (cxOf (L2.CX P w) P w K mg base N qual sc f cd A callers s H E).env (cxOf (L2.CX P w) P w K mg base N qual sc f cd A callers s H E).xe := passes_of (X := cxOf (L2.CX P w) P w K mg base N qual sc f cd A callers s H E) rfl
theorem zu64 {j : Nat} {A : Around} (r : Room j A) : A.units + 64 < cLine := r.units
theorem zu65 {j : Nat} {A : Around} (r : Room j A) : A.units + 65 < cLine := by have := r.un; omega
theorem zu80 {j : Nat} {A : Around} (r : Room j A) : A.units + 80 < cLine := by have := r.un; omega
theorem gl_range : bootBuiltins "range" = some (.type "range") := by decide +kernel
theorem bo_int : bootBuiltins "int" = some (.type "int") := by decide +kernel
theorem bo_len : bootBuiltins "len" = some (.builtin "len") := by decide +kernel
theorem bo_abs : bootBuiltins "abs" = some (.builtin "abs") := by decide +kernel
theorem bo_min : bootBuiltins "min" = some (.builtin "min") := by decide +kernel
theorem bo_max : bootBuiltins "max" = some (.builtin "max") := by decide +kernel
theorem bo_sum : bootBuiltins "sum" = some (.builtin "sum") := by decide +kernel
theorem bo_tuple : bootBuiltins "tuple" = some (.type "tuple") := by decide +kernel
theorem bo_list : bootBuiltins "list" = some (.type "list") := by decide +kernel
theorem bo_repr : bootBuiltins "repr" = some (.builtin "repr") := by decide +kernel
end Zv
namespace Zv
open PySem L2

/-! ## what a def leaves: the cells that were there -/
@[simp] theorem los_ints (b : Nat) : ∀ ns : List Int, D.los b (ns.map D.int) = true
  | [] => by simp [D.los]
  | n :: ns => by simp only [List.map_cons, D.los, D.lo, los_ints b ns, Bool.and_self]
theorem los_append (b : Nat) : ∀ xs ys : List D, D.los b (xs ++ ys) = (D.los b xs && D.los b ys)
  | [], ys => by simp [D.los]
  | x :: xs, ys => by simp only [List.cons_append, D.los, los_append b xs ys, Bool.and_assoc]
theorem los_iff (b : Nat) : ∀ xs : List D, D.los b xs = true ↔ ∀ x ∈ xs, x.lo b = true
  | [] => by simp [D.los]
  | x :: xs => by simp only [D.los, Bool.and_eq_true, los_iff b xs, List.mem_cons, forall_eq_or_imp]
theorem tidy_same (st : Store) : tidy st st := ⟨Nat.le_refl _, fun _ _ => .inl rfl⟩
theorem tidy_app (st more : Store) : tidy st (st ++ more) := ⟨by rw [List.length_append]; omega, fun n h => .inl (List.getElem?_append_left h)⟩
theorem tidy_set (st : Store) (n : Nat) (c : Cell) (h : c.lo st.length = true) : tidy st (st.set n c) := ⟨by rw [List.length_set]; exact Nat.le_refl _, fun m hm => by
  by_cases e : n = m
  · subst e
    exact .inr ⟨c, by rw [List.getElem?_set_self hm], h⟩
  · exact .inl (List.getElem?_set_ne e)⟩
theorem tidy_head (c c' : Cell) (st : Store) (h : c'.lo (st.length + 1) = true) : tidy (c :: st) (c' :: st) := tidy_set (c :: st) 0 c' h
theorem tidy_head_app (c c' : Cell) (st more : Store) (h : c'.lo (st.length + 1) = true) : tidy (c :: st) (c' :: (st ++ more)) := by
  refine ⟨by simp only [List.length_cons, List.length_append]; omega, fun n hn => ?_⟩
  cases n with
  | zero => exact .inr ⟨c', rfl, h⟩
  | succ n => exact .inl (by simpa using List.getElem?_append_left (by simpa using hn))
theorem leave_tidy {st st' : Store} {d : D} (t : tidy st st') (h : d.lo st.length = true) : leave st st' d = .ok d (st'.take st.length) := by
  unfold leave
  rw [if_pos t, if_pos h]
theorem leave_same {st : Store} {d : D} (h : d.lo st.length = true) : leave st st d = .ok d st := by
  rw [leave_tidy (tidy_same st) h, List.take_length]
theorem leave_app {st more : Store} {d : D} (h : d.lo st.length = true) : leave st (st ++ more) d = .ok d st := by
  rw [leave_tidy (tidy_app st more) h, List.take_append_of_le_length (Nat.le_refl _), List.take_length]
theorem leave_head {c c' : Cell} {st : Store} {d : D} (h' : c'.lo (st.length + 1) = true) (h : d.lo (st.length + 1) = true) : leave (c :: st) (c' :: st) d = .ok d (c' :: st) := by
  rw [leave_tidy (tidy_head c c' st h') h]
  have e : (c :: st).length = (c' :: st).length := rfl
  rw [e, List.take_length]
theorem leave_head_app {c c' : Cell} {st more : Store} {d : D} (h' : c'.lo (st.length + 1) = true) (h : d.lo (st.length + 1) = true) : leave (c :: st) (c' :: (st ++ more)) d = .ok d (c' :: st) := by
  rw [leave_tidy (tidy_head_app c c' st more h') h]
  simp
/-- a new list that is handed back -/
theorem leave_new {st more : Store} {ds : List D} (h : D.los st.length ds = true) : leave st (st ++ .lst ds :: more) (.ref st.length) = .ok (.lst ds) st := by
  unfold leave
  rw [if_pos (tidy_app st _)]
  have h1 : ¬ (D.ref st.length).lo st.length = true := by simp [D.lo]
  rw [if_neg h1]
  simp only
  have h2 : (st ++ Cell.lst ds :: more)[st.length]? = some (.lst ds) := by rw [List.getElem?_append_right (Nat.le_refl _), Nat.sub_self]; rfl
  rw [h2]
  simp only
  rw [if_pos h, List.take_append_of_le_length (Nat.le_refl _), List.take_length]
theorem leave_head_new {c c' : Cell} {st more : Store} {ds : List D} (h' : c'.lo (st.length + 1) = true) (h : D.los (st.length + 1) ds = true) : leave (c :: st) (c' :: (st ++ .lst ds :: more)) (.ref (st.length + 1)) = .ok (.lst ds) (c' :: st) := by
  unfold leave
  rw [if_pos (tidy_head_app c c' st _ h')]
  have h1 : ¬ (D.ref (st.length + 1)).lo (c :: st).length = true := by simp [D.lo]
  rw [if_neg h1]
  simp only
  have h2 : (c' :: (st ++ Cell.lst ds :: more))[st.length + 1]? = some (.lst ds) := by
    rw [List.getElem?_cons_succ, List.getElem?_append_right (Nat.le_refl _), Nat.sub_self]; rfl
  rw [h2]
  simp only [List.length_cons]
  rw [if_pos h]
  simp

/-! ## loops -/
theorem forL_rule {t : Tg} {body : SM} {P : Store → Prop} (Inv : Nat → Sl → Store → Prop) : ∀ (ds : List D) (i : Nat) (es : Sl) (st : Store),
    (∀ j d es st, ds[j]? = some d → Inv (i + j) es st → P st ∧ ∃ es1, t.put d es = some es1 ∧ ∃ es2 st2, (body es1 st = .ok .nx es2 st2 ∨ body es1 st = .ok .ct es2 st2) ∧ Inv (i + j + 1) es2 st2) →
    (∀ es st, Inv (i + ds.length) es st → P st) → Inv i es st → ∃ es' st', forL t body P ds es st = .ok .nx es' st' ∧ Inv (i + ds.length) es' st'
  | [], i, es, st, _, hP, h0 => ⟨es, st, by unfold forL; rw [if_pos (hP es st h0)], h0⟩
  | d :: ds, i, es, st, hs, hP, h0 => by
    obtain ⟨p, es1, e1, es2, st2, e2, h2⟩ := hs 0 d es st rfl h0
    have ih := forL_rule Inv ds (i + 1) es2 st2 (fun j d es st hj hI => by
      have := hs (j + 1) d es st (by simpa using hj) (by rw [show i + (j + 1) = i + 1 + j by omega]; exact hI)
      rwa [show i + (j + 1) + 1 = i + 1 + j + 1 by omega] at this) (fun es st hI => hP es st (by rw [List.length_cons, show i + (ds.length + 1) = i + 1 + ds.length by omega]; exact hI)) h2
    obtain ⟨es', st', e3, h3⟩ := ih
    refine ⟨es', st', ?_, by rw [List.length_cons, show i + (ds.length + 1) = i + 1 + ds.length by omega]; exact h3⟩
    unfold forL
    rw [if_pos p, e1]
    simp only
    rcases e2 with e2 | e2
    · rw [e2]; exact e3
    · rw [e2]; exact e3
theorem forL_rng {t : Tg} {body : SM} {P : Store → Prop} (Inv : Nat → Sl → Store → Prop) {lo : Int} {n : Nat} {es : Sl} {st : Store}
    (hs : ∀ (j : Nat) es st, j < n → Inv j es st → P st ∧ ∃ es1, t.put (.int (lo + (j : Int))) es = some es1 ∧ ∃ es2 st2, (body es1 st = .ok .nx es2 st2 ∨ body es1 st = .ok .ct es2 st2) ∧ Inv (j + 1) es2 st2)
    (hP : ∀ es st, Inv n es st → P st) (h0 : Inv 0 es st) : ∃ es' st', forL t body P (rngD lo n) es st = .ok .nx es' st' ∧ Inv n es' st' := by
  have hlen : (rngD lo n).length = n := by simp [rngD]
  have := forL_rule (t := t) (body := body) (P := P) Inv (rngD lo n) 0 es st (fun j d es st hj hI => by
    have hjn : j < n := by have := (List.getElem?_eq_some_iff.mp hj).1; omega
    have e : d = .int (lo + (j : Int)) := by
      unfold rngD at hj
      rw [List.getElem?_map, List.getElem?_range hjn] at hj
      exact (Option.some.inj hj).symm
    subst e
    rw [Nat.zero_add] at hI ⊢
    exact hs j es st hjn hI) (fun es st hI => hP es st (by rw [Nat.zero_add, hlen] at hI; exact hI)) h0
  rw [Nat.zero_add, hlen] at this
  exact this
@[simp] theorem held_nil (st : Store) : Held [] st = True := rfl
theorem held_one (n : Nat) (ds : List D) (st : Store) : Held [(n, ds)] st = (st[n]? = some (.lst ds)) := by simp [Held]
/-- a comprehension whose parts change nothing -/
theorem lcL_pure {t : Tg} {tt : TM} {elt : EM} {P : Store → Prop} {es : Sl} {st : Store} (hP : P st) (g : D → Bool) (f : D → D) : ∀ (ds : List D),
    (∀ d ∈ ds, ∃ es1, t.put d es = some es1 ∧ tt es1 st = .ok (g d) st ∧ (g d = true → elt es1 st = .ok (f d) st)) → lcL t tt elt P es ds st = .ok ((ds.filter g).map f) st
  | [], _ => by unfold lcL; rw [if_pos hP]; rfl
  | d :: ds, h => by
    obtain ⟨es1, e1, e2, e3⟩ := h d List.mem_cons_self
    have ih := lcL_pure hP g f ds fun x hx => h x (List.mem_cons_of_mem _ hx)
    unfold lcL
    rw [if_pos hP, e1]
    simp only [e2, R.noex_ok, R.bind_ok]
    cases hg : g d with
    | true => simp only [if_true, e3 hg, R.noex_ok, R.bind_ok, ih, List.filter_cons, hg, List.map_cons]
    | false => simp only [Bool.false_eq_true, if_false, ih, List.filter_cons, hg]
theorem whL_turn {c : TM} {body : SM} {n : Nat} {es es2 : Sl} {st st1 st2 : Store} (h : c es st = .ok true st1) (hb : body es st1 = .ok .nx es2 st2) : whL c body (n + 1) es st = whL c body n es2 st2 := by
  rw [whL, h]
  show (match body es st1 with | .ok .nx es2 st2 => whL c body n es2 st2 | .ok .ct es2 st2 => whL c body n es2 st2 | .ok .bk es2 st2 => .ok .nx es2 st2 | .ok (.rt d) es2 st2 => .ok (.rt d) es2 st2 | .ex x es2 st2 => .ex x es2 st2 | .no => .no) = _
  rw [hb]
theorem whL_ret {c : TM} {body : SM} {n : Nat} {es es2 : Sl} {st st1 st2 : Store} {d : D} (h : c es st = .ok true st1) (hb : body es st1 = .ok (.rt d) es2 st2) : whL c body (n + 1) es st = .ok (.rt d) es2 st2 := by
  rw [whL, h]
  show (match body es st1 with | .ok .nx es2 st2 => whL c body n es2 st2 | .ok .ct es2 st2 => whL c body n es2 st2 | .ok .bk es2 st2 => .ok .nx es2 st2 | .ok (.rt d) es2 st2 => .ok (.rt d) es2 st2 | .ex x es2 st2 => .ex x es2 st2 | .no => .no) = _
  rw [hb]
theorem whL_stop {c : TM} {body : SM} {n : Nat} {es : Sl} {st st1 : Store} (h : c es st = .ok false st1) : whL c body (n + 1) es st = .ok .nx es st1 := by
  rw [whL, h]
  rfl
end Zv
namespace Zv
open PySem L2
/-! ## the combinators' equations, one step each: what follows a value, by name -/
def kB (d : D) (st : Store) : R Bool := match d with
  | .bl b => .ok b st
  | _ => .no
def kAnd (mb : EM) (es : Sl) (d : D) (st : Store) : R D := match d with
  | .bl b => if b then mb es st else .ok (.bl false) st
  | _ => .no
def kOr (mb : EM) (es : Sl) (d : D) (st : Store) : R D := match d with
  | .bl b => if b then .ok (.bl true) st else mb es st
  | _ => .no
def kNot (d : D) (st : Store) : R D := match d with
  | .bl b => .ok (.bl (!b)) st
  | _ => .no
def kNeg (d : D) (st : Store) : R D := match d with
  | .int i => .ok (.int (-i)) st
  | _ => .no
def kCh (g : F2) (mc : EM) (y : D) (es : Sl) (d : D) (st : Store) : R D := match d with
  | .bl true => (mc es st).bind fun z st4 => R.ofO (g st4 y z) st4
  | .bl false => .ok (.bl false) st
  | _ => .no
def kPut (tg : Tg) (es : Sl) (d : D) (st : Store) : RS := match tg.put d es with
  | some es1 => .ok .nx es1 st
  | none => .no
def kBox (n : Nat) (es : Sl) (d : D) (st : Store) : RS := match d with
  | .lst ds => .ok .nx (es.set n (some (.ref st.length))) (st ++ [.lst ds])
  | _ => .no
def kApp2 (n : Nat) (es : Sl) (d : D) (st : Store) : RS := match st[n]? with
  | some (.lst ds) => if ds.length < sizeLine then .ok .nx es (st.set n (.lst (ds ++ [d]))) else .no
  | _ => .no
def kApp (me : EM) (es : Sl) (o : D) (st : Store) : RS := match o with
  | .ref n => match st[n]? with
    | some (.lst _) => (me es st).toS es (kApp2 n es)
    | _ => .no
  | _ => .no
def kSet2 (d : D) (o : D) (es : Sl) (i : D) (st : Store) : RS := match o, i with
  | .ref n, .int z => match st[n]? with
    | some (.lst ds) => match ixN ds.length z with
      | some j => .ok .nx es (st.set n (.lst (ds.set j d)))
      | none => .no
    | _ => .no
  | _, _ => .no
def kAug2 (n : Nat) (es : Sl) (o : Option D) (st : Store) : RS := match o with
  | some z => .ok .nx (es.set n (some z)) st
  | none => .no
def kAug (f : F2) (n : Nat) (me : EM) (es : Sl) (o : Option (Option D)) (st : Store) : RS := match o with
  | some (some x) => (me es st).toS es fun y st1 => kAug2 n es (f st1 x y) st1
  | _ => .no
def kR1 (ds : List D) (st : Store) : R Its := match ds with
  | [.int j] => if -(2 ^ 62) ≤ j ∧ j < 2 ^ 62 then .ok (rngD 0 j.toNat, []) st else .no
  | _ => .no
def kR2 (ds : List D) (st : Store) : R Its := match ds with
  | [.int i, .int j] => if -(2 ^ 62) ≤ i ∧ i < 2 ^ 62 ∧ -(2 ^ 62) ≤ j ∧ j < 2 ^ 62 then .ok (rngD i (j - i).toNat, []) st else .no
  | _ => .no
def kIt (d : D) (st : Store) : R Its := match d with
  | .lst ds => .ok (ds, []) st
  | .tup ds => .ok (ds, []) st
  | .scr ns => .ok (ns.map .int, []) st
  | .ref n => match st[n]? with
    | some (.lst ds) => .ok (ds, [(n, ds)]) st
    | _ => .no
  | _ => .no
noncomputable def kFin (st : Store) (r : RS) : R D := match r with
  | .ok .nx _ st' => leave st st' .non
  | .ok (.rt d) _ st' => leave st st' d
  | .ex x _ st' => leaveX st st' x
  | _ => .no
section
variable {es : Sl} {st : Store} {d x y z : D} {f g : F2} {ma mb mc : EM} {mr : AM} {t ta tb : TM} {m1 m2 : SM} {i j : Int} {n : Nat} {tg : Tg} {mi : IM} {s s' : Str} {xs ys : List D}
theorem q_mC : mC d es st = .ok d st := by rw [mC]
theorem q_mVar (h : es[n]? = some (some d)) : mVar n es st = .ok d st := by rw [mVar, h]
theorem q_v0 {r : Sl} : mVar 0 (some d :: r) st = .ok d st := q_mVar rfl
theorem q_v1 {a : Option D} {r : Sl} : mVar 1 (a :: some d :: r) st = .ok d st := q_mVar rfl
theorem q_v2 {a b : Option D} {r : Sl} : mVar 2 (a :: b :: some d :: r) st = .ok d st := q_mVar rfl
theorem q_v3 {a b c : Option D} {r : Sl} : mVar 3 (a :: b :: c :: some d :: r) st = .ok d st := q_mVar rfl
theorem q_v4 {a b c e : Option D} {r : Sl} : mVar 4 (a :: b :: c :: e :: some d :: r) st = .ok d st := q_mVar rfl
theorem q_v5 {a b c e e1 : Option D} {r : Sl} : mVar 5 (a :: b :: c :: e :: e1 :: some d :: r) st = .ok d st := q_mVar rfl
theorem q_v6 {a b c e e1 e2 : Option D} {r : Sl} : mVar 6 (a :: b :: c :: e :: e1 :: e2 :: some d :: r) st = .ok d st := q_mVar rfl
theorem q_v7 {a b c e e1 e2 e3 : Option D} {r : Sl} : mVar 7 (a :: b :: c :: e :: e1 :: e2 :: e3 :: some d :: r) st = .ok d st := q_mVar rfl
theorem q_v8 {a b c e e1 e2 e3 e4 : Option D} {r : Sl} : mVar 8 (a :: b :: c :: e :: e1 :: e2 :: e3 :: e4 :: some d :: r) st = .ok d st := q_mVar rfl
theorem q_v9 {a b c e e1 e2 e3 e4 e5 : Option D} {r : Sl} : mVar 9 (a :: b :: c :: e :: e1 :: e2 :: e3 :: e4 :: e5 :: some d :: r) st = .ok d st := q_mVar rfl
theorem q_v10 {a b c e e1 e2 e3 e4 e5 e6 : Option D} {r : Sl} : mVar 10 (a :: b :: c :: e :: e1 :: e2 :: e3 :: e4 :: e5 :: e6 :: some d :: r) st = .ok d st := q_mVar rfl
theorem q_v11 {a b c e e1 e2 e3 e4 e5 e6 e7 : Option D} {r : Sl} : mVar 11 (a :: b :: c :: e :: e1 :: e2 :: e3 :: e4 :: e5 :: e6 :: e7 :: some d :: r) st = .ok d st := q_mVar rfl
theorem q_v12 {a b c e e1 e2 e3 e4 e5 e6 e7 e8 : Option D} {r : Sl} : mVar 12 (a :: b :: c :: e :: e1 :: e2 :: e3 :: e4 :: e5 :: e6 :: e7 :: e8 :: some d :: r) st = .ok d st := q_mVar rfl
theorem q_v13 {a b c e e1 e2 e3 e4 e5 e6 e7 e8 e9 : Option D} {r : Sl} : mVar 13 (a :: b :: c :: e :: e1 :: e2 :: e3 :: e4 :: e5 :: e6 :: e7 :: e8 :: e9 :: some d :: r) st = .ok d st := q_mVar rfl
theorem q_mOp : mOp f ma mb es st = (ma es st).bind fun x st1 => (mb es st1).bind fun y st2 => R.ofO (f st2 x y) st2 := by rw [mOp]
theorem q_mTest : mTest ma es st = (ma es st).bind kB := by unfold mTest; rfl
theorem q_kB {b : Bool} : kB (.bl b) st = .ok b st := by rw [kB]
theorem q_mTru : mTru ma es st = (ma es st).bind fun d st1 => R.ofO (truD st1 d) st1 := by rw [mTru]
theorem q_tAnd : Zv.tAnd ta tb es st = (ta es st).bind fun b st1 => if b then tb es st1 else .ok false st1 := by rw [Zv.tAnd]
theorem q_tOr : Zv.tOr ta tb es st = (ta es st).bind fun b st1 => if b then .ok true st1 else tb es st1 := by rw [Zv.tOr]
theorem q_tNot : Zv.tNot ta es st = (ta es st).bind fun b st1 => .ok (!b) st1 := by rw [Zv.tNot]
theorem q_tYes : Zv.tYes es st = .ok true st := by rw [Zv.tYes]
theorem q_eAnd : eAnd ma mb es st = (ma es st).bind (kAnd mb es) := by unfold eAnd; rfl
theorem q_kAnd {b : Bool} : kAnd mb es (.bl b) st = if b then mb es st else .ok (.bl false) st := by rw [kAnd]
theorem q_eOr : eOr ma mb es st = (ma es st).bind (kOr mb es) := by unfold eOr; rfl
theorem q_kOr {b : Bool} : kOr mb es (.bl b) st = if b then .ok (.bl true) st else mb es st := by rw [kOr]
theorem q_eNot : eNot ma es st = (ma es st).bind kNot := by unfold eNot; rfl
theorem q_kNot {b : Bool} : kNot (.bl b) st = .ok (.bl (!b)) st := by rw [kNot]
theorem q_mIf : mIf t ma mb es st = (t es st).bind fun b st1 => if b then ma es st1 else mb es st1 := by rw [mIf]
theorem q_aNil : aNil es st = .ok [] st := by rw [aNil]
theorem q_aCons : aCons ma mr es st = (ma es st).bind fun d st1 => (mr es st1).bind fun ds st2 => .ok (d :: ds) st2 := by rw [aCons]
theorem q_mTup : mTup mr es st = (mr es st).bind fun ds st1 => if ds.length ≤ sizeLine then .ok (.tup ds) st1 else .no := by rw [mTup]
theorem q_mLst : mLst mr es st = (mr es st).bind fun ds st1 => if ds.length ≤ sizeLine then .ok (.lst ds) st1 else .no := by rw [mLst]
theorem q_mB {b : Fn} : mB b mr es st = (mr es st).bind fun ds st1 => R.ofO (b ds st1) st1 := by rw [mB]
theorem q_mCall {fm : FM} : mCall n fm mr es st = (mr es st).bind fun ds st1 => if ds.length = n then fm ds st1 else .no := by rw [mCall]
theorem q_mNeg : mNeg ma es st = (ma es st).bind kNeg := by unfold mNeg; rfl
theorem q_kNeg : kNeg (.int i) st = .ok (.int (-i)) st := by rw [kNeg]
theorem q_mChain : mChain f g ma mb mc es st = (ma es st).bind fun x st1 => (mb es st1).bind fun y st2 => (R.ofO (f st2 x y) st2).bind (kCh g mc y es) := by unfold mChain; rfl
theorem q_kChT : kCh g mc y es (.bl true) st = (mc es st).bind fun z st4 => R.ofO (g st4 y z) st4 := by rw [kCh]
theorem q_kChF : kCh g mc y es (.bl false) st = .ok (.bl false) st := by rw [kCh]
theorem q_sNil : sNil es st = .ok .nx es st := by rw [sNil]
theorem q_sSeq : sSeq m1 m2 es st = (m1 es st).seq m2 := by rw [sSeq]
theorem q_sExpr : sExpr ma es st = (ma es st).toS es fun _ st1 => .ok .nx es st1 := by rw [sExpr]
theorem q_sRet : sRet ma es st = (ma es st).toS es fun d st1 => .ok (.rt d) es st1 := by rw [sRet]
theorem q_sRetN : sRetN es st = .ok (.rt .non) es st := by rw [sRetN]
theorem q_sBk : sBk es st = .ok .bk es st := by rw [sBk]
theorem q_sCt : sCt es st = .ok .ct es st := by rw [sCt]
theorem q_sIf : sIf t m1 m2 es st = (t es st).toS es fun b st1 => if b then m1 es st1 else m2 es st1 := by rw [sIf]
theorem q_sAsg : sAsg tg ma es st = (ma es st).toS es (kPut tg es) := by unfold sAsg; rfl
theorem q_kPut {es' : Sl} (h : tg.put d es = some es') : kPut tg es d st = .ok .nx es' st := by rw [kPut, h]
theorem q_kPutN : kPut (.nm n) es d st = .ok .nx (es.set n (some d)) st := q_kPut rfl

theorem q_sBox : sBox n ma es st = (ma es st).toS es (kBox n es) := by unfold sBox; rfl
theorem q_kBox : kBox n es (.lst xs) st = .ok .nx (es.set n (some (.ref st.length))) (st ++ [.lst xs]) := by rw [kBox]
theorem q_sApp {mo me : EM} : sApp mo me es st = (mo es st).toS es (kApp me es) := by unfold sApp; rfl
theorem q_kApp {me : EM} (h : st[n]? = some (.lst xs)) : kApp me es (.ref n) st = (me es st).toS es (kApp2 n es) := by rw [kApp, h]
theorem q_kApp2 (h : st[n]? = some (.lst xs)) (hl : xs.length < sizeLine) : kApp2 n es d st = .ok .nx es (st.set n (.lst (xs ++ [d]))) := by rw [kApp2, h]; exact if_pos hl
theorem q_sSetI {me mo mi : EM} : sSetI me mo mi es st = (me es st).toS es fun d st1 => (mo es st1).toS es fun o st2 => (mi es st2).toS es (kSet2 d o es) := by unfold sSetI; rfl
theorem q_kSet2 {j : Nat} (h : st[n]? = some (.lst xs)) (hj : ixN xs.length i = some j) : kSet2 d (.ref n) es (.int i) st = .ok .nx es (st.set n (.lst (xs.set j d))) := by rw [kSet2, h]; show (match ixN xs.length i with | some j => RS.ok .nx es (st.set n (.lst (xs.set j d))) | none => .no) = _; rw [hj]
theorem q_sAug {me : EM} : sAug n f me es st = kAug f n me es es[n]? st := by unfold sAug; rfl
theorem q_kAug {me : EM} : kAug f n me es (some (some x)) st = (me es st).toS es fun y st1 => kAug2 n es (f st1 x y) st1 := by rw [kAug]
theorem q_kAug2 : kAug2 n es (some z) st = .ok .nx (es.set n (some z)) st := by rw [kAug2]
theorem q_sFor {body : SM} : sFor mi tg body es st = (mi es st).toS es fun p st1 => forL tg body (Held p.2) p.1 es st1 := by rw [sFor]
theorem q_mLC {vs : List Nat} {elt : EM} : mLC vs mi tg t elt es st = (mi es st).bind fun p st1 => if p.1.length ≤ sizeLine then (lcL tg t elt (Held p.2) (wipeD es vs) p.1 st1).bind fun ys st2 => .ok (.lst ys) st2 else .no := by rw [mLC]
theorem q_mRng1 : mRng1 mr es st = (mr es st).bind kR1 := by unfold mRng1; rfl
theorem q_kR1 : kR1 [.int j] st = if -(2 ^ 62) ≤ j ∧ j < 2 ^ 62 then .ok (rngD 0 j.toNat, []) st else .no := by rw [kR1]
theorem q_mRng2 : mRng2 mr es st = (mr es st).bind kR2 := by unfold mRng2; rfl
theorem q_kR2 : kR2 [.int i, .int j] st = if -(2 ^ 62) ≤ i ∧ i < 2 ^ 62 ∧ -(2 ^ 62) ≤ j ∧ j < 2 ^ 62 then .ok (rngD i (j - i).toNat, []) st else .no := by rw [kR2]
theorem q_mIt : mIt ma es st = (ma es st).bind kIt := by unfold mIt; rfl
theorem q_kItL : kIt (.lst xs) st = .ok (xs, []) st := by rw [kIt]
theorem q_kItT : kIt (.tup xs) st = .ok (xs, []) st := by rw [kIt]
theorem q_kItR (h : st[n]? = some (.lst xs)) : kIt (.ref n) st = .ok (xs, [(n, xs)]) st := by rw [kIt]; show (match st[n]? with | some (.lst ds) => R.ok (ds, [(n, ds)]) st | _ => .no) = _; rw [h]
/-! operations -/
theorem q_addI : dAdd st (.int i) (.int j) = some (.int (i + j)) := by rw [dAdd]
theorem q_addS : dAdd st (.str s) (.str s') = if s.length + s'.length ≤ sizeLine then some (.str (s ++ s')) else none := by rw [dAdd]
theorem q_addT : dAdd st (.tup xs) (.tup ys) = if xs.length + ys.length ≤ sizeLine then some (.tup (xs ++ ys)) else none := by rw [dAdd]
theorem q_addL : dAdd st (.lst xs) (.lst ys) = if xs.length + ys.length ≤ sizeLine then some (.lst (xs ++ ys)) else none := by rfl
theorem q_sub : dSub st (.int i) (.int j) = some (.int (i - j)) := by rw [dSub]
theorem q_mul : dMul st (.int i) (.int j) = if (-(2 ^ 64) < i ∧ i < 2 ^ 64) ∨ (-(2 ^ 64) < j ∧ j < 2 ^ 64) then some (.int (i * j)) else none := by rw [dMul]
theorem q_mod : dMod st (.int i) (.int j) = if 0 < j then some (.int (i % j)) else none := by rw [dMod]
theorem q_fdv : dFdv st (.int i) (.int j) = if 0 < j ∧ j < 1073741824 then some (.int (i / j)) else none := by rw [dFdv]
theorem q_pow : dPow st (.int i) (.int j) = if 0 ≤ j ∧ j ≤ 1000000 ∧ i.natAbs < 2 ^ 64 then some (.int (i ^ j.toNat)) else none := by rw [dPow]
theorem q_lt : dLt st (.int i) (.int j) = some (.bl (decide (i < j))) := by rw [dLt]
theorem q_le : dLe st (.int i) (.int j) = some (.bl (decide (i ≤ j))) := by rw [dLe]
theorem q_gt : dGt st (.int i) (.int j) = some (.bl (decide (j < i))) := by rw [dGt]
theorem q_ge : dGe st (.int i) (.int j) = some (.bl (decide (j ≤ i))) := by rw [dGe]
theorem q_iadd : dIadd st (.int i) (.int j) = some (.int (i + j)) := by rw [dIadd]
theorem q_isub : dIsub st (.int i) (.int j) = some (.int (i - j)) := by rw [dIsub]
theorem q_isN : dIsN st x .non = some (.bl (isNon x)) := by unfold dIsN; rfl
theorem q_notN : dNotN st x .non = some (.bl (!isNon x)) := by unfold dNotN; rfl
theorem q_isNon_non : isNon .non = true := by rw [isNon]
theorem q_isNon_int : isNon (.int i) = false := by unfold isNon; rfl
theorem q_isNon_tup : isNon (.tup xs) = false := by unfold isNon; rfl
theorem q_isNon_lst : isNon (.lst xs) = false := by unfold isNon; rfl
theorem q_eqI : dEq st (.int i) (.int j) = some (.bl (decide (i = j))) := by rw [dEq, dEqB]; rfl
theorem q_eqS : dEq st (.str s) (.str s') = some (.bl (decide (s = s'))) := by rw [dEq, dEqB]; rfl
theorem q_neI : dNe st (.int i) (.int j) = some (.bl (!decide (i = j))) := by rw [dNe, dEqB]; rfl
theorem q_neS : dNe st (.str s) (.str s') = some (.bl (!decide (s = s'))) := by rw [dNe, dEqB]; rfl
theorem q_ixT : dIx st (.tup xs) (.int i) = atI xs i := by rw [dIx]
theorem q_ixL : dIx st (.lst xs) (.int i) = atI xs i := by rfl
theorem q_ixS {ns : List Int} : dIx st (.scr ns) (.int i) = (atI ns i).map .int := by rw [dIx]
theorem q_itemsR (h : st[n]? = some (.lst xs)) : (D.ref n).items st = some xs := by
  unfold D.items
  show (match st[n]? with | some (.lst xs) => some xs | _ => none) = _
  rw [h]
theorem q_itemsL : (D.lst xs).items st = some xs := by rw [D.items]
theorem q_ixR (h : st[n]? = some (.lst xs)) : dIx st (.ref n) (.int i) = atI xs i := by
  show ((D.ref n).items st).bind _ = _
  rw [q_itemsR h]
  rfl
theorem q_ixR0 {r : Store} : dIx (.lst xs :: r) (.ref 0) (.int i) = atI xs i := q_ixR rfl
theorem q_int : bInt [.int i] st = some (.int i) := by rw [bInt]
theorem q_intb {b : Bool} : bInt [.bl b] st = some (.int (if b then 1 else 0)) := by rw [bInt]
theorem q_lenT : bLen [.tup xs] st = some (.int xs.length) := by rw [bLen]
theorem q_lenC {ns : List Int} : bLen [.scr ns] st = some (.int ns.length) := by rw [bLen]
theorem q_lenL : bLen [.lst xs] st = some (.int xs.length) := by rfl
theorem q_lenR (h : st[n]? = some (.lst xs)) : bLen [.ref n] st = some (.int xs.length) := by
  show ((D.ref n).items st).map _ = _
  rw [q_itemsR h]
  rfl
theorem q_min : bMin [.int i, .int j] st = some (.int (if j < i then j else i)) := by rw [bMin]
theorem q_max : bMax [.int i, .int j] st = some (.int (if j > i then j else i)) := by rw [bMax]
theorem q_tupL : bTuple [.lst xs] st = some (.tup xs) := by rfl
theorem q_tupT : bTuple [.tup xs] st = some (.tup xs) := by rw [bTuple]
theorem q_tupR (h : st[n]? = some (.lst xs)) : bTuple [.ref n] st = some (.tup xs) := by
  show ((D.ref n).items st).map _ = _
  rw [q_itemsR h]
  rfl
theorem q_listL : bList [.lst xs] st = some (.lst xs) := by rfl
theorem q_listT : bList [.tup xs] st = some (.lst xs) := by rw [bList]
theorem q_listR (h : st[n]? = some (.lst xs)) : bList [.ref n] st = some (.lst xs) := by
  show ((D.ref n).items st).map _ = _
  rw [q_itemsR h]
  rfl
theorem q_truB {b : Bool} : truD st (.bl b) = some b := by rw [truD]
theorem q_truI : truD st (.int i) = some (i != 0) := by rw [truD]
theorem q_truT : truD st (.tup xs) = some (!xs.isEmpty) := by rw [truD]
theorem q_truL : truD st (.lst xs) = some (!xs.isEmpty) := by rfl
theorem q_truN : truD st .non = some false := by rw [truD]
theorem q_bind {α β : Type} {a : α} {k : α → Store → R β} : (R.ok a st).bind k = k a st := by rw [R.bind]
theorem q_toS {α : Type} {a : α} {k : α → Store → RS} : (R.ok a st).toS es k = k a st := by rw [R.toS]
theorem q_nx {m : SM} : (RS.ok .nx es st).seq m = m es st := by rw [RS.seq]
theorem q_rt {m : SM} : (RS.ok (.rt d) es st).seq m = .ok (.rt d) es st := by rw [RS.seq]
theorem q_bk {m : SM} : (RS.ok .bk es st).seq m = .ok .bk es st := by rw [RS.seq]
theorem q_ct {m : SM} : (RS.ok .ct es st).seq m = .ok .ct es st := by rw [RS.seq]
theorem q_ofO {α : Type} {a : α} : R.ofO (some a) st = .ok a st := by rw [R.ofO]
theorem q_noex {α : Type} {a : α} : (R.ok a st).noex = .ok a st := by rw [R.noex]
/-- a def, run -/
theorem q_runF {m : SM} {ds : List D} : runF n m ds st = kFin st (m (ds.map some ++ List.replicate (n - ds.length) none) st) := by unfold runF; rfl
theorem q_kFinN {st' : Store} : kFin st (.ok .nx es st') = leave st st' .non := by rw [kFin]
theorem q_kFin {st' : Store} : kFin st (.ok (.rt d) es st') = leave st st' d := by rw [kFin]
end
end Zv
namespace Zp
open PySem L2 Zv PyProof.Rows
/-! _law_draw: box many at -/
noncomputable def M__law_draw : SM :=
    (sSeq (sAsg (.nm 2) (mOp dIx (mVar 0) (mC (.int 1))))
    (sSeq (sSetI (mOp dAdd (mVar 2) (mC (.int 1))) (mVar 0) (mC (.int 1)))
    (sSeq (sIf (mTest (mOp dLt (mVar 2) (mB bLen (aCons (mOp dIx (mVar 0) (mC (.int 0))) aNil))))
    (sRet (mOp dMod (mB bInt (aCons (mOp dIx (mOp dIx (mVar 0) (mC (.int 0))) (mVar 2)) aNil)) (mVar 1)))
    sNil)
    (sRet (mC (.int 0))))))
noncomputable def F__law_draw : FM := runF 3 M__law_draw


/-! _law_pick: box things -/
noncomputable def M__law_pick : SM :=
    (sRet (mOp dIx (mVar 1) (mOp dMod (mB bInt (aCons (mCall 2 F__law_draw (aCons (mVar 0) (aCons (mC (.int 900)) aNil))) aNil)) (mB bLen (aCons (mVar 1) aNil)))))
noncomputable def F__law_pick : FM := runF 2 M__law_pick


/-! _law_same: actual due -/
noncomputable def M__law_same : SM :=
    (sRet (mOp dEq (mB bRepr (aCons (mVar 0) aNil)) (mB bRepr (aCons (mVar 1) aNil))))
noncomputable def F__law_same : FM := runF 2 M__law_same


/-! _law_cell: script k -/
noncomputable def M__law_cell : SM :=
    (sSeq (sIf (mTest (mOp dLt (mVar 1) (mB bLen (aCons (mVar 0) aNil))))
    (sRet (mOp dIx (mVar 0) (mVar 1)))
    sNil)
    (sRet (mC (.int 0))))
noncomputable def F__law_cell : FM := runF 2 M__law_cell


/-! _law_digits: script first last digits k cell turn seed -/
noncomputable def B__law_digits1 : SM :=
    (sIf (mTest (mOp dGt (mVar 5) (mC (.int 0))))
    (sSeq (sApp (mVar 3) (mOp dMod (mB bInt (aCons (mVar 5) aNil)) (mC (.int 1000))))
    (sAsg (.nm 5) (mOp dFdv (mVar 5) (mC (.int 1000)))))
    sNil)
noncomputable def B__law_digits2 : SM :=
    (sSeq (sAsg (.nm 7) (mOp dMod (mB bInt (aCons (mOp dAdd (mOp dAdd (mOp dMul (mVar 7) (mC (.int 16807))) (mOp dMul (mC (.int 7)) (mVar 6))) (mC (.int 1))) aNil)) (mC (.int 2147483647))))
    (sApp (mVar 3) (mOp dMod (mB bInt (aCons (mOp dFdv (mVar 7) (mC (.int 997))) aNil)) (mC (.int 1000)))))
noncomputable def B__law_digits3 : SM :=
    (sSeq (sAsg (.nm 5) (mCall 2 F__law_cell (aCons (mVar 0) (aCons (mVar 4) aNil))))
    (sSeq (sIf (mTest (mOp dLt (mVar 5) (mC (.int 0))))
    (sAsg (.nm 5) (mOp dSub (mC (.int 1)) (mOp dMul (mC (.int 2)) (mVar 5))))
    sNil)
    (sIf (mTest (mOp dGe (mVar 5) (mOp dPow (mC (.int 10)) (mC (.int 18)))))
    (sFor (mRng1 (aCons (mC (.int 60)) aNil)) (.nm 6) B__law_digits1)
    (sSeq (sAsg (.nm 7) (mOp dMod (mB bInt (aCons (mOp dAdd (mOp dAdd (mOp dMul (mVar 5) (mC (.int 48271))) (mOp dMul (mVar 4) (mC (.int 69621)))) (mC (.int 11))) aNil)) (mC (.int 2147483647))))
    (sFor (mRng1 (aCons (mC (.int 12)) aNil)) (.nm 6) B__law_digits2)))))
noncomputable def M__law_digits : SM :=
    (sSeq (sBox 3 (mLst aNil))
    (sSeq (sFor (mRng2 (aCons (mVar 1) (aCons (mVar 2) aNil))) (.nm 4) B__law_digits3)
    (sRet (mVar 3))))
noncomputable def F__law_digits : FM := runF 8 M__law_digits


/-! _law_number: box p -/
noncomputable def M__law_number : SM :=
    (sRet (mOp dMod (mB bInt (aCons (mOp dAdd (mOp dMul (mCall 2 F__law_draw (aCons (mVar 0) (aCons (mC (.int 1000)) aNil))) (mC (.int 1009))) (mCall 2 F__law_draw (aCons (mVar 0) (aCons (mC (.int 1000)) aNil)))) aNil)) (mVar 1)))
noncomputable def F__law_number : FM := runF 2 M__law_number


end Zp
namespace Zp
open PySem L2 Zv PyProof.Rows
def drw (ds : List Int) (n : Nat) (many : Int) : Int := if n < ds.length then (ds[n]?.getD 0) % many else 0
theorem drw_nn {ds : List Int} {n : Nat} {many : Int} (h : 0 < many) : 0 ≤ drw ds n many := by
  unfold drw
  split
  · exact Int.emod_nonneg _ (by omega)
  · omega
theorem drw_lt {ds : List Int} {n : Nat} {many : Int} (h : 0 < many) : drw ds n many < many := by
  unfold drw
  split
  · exact Int.emod_lt_of_pos _ h
  · omega
def Box (ds : List Int) (n : Nat) : Cell := .lst [.lst (ds.map .int), .int (n : Int)]
theorem box_lo (b : Nat) (ds : List Int) (n : Nat) : (Box ds n).lo b = true := by simp [Box, Cell.lo, D.los, D.lo]
theorem ixN_nat {m j : Nat} (h : j < m) : ixN m (j : Int) = some j := by
  unfold ixN
  rw [if_pos (by omega), if_pos (by omega)]
  simp
theorem atI_nat' {α : Type} {xs : List α} {j : Nat} (h : j < xs.length) : atI xs (j : Int) = some xs[j] := L2.atI_nat (List.getElem?_eq_getElem h)
theorem atI_int {α : Type} {xs : List α} {j : Int} (h0 : 0 ≤ j) (h : j < xs.length) : atI xs j = some (xs[j.toNat]'(by omega)) := by
  have e : atI xs ((j.toNat : Nat) : Int) = some (xs[j.toNat]'(by omega)) := atI_nat' (by omega)
  rwa [Int.toNat_of_nonneg h0] at e
theorem at0 {α : Type} (x : α) (xs : List α) : atI (x :: xs) 0 = some x := L2.atI_nat (j := 0) rfl
theorem at1 {α : Type} (x y : α) (xs : List α) : atI (x :: y :: xs) 1 = some y := L2.atI_nat (j := 1) rfl
theorem at2 {α : Type} (x y z : α) (xs : List α) : atI (x :: y :: z :: xs) 2 = some z := L2.atI_nat (j := 2) rfl
theorem at3 {α : Type} (x y z u : α) (xs : List α) : atI (x :: y :: z :: u :: xs) 3 = some u := L2.atI_nat (j := 3) rfl
theorem setBox {x y d : D} {es : Sl} {st : Store} : kSet2 d (.ref 0) es (.int 1) (.lst [x, y] :: st) = .ok .nx es (.lst [x, d] :: st) := q_kSet2 (n := 0) (j := 1) (xs := [x, y]) (st := .lst [x, y] :: st) (i := 1) rfl rfl
theorem draw_is {ds : List Int} {n : Nat} {many : Int} {st : Store} (h : 0 < many) : F__law_draw [.ref 0, .int many] (Box ds n :: st) = .ok (.int (drw ds n many)) (Box ds (n + 1) :: st) := by
  have e1 : ixN 2 1 = some 1 := rfl
  have e0 : ((n : Int) + 1) = ((n + 1 : Nat) : Int) := by omega
  by_cases hl : n < ds.length
  · have e2 : (n : Int) < (ds.length : Int) := by omega
    have e3 : atI (ds.map D.int) (n : Int) = some (.int ds[n]) := by rw [atI_nat' (by simpa using hl)]; simp
    have hd : drw ds n many = ds[n] % many := by unfold drw; rw [if_pos hl, List.getElem?_eq_getElem hl]; rfl
    simp only [F__law_draw, M__law_draw, Box, at0, at1, setBox, e2, e3, h, List.length_map, q_runF, q_kFin, q_kFinN, q_mC, q_v0, q_v1, q_v2, q_v3, q_v4, q_v5, q_v6, q_v7, q_v8, q_v9, q_v10, q_v11, q_v12, q_v13, q_mOp, q_mTest, q_kB, q_kAnd, q_kOr, q_kNot, q_kNeg, q_kChT, q_kChF, q_mTru, q_tAnd, q_tOr, q_tNot, q_tYes, q_eAnd, q_eOr, q_eNot, q_mIf, q_aNil, q_aCons, q_mTup, q_mLst, q_mB, q_mCall, q_mNeg, q_mChain, q_sNil, q_sSeq, q_sExpr, q_sRet, q_sRetN, q_sBk, q_sCt, q_sIf, q_sAsg, q_kPutN, q_sBox, q_kBox, q_sApp, q_sSetI, q_sAug, q_kAug, q_kAug2, q_sFor, q_mRng1, q_kR1, q_kR2, q_mRng2, q_mIt, q_kItL, q_kItT, q_addI, q_addS, q_addT, q_addL, q_sub, q_mul, q_mod, q_fdv, q_pow, q_lt, q_le, q_gt, q_ge, q_iadd, q_isub, q_isN, q_notN, q_isNon_non, q_isNon_int, q_isNon_tup, q_isNon_lst, q_eqI, q_eqS, q_neI, q_neS, q_ixT, q_ixL, q_ixS, q_ixR0, q_int, q_intb, q_lenT, q_lenC, q_lenL, q_min, q_max, q_tupL, q_tupT, q_listL, q_listT, q_truB, q_truI, q_truT, q_truL, q_truN, q_bind, q_toS, q_nx, q_rt, q_bk, q_ct, q_ofO, q_noex, List.set_cons_zero, List.set_cons_succ, List.getElem?_cons_zero, List.getElem?_cons_succ, Option.map_some, Option.bind_some, List.length_cons, List.length_nil, List.map_cons, List.map_nil, Nat.reduceAdd, Nat.reduceSub, Nat.reduceLeDiff, Nat.reduceEqDiff, List.replicate_succ, List.replicate_zero, List.cons_append, List.nil_append, ↓reduceIte, if_true, if_false, Bool.false_eq_true, decide_true, decide_false, Bool.not_true, Bool.not_false, and_self, and_true, true_and, or_true, true_or, not_true_eq_false, not_false_eq_true]
    rw [leave_head (by simp [Cell.lo, D.los, D.lo]) (by simp [D.lo]), hd, e0]
  · have e2 : ¬ (n : Int) < (ds.length : Int) := by omega
    have hd : drw ds n many = 0 := by unfold drw; rw [if_neg hl]
    simp only [F__law_draw, M__law_draw, Box, at0, at1, setBox, e2, h, List.length_map, q_runF, q_kFin, q_kFinN, q_mC, q_v0, q_v1, q_v2, q_v3, q_v4, q_v5, q_v6, q_v7, q_v8, q_v9, q_v10, q_v11, q_v12, q_v13, q_mOp, q_mTest, q_kB, q_kAnd, q_kOr, q_kNot, q_kNeg, q_kChT, q_kChF, q_mTru, q_tAnd, q_tOr, q_tNot, q_tYes, q_eAnd, q_eOr, q_eNot, q_mIf, q_aNil, q_aCons, q_mTup, q_mLst, q_mB, q_mCall, q_mNeg, q_mChain, q_sNil, q_sSeq, q_sExpr, q_sRet, q_sRetN, q_sBk, q_sCt, q_sIf, q_sAsg, q_kPutN, q_sBox, q_kBox, q_sApp, q_sSetI, q_sAug, q_kAug, q_kAug2, q_sFor, q_mRng1, q_kR1, q_kR2, q_mRng2, q_mIt, q_kItL, q_kItT, q_addI, q_addS, q_addT, q_addL, q_sub, q_mul, q_mod, q_fdv, q_pow, q_lt, q_le, q_gt, q_ge, q_iadd, q_isub, q_isN, q_notN, q_isNon_non, q_isNon_int, q_isNon_tup, q_isNon_lst, q_eqI, q_eqS, q_neI, q_neS, q_ixT, q_ixL, q_ixS, q_ixR0, q_int, q_intb, q_lenT, q_lenC, q_lenL, q_min, q_max, q_tupL, q_tupT, q_listL, q_listT, q_truB, q_truI, q_truT, q_truL, q_truN, q_bind, q_toS, q_nx, q_rt, q_bk, q_ct, q_ofO, q_noex, List.set_cons_zero, List.set_cons_succ, List.getElem?_cons_zero, List.getElem?_cons_succ, Option.map_some, Option.bind_some, List.length_cons, List.length_nil, List.map_cons, List.map_nil, Nat.reduceAdd, Nat.reduceSub, Nat.reduceLeDiff, Nat.reduceEqDiff, List.replicate_succ, List.replicate_zero, List.cons_append, List.nil_append, ↓reduceIte, if_true, if_false, Bool.false_eq_true, decide_true, decide_false, Bool.not_true, Bool.not_false, and_self, and_true, true_and, or_true, true_or, not_true_eq_false, not_false_eq_true]
    rw [leave_head (by simp [Cell.lo, D.los, D.lo]) (by simp [D.lo]), hd, e0]
/-- which of so many things a pick takes -/
def pck (ds : List Int) (n m : Nat) : Nat := (drw ds n 900 % (m : Int)).toNat
theorem pck_lt {ds : List Int} {n m : Nat} (h : 0 < m) : pck ds n m < m := by
  unfold pck
  have h1 := Int.emod_nonneg (drw ds n 900) (b := (m : Int)) (by omega)
  have h2 := Int.emod_lt_of_pos (drw ds n 900) (b := (m : Int)) (by omega)
  omega
theorem pck_int {ds : List Int} {n m : Nat} (h : 0 < m) : drw ds n 900 % (m : Int) = ((pck ds n m : Nat) : Int) := by
  unfold pck
  rw [Int.toNat_of_nonneg (Int.emod_nonneg _ (by omega))]
theorem los_get {b : Nat} {xs : List D} {j : Nat} {x : D} (h : D.los b xs = true) (e : xs[j]? = some x) : x.lo b = true := (los_iff b xs).mp h x (List.mem_of_getElem? e)
theorem pick_is {ds : List Int} {n : Nat} {xs : List D} {st : Store} (h : 0 < xs.length) (hlo : D.los (st.length + 1) xs = true) : F__law_pick [.ref 0, .lst xs] (Box ds n :: st) = .ok (xs[pck ds n xs.length]'(pck_lt h)) (Box ds (n + 1) :: st) := by
  have e1 : (0 : Int) < (xs.length : Int) := by omega
  have e2 := atI_nat' (xs := xs) (pck_lt (ds := ds) (n := n) h)
  simp only [F__law_pick, M__law_pick, draw_is (show (0 : Int) < 900 by decide), e1, pck_int h, e2, q_runF, q_kFin, q_kFinN, q_mC, q_v0, q_v1, q_v2, q_v3, q_v4, q_v5, q_v6, q_v7, q_v8, q_v9, q_v10, q_v11, q_v12, q_v13, q_mOp, q_mTest, q_kB, q_kAnd, q_kOr, q_kNot, q_kNeg, q_kChT, q_kChF, q_mTru, q_tAnd, q_tOr, q_tNot, q_tYes, q_eAnd, q_eOr, q_eNot, q_mIf, q_aNil, q_aCons, q_mTup, q_mLst, q_mB, q_mCall, q_mNeg, q_mChain, q_sNil, q_sSeq, q_sExpr, q_sRet, q_sRetN, q_sBk, q_sCt, q_sIf, q_sAsg, q_kPutN, q_sBox, q_kBox, q_sApp, q_sSetI, q_sAug, q_kAug, q_kAug2, q_sFor, q_mRng1, q_kR1, q_kR2, q_mRng2, q_mIt, q_kItL, q_kItT, q_addI, q_addS, q_addT, q_addL, q_sub, q_mul, q_mod, q_fdv, q_pow, q_lt, q_le, q_gt, q_ge, q_iadd, q_isub, q_isN, q_notN, q_isNon_non, q_isNon_int, q_isNon_tup, q_isNon_lst, q_eqI, q_eqS, q_neI, q_neS, q_ixT, q_ixL, q_ixS, q_ixR0, q_int, q_intb, q_lenT, q_lenC, q_lenL, q_min, q_max, q_tupL, q_tupT, q_listL, q_listT, q_truB, q_truI, q_truT, q_truL, q_truN, q_bind, q_toS, q_nx, q_rt, q_bk, q_ct, q_ofO, q_noex, List.set_cons_zero, List.set_cons_succ, List.getElem?_cons_zero, List.getElem?_cons_succ, Option.map_some, Option.bind_some, List.length_cons, List.length_nil, List.map_cons, List.map_nil, Nat.reduceAdd, Nat.reduceSub, Nat.reduceLeDiff, Nat.reduceEqDiff, List.replicate_succ, List.replicate_zero, List.cons_append, List.nil_append, ↓reduceIte, if_true, if_false, Bool.false_eq_true, decide_true, decide_false, Bool.not_true, Bool.not_false, and_self, and_true, true_and, or_true, true_or, not_true_eq_false, not_false_eq_true]
  exact leave_head (box_lo _ _ _) (los_get hlo (List.getElem?_eq_getElem (pck_lt h)))
def num (ds : List Int) (n : Nat) (p : Int) : Int := (drw ds n 1000 * 1009 + drw ds (n + 1) 1000) % p
theorem num_nn {ds : List Int} {n : Nat} {p : Int} (h : 0 < p) : 0 ≤ num ds n p := Int.emod_nonneg _ (by omega)
theorem num_lt {ds : List Int} {n : Nat} {p : Int} (h : 0 < p) : num ds n p < p := Int.emod_lt_of_pos _ h
theorem number_is {ds : List Int} {n : Nat} {p : Int} {st : Store} (h : 0 < p) : F__law_number [.ref 0, .int p] (Box ds n :: st) = .ok (.int (num ds n p)) (Box ds (n + 2) :: st) := by
  have e1 : (-(2 ^ 64) < drw ds n 1000 ∧ drw ds n 1000 < 2 ^ 64) ∨ (-(2 ^ 64 : Int) < 1009 ∧ (1009 : Int) < 2 ^ 64) := .inr (by decide)
  simp only [F__law_number, M__law_number, draw_is (show (0 : Int) < 1000 by decide), e1, h, q_runF, q_kFin, q_kFinN, q_mC, q_v0, q_v1, q_v2, q_v3, q_v4, q_v5, q_v6, q_v7, q_v8, q_v9, q_v10, q_v11, q_v12, q_v13, q_mOp, q_mTest, q_kB, q_kAnd, q_kOr, q_kNot, q_kNeg, q_kChT, q_kChF, q_mTru, q_tAnd, q_tOr, q_tNot, q_tYes, q_eAnd, q_eOr, q_eNot, q_mIf, q_aNil, q_aCons, q_mTup, q_mLst, q_mB, q_mCall, q_mNeg, q_mChain, q_sNil, q_sSeq, q_sExpr, q_sRet, q_sRetN, q_sBk, q_sCt, q_sIf, q_sAsg, q_kPutN, q_sBox, q_kBox, q_sApp, q_sSetI, q_sAug, q_kAug, q_kAug2, q_sFor, q_mRng1, q_kR1, q_kR2, q_mRng2, q_mIt, q_kItL, q_kItT, q_addI, q_addS, q_addT, q_addL, q_sub, q_mul, q_mod, q_fdv, q_pow, q_lt, q_le, q_gt, q_ge, q_iadd, q_isub, q_isN, q_notN, q_isNon_non, q_isNon_int, q_isNon_tup, q_isNon_lst, q_eqI, q_eqS, q_neI, q_neS, q_ixT, q_ixL, q_ixS, q_ixR0, q_int, q_intb, q_lenT, q_lenC, q_lenL, q_min, q_max, q_tupL, q_tupT, q_listL, q_listT, q_truB, q_truI, q_truT, q_truL, q_truN, q_bind, q_toS, q_nx, q_rt, q_bk, q_ct, q_ofO, q_noex, List.set_cons_zero, List.set_cons_succ, List.getElem?_cons_zero, List.getElem?_cons_succ, Option.map_some, Option.bind_some, List.length_cons, List.length_nil, List.map_cons, List.map_nil, Nat.reduceAdd, Nat.reduceSub, Nat.reduceLeDiff, Nat.reduceEqDiff, List.replicate_succ, List.replicate_zero, List.cons_append, List.nil_append, ↓reduceIte, if_true, if_false, Bool.false_eq_true, decide_true, decide_false, Bool.not_true, Bool.not_false, and_self, and_true, true_and, or_true, true_or, not_true_eq_false, not_false_eq_true]
  exact leave_head (box_lo _ _ _) (by simp [D.lo])
theorem same_is {x y : D} {st : Store} {s : Str} (hx : bRepr [x] st = some (.str s)) (hy : bRepr [y] st = some (.str s)) : F__law_same [x, y] st = .ok (.bl true) st := by
  simp only [F__law_same, M__law_same, hx, hy, q_runF, q_kFin, q_kFinN, q_mC, q_v0, q_v1, q_v2, q_v3, q_v4, q_v5, q_v6, q_v7, q_v8, q_v9, q_v10, q_v11, q_v12, q_v13, q_mOp, q_mTest, q_kB, q_kAnd, q_kOr, q_kNot, q_kNeg, q_kChT, q_kChF, q_mTru, q_tAnd, q_tOr, q_tNot, q_tYes, q_eAnd, q_eOr, q_eNot, q_mIf, q_aNil, q_aCons, q_mTup, q_mLst, q_mB, q_mCall, q_mNeg, q_mChain, q_sNil, q_sSeq, q_sExpr, q_sRet, q_sRetN, q_sBk, q_sCt, q_sIf, q_sAsg, q_kPutN, q_sBox, q_kBox, q_sApp, q_sSetI, q_sAug, q_kAug, q_kAug2, q_sFor, q_mRng1, q_kR1, q_kR2, q_mRng2, q_mIt, q_kItL, q_kItT, q_addI, q_addS, q_addT, q_addL, q_sub, q_mul, q_mod, q_fdv, q_pow, q_lt, q_le, q_gt, q_ge, q_iadd, q_isub, q_isN, q_notN, q_isNon_non, q_isNon_int, q_isNon_tup, q_isNon_lst, q_eqI, q_eqS, q_neI, q_neS, q_ixT, q_ixL, q_ixS, q_ixR0, q_int, q_intb, q_lenT, q_lenC, q_lenL, q_min, q_max, q_tupL, q_tupT, q_listL, q_listT, q_truB, q_truI, q_truT, q_truL, q_truN, q_bind, q_toS, q_nx, q_rt, q_bk, q_ct, q_ofO, q_noex, List.set_cons_zero, List.set_cons_succ, List.getElem?_cons_zero, List.getElem?_cons_succ, Option.map_some, Option.bind_some, List.length_cons, List.length_nil, List.map_cons, List.map_nil, Nat.reduceAdd, Nat.reduceSub, Nat.reduceLeDiff, Nat.reduceEqDiff, List.replicate_succ, List.replicate_zero, List.cons_append, List.nil_append, ↓reduceIte, if_true, if_false, Bool.false_eq_true, decide_true, decide_false, Bool.not_true, Bool.not_false, and_self, and_true, true_and, or_true, true_or, not_true_eq_false, not_false_eq_true]
  exact leave_same (by simp [D.lo])
theorem same_bl {a b : Bool} {st : Store} (h : a = b) : F__law_same [.bl a, .bl b] st = .ok (.bl true) st := by
  subst h
  have e : bRepr [.bl a] st = some (.str (if a then "True" else "False")) := by cases a <;> rfl
  exact same_is e e
/-- the cell of a script -/
def cel (ns : List Int) (k : Nat) : Int := if k < ns.length then ns[k]?.getD 0 else 0
theorem cell_is {ns : List Int} {k : Nat} {st : Store} : F__law_cell [.scr ns, .int (k : Int)] st = .ok (.int (cel ns k)) st := by
  by_cases hl : k < ns.length
  · have e2 : (k : Int) < (ns.length : Int) := by omega
    have e3 : atI ns (k : Int) = some ns[k] := atI_nat' hl
    have e4 : cel ns k = ns[k] := by unfold cel; rw [if_pos hl, List.getElem?_eq_getElem hl]; rfl
    simp only [F__law_cell, M__law_cell, e2, e3, e4, q_runF, q_kFin, q_kFinN, q_mC, q_v0, q_v1, q_v2, q_v3, q_v4, q_v5, q_v6, q_v7, q_v8, q_v9, q_v10, q_v11, q_v12, q_v13, q_mOp, q_mTest, q_kB, q_kAnd, q_kOr, q_kNot, q_kNeg, q_kChT, q_kChF, q_mTru, q_tAnd, q_tOr, q_tNot, q_tYes, q_eAnd, q_eOr, q_eNot, q_mIf, q_aNil, q_aCons, q_mTup, q_mLst, q_mB, q_mCall, q_mNeg, q_mChain, q_sNil, q_sSeq, q_sExpr, q_sRet, q_sRetN, q_sBk, q_sCt, q_sIf, q_sAsg, q_kPutN, q_sBox, q_kBox, q_sApp, q_sSetI, q_sAug, q_kAug, q_kAug2, q_sFor, q_mRng1, q_kR1, q_kR2, q_mRng2, q_mIt, q_kItL, q_kItT, q_addI, q_addS, q_addT, q_addL, q_sub, q_mul, q_mod, q_fdv, q_pow, q_lt, q_le, q_gt, q_ge, q_iadd, q_isub, q_isN, q_notN, q_isNon_non, q_isNon_int, q_isNon_tup, q_isNon_lst, q_eqI, q_eqS, q_neI, q_neS, q_ixT, q_ixL, q_ixS, q_ixR0, q_int, q_intb, q_lenT, q_lenC, q_lenL, q_min, q_max, q_tupL, q_tupT, q_listL, q_listT, q_truB, q_truI, q_truT, q_truL, q_truN, q_bind, q_toS, q_nx, q_rt, q_bk, q_ct, q_ofO, q_noex, List.set_cons_zero, List.set_cons_succ, List.getElem?_cons_zero, List.getElem?_cons_succ, Option.map_some, Option.bind_some, List.length_cons, List.length_nil, List.map_cons, List.map_nil, Nat.reduceAdd, Nat.reduceSub, Nat.reduceLeDiff, Nat.reduceEqDiff, List.replicate_succ, List.replicate_zero, List.cons_append, List.nil_append, ↓reduceIte, if_true, if_false, Bool.false_eq_true, decide_true, decide_false, Bool.not_true, Bool.not_false, and_self, and_true, true_and, or_true, true_or, not_true_eq_false, not_false_eq_true]
    exact leave_same (by simp [D.lo])
  · have e2 : ¬ (k : Int) < (ns.length : Int) := by omega
    have e4 : cel ns k = 0 := by unfold cel; rw [if_neg hl]
    simp only [F__law_cell, M__law_cell, e2, e4, q_runF, q_kFin, q_kFinN, q_mC, q_v0, q_v1, q_v2, q_v3, q_v4, q_v5, q_v6, q_v7, q_v8, q_v9, q_v10, q_v11, q_v12, q_v13, q_mOp, q_mTest, q_kB, q_kAnd, q_kOr, q_kNot, q_kNeg, q_kChT, q_kChF, q_mTru, q_tAnd, q_tOr, q_tNot, q_tYes, q_eAnd, q_eOr, q_eNot, q_mIf, q_aNil, q_aCons, q_mTup, q_mLst, q_mB, q_mCall, q_mNeg, q_mChain, q_sNil, q_sSeq, q_sExpr, q_sRet, q_sRetN, q_sBk, q_sCt, q_sIf, q_sAsg, q_kPutN, q_sBox, q_kBox, q_sApp, q_sSetI, q_sAug, q_kAug, q_kAug2, q_sFor, q_mRng1, q_kR1, q_kR2, q_mRng2, q_mIt, q_kItL, q_kItT, q_addI, q_addS, q_addT, q_addL, q_sub, q_mul, q_mod, q_fdv, q_pow, q_lt, q_le, q_gt, q_ge, q_iadd, q_isub, q_isN, q_notN, q_isNon_non, q_isNon_int, q_isNon_tup, q_isNon_lst, q_eqI, q_eqS, q_neI, q_neS, q_ixT, q_ixL, q_ixS, q_ixR0, q_int, q_intb, q_lenT, q_lenC, q_lenL, q_min, q_max, q_tupL, q_tupT, q_listL, q_listT, q_truB, q_truI, q_truT, q_truL, q_truN, q_bind, q_toS, q_nx, q_rt, q_bk, q_ct, q_ofO, q_noex, List.set_cons_zero, List.set_cons_succ, List.getElem?_cons_zero, List.getElem?_cons_succ, Option.map_some, Option.bind_some, List.length_cons, List.length_nil, List.map_cons, List.map_nil, Nat.reduceAdd, Nat.reduceSub, Nat.reduceLeDiff, Nat.reduceEqDiff, List.replicate_succ, List.replicate_zero, List.cons_append, List.nil_append, ↓reduceIte, if_true, if_false, Bool.false_eq_true, decide_true, decide_false, Bool.not_true, Bool.not_false, and_self, and_true, true_and, or_true, true_or, not_true_eq_false, not_false_eq_true]
    exact leave_same (by simp [D.lo])
theorem at_last (st : Store) (c : Cell) : (st ++ [c])[st.length]? = some c := by rw [List.getElem?_append_right (Nat.le_refl _), Nat.sub_self]; rfl
theorem set_last (st : Store) (c c' : Cell) : (st ++ [c]).set st.length c' = st ++ [c'] := by rw [List.set_append_right _ _ (Nat.le_refl _), Nat.sub_self]; rfl
/-- the slots of digits while its list is in the last cell -/
def dgE (st : Store) (x0 x1 x2 k c t sd : Option D) : Sl := [x0, x1, x2, some (.ref st.length), k, c, t, sd]
def dgS (st : Store) (ds : List Int) : Store := st ++ [.lst (ds.map .int)]
theorem dg_app {st : Store} {ds : List Int} {x : Int} : (dgS st ds).set st.length (.lst (ds.map D.int ++ [.int x])) = dgS st (ds ++ [x]) := by
  unfold dgS
  rw [set_last, List.map_append]
  rfl
theorem dg_at {st : Store} {ds : List Int} : (dgS st ds)[st.length]? = some (.lst (ds.map D.int)) := at_last _ _
theorem dig1 {st : Store} {x0 x1 x2 k t sd : Option D} (n m : Nat) (hm : m + n < sizeLine) (c : Int) (ds : List Int) (hd : ds.length ≤ m) : ∃ (ds' : List Int) (c' t' : Option D), ds'.length ≤ m + n ∧
    forL (.nm 6) B__law_digits1 (Held []) (rngD 0 n) (dgE st x0 x1 x2 k (some (.int c)) t sd) (dgS st ds) = .ok .nx (dgE st x0 x1 x2 k c' t' sd) (dgS st ds') := by
  obtain ⟨es, s, e, ds', c', t', rfl, rfl, h⟩ := forL_rng (t := .nm 6) (P := Held []) (body := B__law_digits1) (lo := 0) (n := n) (es := dgE st x0 x1 x2 k (some (.int c)) t sd) (st := dgS st ds)
    (fun i es s => ∃ (ds : List Int) (c : Int) (t : Option D), es = dgE st x0 x1 x2 k (some (.int c)) t sd ∧ s = dgS st ds ∧ ds.length ≤ m + i) (by
      rintro j es s hj ⟨ds, c, t, rfl, rfl, hl⟩
      refine ⟨trivial, _, rfl, ?_⟩
      by_cases hp : 0 < c
      · have hz : ds.length < sizeLine := by omega
        have w : (0 : Int) < 1000 ∧ (1000 : Int) < 1073741824 := by decide
        have w' : (0 : Int) < 1000 := by decide
        exact ⟨dgE st x0 x1 x2 k (some (.int (c / 1000))) (some (.int (0 + (j : Int)))) sd, dgS st (ds ++ [c % 1000]), .inl (by simp only [B__law_digits1, dgE, hp, hz, w, w', q_kApp dg_at, q_kApp2 dg_at (show (ds.map D.int).length < sizeLine by rw [List.length_map]; exact hz), dg_app, q_runF, q_kFin, q_kFinN, q_mC, q_v0, q_v1, q_v2, q_v3, q_v4, q_v5, q_v6, q_v7, q_v8, q_v9, q_v10, q_v11, q_v12, q_v13, q_mOp, q_mTest, q_kB, q_kAnd, q_kOr, q_kNot, q_kNeg, q_kChT, q_kChF, q_mTru, q_tAnd, q_tOr, q_tNot, q_tYes, q_eAnd, q_eOr, q_eNot, q_mIf, q_aNil, q_aCons, q_mTup, q_mLst, q_mB, q_mCall, q_mNeg, q_mChain, q_sNil, q_sSeq, q_sExpr, q_sRet, q_sRetN, q_sBk, q_sCt, q_sIf, q_sAsg, q_kPutN, q_sBox, q_kBox, q_sApp, q_sSetI, q_sAug, q_kAug, q_kAug2, q_sFor, q_mRng1, q_kR1, q_kR2, q_mRng2, q_mIt, q_kItL, q_kItT, q_addI, q_addS, q_addT, q_addL, q_sub, q_mul, q_mod, q_fdv, q_pow, q_lt, q_le, q_gt, q_ge, q_iadd, q_isub, q_isN, q_notN, q_isNon_non, q_isNon_int, q_isNon_tup, q_isNon_lst, q_eqI, q_eqS, q_neI, q_neS, q_ixT, q_ixL, q_ixS, q_ixR0, q_int, q_intb, q_lenT, q_lenC, q_lenL, q_min, q_max, q_tupL, q_tupT, q_listL, q_listT, q_truB, q_truI, q_truT, q_truL, q_truN, q_bind, q_toS, q_nx, q_rt, q_bk, q_ct, q_ofO, q_noex, List.set_cons_zero, List.set_cons_succ, List.getElem?_cons_zero, List.getElem?_cons_succ, Option.map_some, Option.bind_some, List.length_cons, List.length_nil, List.map_cons, List.map_nil, Nat.reduceAdd, Nat.reduceSub, Nat.reduceLeDiff, Nat.reduceEqDiff, List.replicate_succ, List.replicate_zero, List.cons_append, List.nil_append, ↓reduceIte, if_true, if_false, Bool.false_eq_true, decide_true, decide_false, Bool.not_true, Bool.not_false, and_self, and_true, true_and, or_true, true_or, not_true_eq_false, not_false_eq_true]), _, _, _, rfl, rfl, by simp; omega⟩
      · exact ⟨dgE st x0 x1 x2 k (some (.int c)) (some (.int (0 + (j : Int)))) sd, dgS st ds, .inl (by simp only [B__law_digits1, dgE, hp, q_runF, q_kFin, q_kFinN, q_mC, q_v0, q_v1, q_v2, q_v3, q_v4, q_v5, q_v6, q_v7, q_v8, q_v9, q_v10, q_v11, q_v12, q_v13, q_mOp, q_mTest, q_kB, q_kAnd, q_kOr, q_kNot, q_kNeg, q_kChT, q_kChF, q_mTru, q_tAnd, q_tOr, q_tNot, q_tYes, q_eAnd, q_eOr, q_eNot, q_mIf, q_aNil, q_aCons, q_mTup, q_mLst, q_mB, q_mCall, q_mNeg, q_mChain, q_sNil, q_sSeq, q_sExpr, q_sRet, q_sRetN, q_sBk, q_sCt, q_sIf, q_sAsg, q_kPutN, q_sBox, q_kBox, q_sApp, q_sSetI, q_sAug, q_kAug, q_kAug2, q_sFor, q_mRng1, q_kR1, q_kR2, q_mRng2, q_mIt, q_kItL, q_kItT, q_addI, q_addS, q_addT, q_addL, q_sub, q_mul, q_mod, q_fdv, q_pow, q_lt, q_le, q_gt, q_ge, q_iadd, q_isub, q_isN, q_notN, q_isNon_non, q_isNon_int, q_isNon_tup, q_isNon_lst, q_eqI, q_eqS, q_neI, q_neS, q_ixT, q_ixL, q_ixS, q_ixR0, q_int, q_intb, q_lenT, q_lenC, q_lenL, q_min, q_max, q_tupL, q_tupT, q_listL, q_listT, q_truB, q_truI, q_truT, q_truL, q_truN, q_bind, q_toS, q_nx, q_rt, q_bk, q_ct, q_ofO, q_noex, List.set_cons_zero, List.set_cons_succ, List.getElem?_cons_zero, List.getElem?_cons_succ, Option.map_some, Option.bind_some, List.length_cons, List.length_nil, List.map_cons, List.map_nil, Nat.reduceAdd, Nat.reduceSub, Nat.reduceLeDiff, Nat.reduceEqDiff, List.replicate_succ, List.replicate_zero, List.cons_append, List.nil_append, ↓reduceIte, if_true, if_false, Bool.false_eq_true, decide_true, decide_false, Bool.not_true, Bool.not_false, and_self, and_true, true_and, or_true, true_or, not_true_eq_false, not_false_eq_true]), _, _, _, rfl, rfl, by omega⟩)
    (fun _ _ _ => trivial) ⟨ds, c, t, rfl, rfl, by omega⟩
  exact ⟨ds', _, _, h, e⟩
theorem mul_r {z y : Int} (h : -(2 ^ 64) < y ∧ y < 2 ^ 64) : (-(2 ^ 64) < z ∧ z < 2 ^ 64) ∨ (-(2 ^ 64) < y ∧ y < 2 ^ 64) := .inr h
theorem dig2 {st : Store} {x0 x1 x2 k c t : Option D} (n m : Nat) (hm : m + n < sizeLine) (sd : Int) (ds : List Int) (hd : ds.length ≤ m) : ∃ (ds' : List Int) (sd' t' : Option D), ds'.length ≤ m + n ∧
    forL (.nm 6) B__law_digits2 (Held []) (rngD 0 n) (dgE st x0 x1 x2 k c t (some (.int sd))) (dgS st ds) = .ok .nx (dgE st x0 x1 x2 k c t' sd') (dgS st ds') := by
  obtain ⟨es, s, e, ds', c', t', rfl, rfl, h⟩ := forL_rng (t := .nm 6) (P := Held []) (body := B__law_digits2) (lo := 0) (n := n) (es := dgE st x0 x1 x2 k c t (some (.int sd))) (st := dgS st ds)
    (fun i es s => ∃ (ds : List Int) (sd : Int) (t : Option D), es = dgE st x0 x1 x2 k c t (some (.int sd)) ∧ s = dgS st ds ∧ ds.length ≤ m + i) (by
      rintro j es s hj ⟨ds, sd, t, rfl, rfl, hl⟩
      refine ⟨trivial, _, rfl, ?_⟩
      have hz : ds.length < sizeLine := by omega
      have w : (0 : Int) < 997 ∧ (997 : Int) < 1073741824 := by decide
      have w' : (0 : Int) < 1000 := by decide
      have w2 : (0 : Int) < 2147483647 := by decide
      have w3 : ∀ z : Int, (-(2 ^ 64) < z ∧ z < 2 ^ 64) ∨ (-(2 ^ 64 : Int) < 16807 ∧ (16807 : Int) < 2 ^ 64) := fun _ => .inr (by decide)
      have w4 : ∀ z : Int, (-(2 ^ 64 : Int) < 7 ∧ (7 : Int) < 2 ^ 64) ∨ (-(2 ^ 64) < z ∧ z < 2 ^ 64) := fun _ => .inl (by decide)
      exact ⟨dgE st x0 x1 x2 k c (some (.int (0 + (j : Int)))) (some (.int ((sd * 16807 + 7 * (0 + (j : Int)) + 1) % 2147483647))), dgS st (ds ++ [((sd * 16807 + 7 * (0 + (j : Int)) + 1) % 2147483647) / 997 % 1000]),
        .inl (by simp only [B__law_digits2, dgE, hz, w, w', w2, w3, w4, q_kApp dg_at, q_kApp2 dg_at (show (ds.map D.int).length < sizeLine by rw [List.length_map]; exact hz), dg_app, q_runF, q_kFin, q_kFinN, q_mC, q_v0, q_v1, q_v2, q_v3, q_v4, q_v5, q_v6, q_v7, q_v8, q_v9, q_v10, q_v11, q_v12, q_v13, q_mOp, q_mTest, q_kB, q_kAnd, q_kOr, q_kNot, q_kNeg, q_kChT, q_kChF, q_mTru, q_tAnd, q_tOr, q_tNot, q_tYes, q_eAnd, q_eOr, q_eNot, q_mIf, q_aNil, q_aCons, q_mTup, q_mLst, q_mB, q_mCall, q_mNeg, q_mChain, q_sNil, q_sSeq, q_sExpr, q_sRet, q_sRetN, q_sBk, q_sCt, q_sIf, q_sAsg, q_kPutN, q_sBox, q_kBox, q_sApp, q_sSetI, q_sAug, q_kAug, q_kAug2, q_sFor, q_mRng1, q_kR1, q_kR2, q_mRng2, q_mIt, q_kItL, q_kItT, q_addI, q_addS, q_addT, q_addL, q_sub, q_mul, q_mod, q_fdv, q_pow, q_lt, q_le, q_gt, q_ge, q_iadd, q_isub, q_isN, q_notN, q_isNon_non, q_isNon_int, q_isNon_tup, q_isNon_lst, q_eqI, q_eqS, q_neI, q_neS, q_ixT, q_ixL, q_ixS, q_ixR0, q_int, q_intb, q_lenT, q_lenC, q_lenL, q_min, q_max, q_tupL, q_tupT, q_listL, q_listT, q_truB, q_truI, q_truT, q_truL, q_truN, q_bind, q_toS, q_nx, q_rt, q_bk, q_ct, q_ofO, q_noex, List.set_cons_zero, List.set_cons_succ, List.getElem?_cons_zero, List.getElem?_cons_succ, Option.map_some, Option.bind_some, List.length_cons, List.length_nil, List.map_cons, List.map_nil, Nat.reduceAdd, Nat.reduceSub, Nat.reduceLeDiff, Nat.reduceEqDiff, List.replicate_succ, List.replicate_zero, List.cons_append, List.nil_append, ↓reduceIte, if_true, if_false, Bool.false_eq_true, decide_true, decide_false, Bool.not_true, Bool.not_false, and_self, and_true, true_and, or_true, true_or, not_true_eq_false, not_false_eq_true]), _, _, _, rfl, rfl, by simp; omega⟩)
    (fun _ _ _ => trivial) ⟨ds, sd, t, rfl, rfl, by omega⟩
  exact ⟨ds', _, _, h, e⟩
theorem dig3 {ns : List Int} {st : Store} {x1 x2 c t sd : Option D} (q m : Nat) (hm : m + 60 < sizeLine) (ds : List Int) (hd : ds.length ≤ m) : ∃ (ds' : List Int) (c' t' sd' : Option D), ds'.length ≤ m + 60 ∧
    B__law_digits3 (dgE st (some (.scr ns)) x1 x2 (some (.int (q : Int))) c t sd) (dgS st ds) = .ok .nx (dgE st (some (.scr ns)) x1 x2 (some (.int (q : Int))) c' t' sd') (dgS st ds') := by
  have w6 : (0 : Int) ≤ 18 ∧ (18 : Int) ≤ 1000000 ∧ (10 : Int).natAbs < 2 ^ 64 := by decide
  have w7 : (-(2 ^ 62) : Int) ≤ 60 ∧ (60 : Int) < 2 ^ 62 := by decide
  have w8 : (-(2 ^ 62) : Int) ≤ 12 ∧ (12 : Int) < 2 ^ 62 := by decide
  have w5 : ∀ z : Int, (-(2 ^ 64 : Int) < 2 ∧ (2 : Int) < 2 ^ 64) ∨ (-(2 ^ 64) < z ∧ z < 2 ^ 64) := fun _ => .inl (by decide)
  have w1 : ∀ z : Int, (-(2 ^ 64) < z ∧ z < 2 ^ 64) ∨ (-(2 ^ 64 : Int) < 48271 ∧ (48271 : Int) < 2 ^ 64) := fun _ => .inr (by decide)
  have w2 : ∀ z : Int, (-(2 ^ 64) < z ∧ z < 2 ^ 64) ∨ (-(2 ^ 64 : Int) < 69621 ∧ (69621 : Int) < 2 ^ 64) := fun _ => .inr (by decide)
  have w3 : (0 : Int) < 2147483647 := by decide
  obtain ⟨c, hc⟩ : ∃ c : Int, (if cel ns q < 0 then 1 - 2 * cel ns q else cel ns q) = c := ⟨_, rfl⟩
  by_cases hneg : cel ns q < 0
  · rw [if_pos hneg] at hc
    by_cases hb : (10 : Int) ^ 18 ≤ c
    · obtain ⟨ds', c', t', hl, e⟩ := dig1 (st := st) (x0 := some (.scr ns)) (x1 := x1) (x2 := x2) (k := some (.int (q : Int))) (t := t) (sd := sd) 60 m hm c ds hd
      refine ⟨ds', c', t', sd, hl, ?_⟩
      rw [← hc] at hb e
      unfold dgE at e ⊢
      simp only [B__law_digits3, cell_is, hneg, hb, w5, w6, w7, Int.reduceToNat, e, q_runF, q_kFin, q_kFinN, q_mC, q_v0, q_v1, q_v2, q_v3, q_v4, q_v5, q_v6, q_v7, q_v8, q_v9, q_v10, q_v11, q_v12, q_v13, q_mOp, q_mTest, q_kB, q_kAnd, q_kOr, q_kNot, q_kNeg, q_kChT, q_kChF, q_mTru, q_tAnd, q_tOr, q_tNot, q_tYes, q_eAnd, q_eOr, q_eNot, q_mIf, q_aNil, q_aCons, q_mTup, q_mLst, q_mB, q_mCall, q_mNeg, q_mChain, q_sNil, q_sSeq, q_sExpr, q_sRet, q_sRetN, q_sBk, q_sCt, q_sIf, q_sAsg, q_kPutN, q_sBox, q_kBox, q_sApp, q_sSetI, q_sAug, q_kAug, q_kAug2, q_sFor, q_mRng1, q_kR1, q_kR2, q_mRng2, q_mIt, q_kItL, q_kItT, q_addI, q_addS, q_addT, q_addL, q_sub, q_mul, q_mod, q_fdv, q_pow, q_lt, q_le, q_gt, q_ge, q_iadd, q_isub, q_isN, q_notN, q_isNon_non, q_isNon_int, q_isNon_tup, q_isNon_lst, q_eqI, q_eqS, q_neI, q_neS, q_ixT, q_ixL, q_ixS, q_ixR0, q_int, q_intb, q_lenT, q_lenC, q_lenL, q_min, q_max, q_tupL, q_tupT, q_listL, q_listT, q_truB, q_truI, q_truT, q_truL, q_truN, q_bind, q_toS, q_nx, q_rt, q_bk, q_ct, q_ofO, q_noex, List.set_cons_zero, List.set_cons_succ, List.getElem?_cons_zero, List.getElem?_cons_succ, Option.map_some, Option.bind_some, List.length_cons, List.length_nil, List.map_cons, List.map_nil, Nat.reduceAdd, Nat.reduceSub, Nat.reduceLeDiff, Nat.reduceEqDiff, List.replicate_succ, List.replicate_zero, List.cons_append, List.nil_append, ↓reduceIte, if_true, if_false, Bool.false_eq_true, decide_true, decide_false, Bool.not_true, Bool.not_false, and_self, and_true, true_and, or_true, true_or, not_true_eq_false, not_false_eq_true]
    · obtain ⟨ds', sd', t', hl, e⟩ := dig2 (st := st) (x0 := some (.scr ns)) (x1 := x1) (x2 := x2) (k := some (.int (q : Int))) (c := some (.int c)) (t := t) 12 m (by omega) ((c * 48271 + (q : Int) * 69621 + 11) % 2147483647) ds hd
      refine ⟨ds', some (.int c), t', sd', by omega, ?_⟩
      rw [← hc] at hb e ⊢
      unfold dgE at e ⊢
      simp only [B__law_digits3, cell_is, hneg, hb, w1, w2, w3, w5, w6, w8, Int.reduceToNat, e, q_runF, q_kFin, q_kFinN, q_mC, q_v0, q_v1, q_v2, q_v3, q_v4, q_v5, q_v6, q_v7, q_v8, q_v9, q_v10, q_v11, q_v12, q_v13, q_mOp, q_mTest, q_kB, q_kAnd, q_kOr, q_kNot, q_kNeg, q_kChT, q_kChF, q_mTru, q_tAnd, q_tOr, q_tNot, q_tYes, q_eAnd, q_eOr, q_eNot, q_mIf, q_aNil, q_aCons, q_mTup, q_mLst, q_mB, q_mCall, q_mNeg, q_mChain, q_sNil, q_sSeq, q_sExpr, q_sRet, q_sRetN, q_sBk, q_sCt, q_sIf, q_sAsg, q_kPutN, q_sBox, q_kBox, q_sApp, q_sSetI, q_sAug, q_kAug, q_kAug2, q_sFor, q_mRng1, q_kR1, q_kR2, q_mRng2, q_mIt, q_kItL, q_kItT, q_addI, q_addS, q_addT, q_addL, q_sub, q_mul, q_mod, q_fdv, q_pow, q_lt, q_le, q_gt, q_ge, q_iadd, q_isub, q_isN, q_notN, q_isNon_non, q_isNon_int, q_isNon_tup, q_isNon_lst, q_eqI, q_eqS, q_neI, q_neS, q_ixT, q_ixL, q_ixS, q_ixR0, q_int, q_intb, q_lenT, q_lenC, q_lenL, q_min, q_max, q_tupL, q_tupT, q_listL, q_listT, q_truB, q_truI, q_truT, q_truL, q_truN, q_bind, q_toS, q_nx, q_rt, q_bk, q_ct, q_ofO, q_noex, List.set_cons_zero, List.set_cons_succ, List.getElem?_cons_zero, List.getElem?_cons_succ, Option.map_some, Option.bind_some, List.length_cons, List.length_nil, List.map_cons, List.map_nil, Nat.reduceAdd, Nat.reduceSub, Nat.reduceLeDiff, Nat.reduceEqDiff, List.replicate_succ, List.replicate_zero, List.cons_append, List.nil_append, ↓reduceIte, if_true, if_false, Bool.false_eq_true, decide_true, decide_false, Bool.not_true, Bool.not_false, and_self, and_true, true_and, or_true, true_or, not_true_eq_false, not_false_eq_true]
  · rw [if_neg hneg] at hc
    by_cases hb : (10 : Int) ^ 18 ≤ c
    · obtain ⟨ds', c', t', hl, e⟩ := dig1 (st := st) (x0 := some (.scr ns)) (x1 := x1) (x2 := x2) (k := some (.int (q : Int))) (t := t) (sd := sd) 60 m hm c ds hd
      refine ⟨ds', c', t', sd, hl, ?_⟩
      rw [← hc] at hb e
      unfold dgE at e ⊢
      simp only [B__law_digits3, cell_is, hneg, hb, w5, w6, w7, Int.reduceToNat, e, q_runF, q_kFin, q_kFinN, q_mC, q_v0, q_v1, q_v2, q_v3, q_v4, q_v5, q_v6, q_v7, q_v8, q_v9, q_v10, q_v11, q_v12, q_v13, q_mOp, q_mTest, q_kB, q_kAnd, q_kOr, q_kNot, q_kNeg, q_kChT, q_kChF, q_mTru, q_tAnd, q_tOr, q_tNot, q_tYes, q_eAnd, q_eOr, q_eNot, q_mIf, q_aNil, q_aCons, q_mTup, q_mLst, q_mB, q_mCall, q_mNeg, q_mChain, q_sNil, q_sSeq, q_sExpr, q_sRet, q_sRetN, q_sBk, q_sCt, q_sIf, q_sAsg, q_kPutN, q_sBox, q_kBox, q_sApp, q_sSetI, q_sAug, q_kAug, q_kAug2, q_sFor, q_mRng1, q_kR1, q_kR2, q_mRng2, q_mIt, q_kItL, q_kItT, q_addI, q_addS, q_addT, q_addL, q_sub, q_mul, q_mod, q_fdv, q_pow, q_lt, q_le, q_gt, q_ge, q_iadd, q_isub, q_isN, q_notN, q_isNon_non, q_isNon_int, q_isNon_tup, q_isNon_lst, q_eqI, q_eqS, q_neI, q_neS, q_ixT, q_ixL, q_ixS, q_ixR0, q_int, q_intb, q_lenT, q_lenC, q_lenL, q_min, q_max, q_tupL, q_tupT, q_listL, q_listT, q_truB, q_truI, q_truT, q_truL, q_truN, q_bind, q_toS, q_nx, q_rt, q_bk, q_ct, q_ofO, q_noex, List.set_cons_zero, List.set_cons_succ, List.getElem?_cons_zero, List.getElem?_cons_succ, Option.map_some, Option.bind_some, List.length_cons, List.length_nil, List.map_cons, List.map_nil, Nat.reduceAdd, Nat.reduceSub, Nat.reduceLeDiff, Nat.reduceEqDiff, List.replicate_succ, List.replicate_zero, List.cons_append, List.nil_append, ↓reduceIte, if_true, if_false, Bool.false_eq_true, decide_true, decide_false, Bool.not_true, Bool.not_false, and_self, and_true, true_and, or_true, true_or, not_true_eq_false, not_false_eq_true]
    · obtain ⟨ds', sd', t', hl, e⟩ := dig2 (st := st) (x0 := some (.scr ns)) (x1 := x1) (x2 := x2) (k := some (.int (q : Int))) (c := some (.int c)) (t := t) 12 m (by omega) ((c * 48271 + (q : Int) * 69621 + 11) % 2147483647) ds hd
      refine ⟨ds', some (.int c), t', sd', by omega, ?_⟩
      rw [← hc] at hb e ⊢
      unfold dgE at e ⊢
      simp only [B__law_digits3, cell_is, hneg, hb, w1, w2, w3, w5, w6, w8, Int.reduceToNat, e, q_runF, q_kFin, q_kFinN, q_mC, q_v0, q_v1, q_v2, q_v3, q_v4, q_v5, q_v6, q_v7, q_v8, q_v9, q_v10, q_v11, q_v12, q_v13, q_mOp, q_mTest, q_kB, q_kAnd, q_kOr, q_kNot, q_kNeg, q_kChT, q_kChF, q_mTru, q_tAnd, q_tOr, q_tNot, q_tYes, q_eAnd, q_eOr, q_eNot, q_mIf, q_aNil, q_aCons, q_mTup, q_mLst, q_mB, q_mCall, q_mNeg, q_mChain, q_sNil, q_sSeq, q_sExpr, q_sRet, q_sRetN, q_sBk, q_sCt, q_sIf, q_sAsg, q_kPutN, q_sBox, q_kBox, q_sApp, q_sSetI, q_sAug, q_kAug, q_kAug2, q_sFor, q_mRng1, q_kR1, q_kR2, q_mRng2, q_mIt, q_kItL, q_kItT, q_addI, q_addS, q_addT, q_addL, q_sub, q_mul, q_mod, q_fdv, q_pow, q_lt, q_le, q_gt, q_ge, q_iadd, q_isub, q_isN, q_notN, q_isNon_non, q_isNon_int, q_isNon_tup, q_isNon_lst, q_eqI, q_eqS, q_neI, q_neS, q_ixT, q_ixL, q_ixS, q_ixR0, q_int, q_intb, q_lenT, q_lenC, q_lenL, q_min, q_max, q_tupL, q_tupT, q_listL, q_listT, q_truB, q_truI, q_truT, q_truL, q_truN, q_bind, q_toS, q_nx, q_rt, q_bk, q_ct, q_ofO, q_noex, List.set_cons_zero, List.set_cons_succ, List.getElem?_cons_zero, List.getElem?_cons_succ, Option.map_some, Option.bind_some, List.length_cons, List.length_nil, List.map_cons, List.map_nil, Nat.reduceAdd, Nat.reduceSub, Nat.reduceLeDiff, Nat.reduceEqDiff, List.replicate_succ, List.replicate_zero, List.cons_append, List.nil_append, ↓reduceIte, if_true, if_false, Bool.false_eq_true, decide_true, decide_false, Bool.not_true, Bool.not_false, and_self, and_true, true_and, or_true, true_or, not_true_eq_false, not_false_eq_true]
theorem digits_is {ns : List Int} {a b : Nat} (ha : a ≤ 1000) (hb : b ≤ 1000) {st : Store} : ∃ ds : List Int, F__law_digits [.scr ns, .int (a : Int), .int (b : Int)] st = .ok (.lst (ds.map .int)) st := by
  have hs : sizeLine = 16777216 := rfl
  have w0 : (-(2 ^ 62) : Int) ≤ (a : Int) ∧ (a : Int) < 2 ^ 62 ∧ (-(2 ^ 62) : Int) ≤ (b : Int) ∧ (b : Int) < 2 ^ 62 := by
    refine ⟨?_, ?_, ?_, ?_⟩ <;> omega
  obtain ⟨es, s, e, ds', k', c', t', sd', rfl, rfl, h⟩ := forL_rng (t := .nm 4) (P := Held []) (body := B__law_digits3) (lo := (a : Int)) (n := ((b : Int) - (a : Int)).toNat) (es := dgE st (some (.scr ns)) (some (.int (a : Int))) (some (.int (b : Int))) none none none none) (st := dgS st [])
    (fun i es s => ∃ (ds : List Int) (k c t sd : Option D), es = dgE st (some (.scr ns)) (some (.int (a : Int))) (some (.int (b : Int))) k c t sd ∧ s = dgS st ds ∧ ds.length ≤ 60 * i) (by
      rintro j es s hj ⟨ds, k, c, t, sd, rfl, rfl, hl⟩
      obtain ⟨ds', c', t', sd', h1, h2⟩ := dig3 (ns := ns) (st := st) (x1 := some (.int (a : Int))) (x2 := some (.int (b : Int))) (c := c) (t := t) (sd := sd) (a + j) (60 * j) (by omega) ds hl
      have ek : (a : Int) + (j : Int) = ((a + j : Nat) : Int) := by omega
      exact ⟨trivial, _, rfl, _, _, .inl (by rw [ek]; exact h2), _, _, _, _, _, rfl, rfl, by omega⟩)
    (fun _ _ _ => trivial) ⟨[], _, _, _, _, rfl, rfl, by simp⟩
  refine ⟨ds', ?_⟩
  unfold dgE dgS at e
  have hz : (0 : Nat) ≤ sizeLine := Nat.zero_le _
  simp only [List.map_nil] at e
  simp only [F__law_digits, M__law_digits, w0, hz, e, q_runF, q_kFin, q_kFinN, q_mC, q_v0, q_v1, q_v2, q_v3, q_v4, q_v5, q_v6, q_v7, q_v8, q_v9, q_v10, q_v11, q_v12, q_v13, q_mOp, q_mTest, q_kB, q_kAnd, q_kOr, q_kNot, q_kNeg, q_kChT, q_kChF, q_mTru, q_tAnd, q_tOr, q_tNot, q_tYes, q_eAnd, q_eOr, q_eNot, q_mIf, q_aNil, q_aCons, q_mTup, q_mLst, q_mB, q_mCall, q_mNeg, q_mChain, q_sNil, q_sSeq, q_sExpr, q_sRet, q_sRetN, q_sBk, q_sCt, q_sIf, q_sAsg, q_kPutN, q_sBox, q_kBox, q_sApp, q_sSetI, q_sAug, q_kAug, q_kAug2, q_sFor, q_mRng1, q_kR1, q_kR2, q_mRng2, q_mIt, q_kItL, q_kItT, q_addI, q_addS, q_addT, q_addL, q_sub, q_mul, q_mod, q_fdv, q_pow, q_lt, q_le, q_gt, q_ge, q_iadd, q_isub, q_isN, q_notN, q_isNon_non, q_isNon_int, q_isNon_tup, q_isNon_lst, q_eqI, q_eqS, q_neI, q_neS, q_ixT, q_ixL, q_ixS, q_ixR0, q_int, q_intb, q_lenT, q_lenC, q_lenL, q_min, q_max, q_tupL, q_tupT, q_listL, q_listT, q_truB, q_truI, q_truT, q_truL, q_truN, q_bind, q_toS, q_nx, q_rt, q_bk, q_ct, q_ofO, q_noex, List.set_cons_zero, List.set_cons_succ, List.getElem?_cons_zero, List.getElem?_cons_succ, Option.map_some, Option.bind_some, List.length_cons, List.length_nil, List.map_cons, List.map_nil, Nat.reduceAdd, Nat.reduceSub, Nat.reduceLeDiff, Nat.reduceEqDiff, List.replicate_succ, List.replicate_zero, List.cons_append, List.nil_append, ↓reduceIte, if_true, if_false, Bool.false_eq_true, decide_true, decide_false, Bool.not_true, Bool.not_false, and_self, and_true, true_and, or_true, true_or, not_true_eq_false, not_false_eq_true]
  exact leave_new (more := []) (los_ints _ _)
end Zp
/-! numbers below a prime, without the machine -/
namespace Zn
theorem pow_mod (a p : Int) : ∀ k : Nat, (a % p) ^ k % p = a ^ k % p
  | 0 => by rw [Int.pow_zero, Int.pow_zero]
  | k + 1 => by rw [Int.pow_succ, Int.pow_succ, Int.mul_emod, pow_mod a p k, Int.emod_emod_of_dvd _ (Int.dvd_refl p), ← Int.mul_emod]
theorem mul_mod_l (a b p : Int) : (a % p * b) % p = a * b % p := by rw [Int.mul_emod, Int.emod_emod_of_dvd _ (Int.dvd_refl p), ← Int.mul_emod]
theorem mul_mod_r (a b p : Int) : (a * (b % p)) % p = a * b % p := by rw [Int.mul_emod, Int.emod_emod_of_dvd _ (Int.dvd_refl p), ← Int.mul_emod]
/-- one turn of raising by squares -/
theorem sq_even (x s p : Int) (k : Nat) (h : k % 2 = 0) : x * (s * s % p) ^ (k / 2) % p = x * s ^ k % p := by
  have e : k = 2 * (k / 2) := by omega
  rw [← mul_mod_r, pow_mod, mul_mod_r]
  congr 2
  conv => rhs; rw [e, Int.pow_mul]
  congr 1
  rw [Int.pow_succ, Int.pow_succ, Int.pow_zero, Int.one_mul]
theorem sq_odd (x s p : Int) (k : Nat) (h : k % 2 = 1) : (x * s % p) * (s * s % p) ^ (k / 2) % p = x * s ^ k % p := by
  have e : k = 2 * (k / 2) + 1 := by omega
  rw [mul_mod_l, ← mul_mod_r, pow_mod, mul_mod_r]
  congr 1
  conv => rhs; rw [e, Int.pow_succ, Int.pow_mul]
  rw [show s * s = s ^ 2 by rw [Int.pow_succ, Int.pow_succ, Int.pow_zero, Int.one_mul]]
  rw [Int.mul_assoc, Int.mul_comm s]

/-! ## primes -/
def prm (n : Int) : Prop := 2 ≤ n ∧ ∀ d : Nat, 2 ≤ d → (d : Int) * d ≤ n → ¬ n % (d : Int) = 0
/-- no divisor in lo, .., lo + 2^k - 1 -/
def chk (n lo : Nat) : Nat → Bool
  | 0 => n % lo != 0
  | k + 1 => chk n lo k && chk n (lo + 2 ^ k) k
theorem chk_ok {n : Nat} : ∀ {k lo : Nat}, chk n lo k = true → ∀ d, lo ≤ d → d < lo + 2 ^ k → n % d ≠ 0
  | 0, lo, h, d, h1, h2 => by
    have e : d = lo := by omega
    subst e
    simpa [chk] using h
  | k + 1, lo, h, d, h1, h2 => by
    simp only [chk, Bool.and_eq_true] at h
    by_cases c : d < lo + 2 ^ k
    · exact chk_ok h.1 d h1 c
    · exact chk_ok h.2 d (by omega) (by rw [Nat.pow_succ] at h2; omega)
theorem prm_of {n k : Nat} (h2 : 2 ≤ n) (h : chk n 2 k = true) (hn : n < (2 + 2 ^ k) * (2 + 2 ^ k)) : prm n := by
  refine ⟨by omega, fun d hd hdd e => ?_⟩
  have hdd' : d * d ≤ n := by
    have : ((d * d : Nat) : Int) ≤ n := by rw [Int.natCast_mul]; exact hdd
    omega
  have hlt : d < 2 + 2 ^ k := by
    apply Nat.lt_of_not_le
    intro hge
    have := Nat.mul_le_mul hge hge
    omega
  exact chk_ok h d hd hlt (by omega)
theorem not_prm {n : Int} (d : Nat) (h : 2 ≤ d) (hd : (d : Int) * d ≤ n) (e : n % (d : Int) = 0) : ¬ prm n := fun z => z.2 d h hd e
/-- the plain meaning: no divisor but 1 and itself -/
theorem prm_dvd {n : Int} (h : prm n) {d : Nat} (hd : 2 ≤ d) (hn : (d : Int) < n) : ¬ n % (d : Int) = 0 := by
  intro e
  obtain ⟨m, rfl⟩ : ∃ m : Nat, n = m := ⟨n.toNat, by rw [Int.toNat_of_nonneg (by have := h.1; omega)]⟩
  have e' : m % d = 0 := by omega
  obtain ⟨q, rfl⟩ := Nat.dvd_of_mod_eq_zero e'
  have hdn : d < d * q := by omega
  have hq : 2 ≤ q := by
    rcases q with _ | _ | q
    · omega
    · omega
    · omega
  by_cases c : d ≤ q
  · refine h.2 d hd ?_ e
    have := Nat.mul_le_mul_left d c
    have h2 : ((d * d : Nat) : Int) ≤ ((d * q : Nat) : Int) := by omega
    rw [Int.natCast_mul] at h2
    exact h2
  · refine h.2 q hq ?_ ?_
    · have := Nat.mul_le_mul_right q (Nat.le_of_lt (Nat.lt_of_not_le c))
      have h2 : ((q * q : Nat) : Int) ≤ ((d * q : Nat) : Int) := by omega
      rw [Int.natCast_mul] at h2
      exact h2
    · have : d * q % q = 0 := Nat.mul_mod_left d q
      omega
/-- trial division below 111 decides below 111 * 111 -/
theorem prm_small {n : Int} (hn : n < 12321) : prm n ↔ (1 < n ∧ ∀ d : Nat, 2 ≤ d → (d : Int) < n → d < 111 → ¬ n % (d : Int) = 0) := by
  constructor
  · intro h
    exact ⟨by have := h.1; omega, fun d hd h1 _ => prm_dvd h hd h1⟩
  · intro ⟨h1, h⟩
    refine ⟨by omega, fun d hd hdd e => ?_⟩
    have hd111 : d < 111 := by
      apply Nat.lt_of_not_le
      intro hge
      have := Nat.mul_le_mul hge hge
      have h2 : ((d * d : Nat) : Int) ≤ n := by rw [Int.natCast_mul]; exact hdd
      omega
    have hlt : (d : Int) < n := by
      have h3 : 2 * d ≤ d * d := Nat.mul_le_mul_right d hd
      have h2 : ((d * d : Nat) : Int) ≤ n := by rw [Int.natCast_mul]; exact hdd
      omega
    exact h d hd hlt hd111 e
end Zn
namespace Zp
open PySem L2 Zv PyProof.Rows
def W_is_prime1 : Nat := 20000
def W_power1 : Nat := 64
/-! is_prime: n part -/
noncomputable def T_is_prime1 : TM :=
    (mTest (mOp dLe (mOp dMul (mVar 1) (mVar 1)) (mVar 0)))
noncomputable def B_is_prime2 : SM :=
    (sSeq (sIf (mTest (mOp dEq (mOp dMod (mVar 0) (mVar 1)) (mC (.int 0))))
    (sRet (mC (.bl false)))
    sNil)
    (sAug 1 dIadd (mC (.int 1))))
noncomputable def M_is_prime : SM :=
    (sSeq (sIf (mTest (mOp dLt (mVar 0) (mC (.int 2))))
    (sRet (mC (.bl false)))
    sNil)
    (sSeq (sAsg (.nm 1) (mC (.int 2)))
    (sSeq (whL T_is_prime1 B_is_prime2 W_is_prime1)
    (sRet (mC (.bl true))))))
noncomputable def F_is_prime : FM := runF 2 M_is_prime


/-! power: p a k answer square left -/
noncomputable def T_power1 : TM :=
    (mTest (mOp dGt (mVar 5) (mC (.int 0))))
noncomputable def B_power2 : SM :=
    (sSeq (sIf (mTest (mOp dEq (mOp dMod (mVar 5) (mC (.int 2))) (mC (.int 1))))
    (sAsg (.nm 3) (mOp dMod (mOp dMul (mVar 3) (mVar 4)) (mVar 0)))
    sNil)
    (sSeq (sAsg (.nm 4) (mOp dMod (mOp dMul (mVar 4) (mVar 4)) (mVar 0)))
    (sAsg (.nm 5) (mOp dFdv (mVar 5) (mC (.int 2))))))
noncomputable def M_power : SM :=
    (sSeq (sAsg (.nm 3) (mC (.int 1)))
    (sSeq (sAsg (.nm 4) (mOp dMod (mVar 1) (mVar 0)))
    (sSeq (sAsg (.nm 5) (mVar 2))
    (sSeq (whL T_power1 B_power2 W_power1)
    (sRet (mVar 3))))))
noncomputable def F_power : FM := runF 6 M_power


/-! inverse: p a -/
noncomputable def M_inverse : SM :=
    (sRet (mCall 3 F_power (aCons (mVar 0) (aCons (mVar 1) (aCons (mOp dSub (mVar 0) (mC (.int 2))) aNil)))))
noncomputable def F_inverse : FM := runF 2 M_inverse


/-! _law_raised: p a k found turn -/
noncomputable def B__law_raised1 : SM :=
    (sSeq (sIf (mTest (mOp dEq (mOp dMod (mB bInt (aCons (mVar 2) aNil)) (mC (.int 2))) (mC (.int 1))))
    (sAsg (.nm 3) (mOp dMod (mB bInt (aCons (mOp dMul (mVar 3) (mVar 1)) aNil)) (mVar 0)))
    sNil)
    (sSeq (sAsg (.nm 1) (mOp dMod (mB bInt (aCons (mOp dMul (mVar 1) (mVar 1)) aNil)) (mVar 0)))
    (sAsg (.nm 2) (mOp dFdv (mVar 2) (mC (.int 2))))))
noncomputable def M__law_raised : SM :=
    (sSeq (sAsg (.nm 3) (mOp dMod (mB bInt (aCons (mC (.int 1)) aNil)) (mVar 0)))
    (sSeq (sFor (mRng1 (aCons (mC (.int 40)) aNil)) (.nm 4) B__law_raised1)
    (sRet (mVar 3))))
noncomputable def F__law_raised : FM := runF 5 M__law_raised


end Zp
namespace Zp
open PySem L2 Zv PyProof.Rows Zn
theorem mulw {i j : Int} (h1 : -(2 ^ 64) < j) (h2 : j < 2 ^ 64) : (-(2 ^ 64) < i ∧ i < 2 ^ 64) ∨ (-(2 ^ 64) < j ∧ j < 2 ^ 64) := .inr ⟨h1, h2⟩
theorem power_loop {p a k : Int} (hp : 2 ≤ p) (hp2 : p < 2 ^ 32) {st : Store} : ∀ (fuel l : Nat) (x s : Int), l < 2 ^ fuel → 0 ≤ x → x < p → 0 ≤ s → s < p → ∃ s' l' : Option D,
    whL T_power1 B_power2 (fuel + 1) [some (.int p), some (.int a), some (.int k), some (.int x), some (.int s), some (.int (l : Int))] st = .ok .nx [some (.int p), some (.int a), some (.int k), some (.int (x * s ^ l % p)), s', l'] st := by
  have w2 : (0 : Int) < 2 := by decide
  have w3 : (0 : Int) < 2 ∧ (2 : Int) < 1073741824 := by decide
  have hp0 : 0 < p := by omega
  intro fuel
  induction fuel with
  | zero =>
    intro l x s hl hx hx2 hs hs2
    have e : l = 0 := by simpa using hl
    subst e
    have ex : x * s ^ 0 % p = x := by rw [Int.pow_zero, Int.mul_one, Int.emod_eq_of_lt hx hx2]
    refine ⟨some (.int s), some (.int 0), ?_⟩
    rw [ex]
    exact whL_stop (by simp only [T_power1, Int.natCast_zero, show ¬ (0 : Int) < 0 by decide, q_runF, q_kFin, q_kFinN, q_mC, q_v0, q_v1, q_v2, q_v3, q_v4, q_v5, q_v6, q_v7, q_v8, q_v9, q_v10, q_v11, q_v12, q_v13, q_mOp, q_mTest, q_kB, q_kAnd, q_kOr, q_kNot, q_kNeg, q_kChT, q_kChF, q_mTru, q_tAnd, q_tOr, q_tNot, q_tYes, q_eAnd, q_eOr, q_eNot, q_mIf, q_aNil, q_aCons, q_mTup, q_mLst, q_mB, q_mCall, q_mNeg, q_mChain, q_sNil, q_sSeq, q_sExpr, q_sRet, q_sRetN, q_sBk, q_sCt, q_sIf, q_sAsg, q_kPutN, q_sBox, q_kBox, q_sApp, q_sSetI, q_sAug, q_kAug, q_kAug2, q_sFor, q_mRng1, q_kR1, q_kR2, q_mRng2, q_mIt, q_kItL, q_kItT, q_addI, q_addS, q_addT, q_addL, q_sub, q_mul, q_mod, q_fdv, q_pow, q_lt, q_le, q_gt, q_ge, q_iadd, q_isub, q_isN, q_notN, q_isNon_non, q_isNon_int, q_isNon_tup, q_isNon_lst, q_eqI, q_eqS, q_neI, q_neS, q_ixT, q_ixL, q_ixS, q_ixR0, q_int, q_intb, q_lenT, q_lenC, q_lenL, q_min, q_max, q_tupL, q_tupT, q_listL, q_listT, q_truB, q_truI, q_truT, q_truL, q_truN, q_bind, q_toS, q_nx, q_rt, q_bk, q_ct, q_ofO, q_noex, List.set_cons_zero, List.set_cons_succ, List.getElem?_cons_zero, List.getElem?_cons_succ, Option.map_some, Option.bind_some, List.length_cons, List.length_nil, List.map_cons, List.map_nil, Nat.reduceAdd, Nat.reduceSub, Nat.reduceLeDiff, Nat.reduceEqDiff, List.replicate_succ, List.replicate_zero, List.cons_append, List.nil_append, ↓reduceIte, if_true, if_false, Bool.false_eq_true, decide_true, decide_false, Bool.not_true, Bool.not_false, and_self, and_true, true_and, or_true, true_or, not_true_eq_false, not_false_eq_true])
  | succ fuel ih =>
    intro l x s hl hx hx2 hs hs2
    by_cases h0 : l = 0
    · subst h0
      have ex : x * s ^ 0 % p = x := by rw [Int.pow_zero, Int.mul_one, Int.emod_eq_of_lt hx hx2]
      refine ⟨some (.int s), some (.int 0), ?_⟩
      rw [ex]
      exact whL_stop (by simp only [T_power1, Int.natCast_zero, show ¬ (0 : Int) < 0 by decide, q_runF, q_kFin, q_kFinN, q_mC, q_v0, q_v1, q_v2, q_v3, q_v4, q_v5, q_v6, q_v7, q_v8, q_v9, q_v10, q_v11, q_v12, q_v13, q_mOp, q_mTest, q_kB, q_kAnd, q_kOr, q_kNot, q_kNeg, q_kChT, q_kChF, q_mTru, q_tAnd, q_tOr, q_tNot, q_tYes, q_eAnd, q_eOr, q_eNot, q_mIf, q_aNil, q_aCons, q_mTup, q_mLst, q_mB, q_mCall, q_mNeg, q_mChain, q_sNil, q_sSeq, q_sExpr, q_sRet, q_sRetN, q_sBk, q_sCt, q_sIf, q_sAsg, q_kPutN, q_sBox, q_kBox, q_sApp, q_sSetI, q_sAug, q_kAug, q_kAug2, q_sFor, q_mRng1, q_kR1, q_kR2, q_mRng2, q_mIt, q_kItL, q_kItT, q_addI, q_addS, q_addT, q_addL, q_sub, q_mul, q_mod, q_fdv, q_pow, q_lt, q_le, q_gt, q_ge, q_iadd, q_isub, q_isN, q_notN, q_isNon_non, q_isNon_int, q_isNon_tup, q_isNon_lst, q_eqI, q_eqS, q_neI, q_neS, q_ixT, q_ixL, q_ixS, q_ixR0, q_int, q_intb, q_lenT, q_lenC, q_lenL, q_min, q_max, q_tupL, q_tupT, q_listL, q_listT, q_truB, q_truI, q_truT, q_truL, q_truN, q_bind, q_toS, q_nx, q_rt, q_bk, q_ct, q_ofO, q_noex, List.set_cons_zero, List.set_cons_succ, List.getElem?_cons_zero, List.getElem?_cons_succ, Option.map_some, Option.bind_some, List.length_cons, List.length_nil, List.map_cons, List.map_nil, Nat.reduceAdd, Nat.reduceSub, Nat.reduceLeDiff, Nat.reduceEqDiff, List.replicate_succ, List.replicate_zero, List.cons_append, List.nil_append, ↓reduceIte, if_true, if_false, Bool.false_eq_true, decide_true, decide_false, Bool.not_true, Bool.not_false, and_self, and_true, true_and, or_true, true_or, not_true_eq_false, not_false_eq_true])
    · have hl0 : (0 : Int) < (l : Int) := by omega
      have hl2 : l / 2 < 2 ^ fuel := by rw [Nat.pow_succ] at hl; omega
      have ws : -(2 ^ 64) < s ∧ s < 2 ^ 64 := by constructor <;> omega
      have ns1 := Int.emod_nonneg (s * s) (show p ≠ 0 by omega)
      have ns2 := Int.emod_lt_of_pos (s * s) hp0
      have eh : (l : Int) / 2 = ((l / 2 : Nat) : Int) := by omega
      by_cases hodd : l % 2 = 1
      · have e1 : (l : Int) % 2 = 1 := by omega
        obtain ⟨s', l', e⟩ := ih (l / 2) (x * s % p) (s * s % p) hl2 (Int.emod_nonneg _ (by omega)) (Int.emod_lt_of_pos _ hp0) ns1 ns2
        refine ⟨s', l', ?_⟩
        rw [sq_odd x s p l hodd] at e
        exact (whL_turn (st1 := st) (by simp only [T_power1, hl0, q_runF, q_kFin, q_kFinN, q_mC, q_v0, q_v1, q_v2, q_v3, q_v4, q_v5, q_v6, q_v7, q_v8, q_v9, q_v10, q_v11, q_v12, q_v13, q_mOp, q_mTest, q_kB, q_kAnd, q_kOr, q_kNot, q_kNeg, q_kChT, q_kChF, q_mTru, q_tAnd, q_tOr, q_tNot, q_tYes, q_eAnd, q_eOr, q_eNot, q_mIf, q_aNil, q_aCons, q_mTup, q_mLst, q_mB, q_mCall, q_mNeg, q_mChain, q_sNil, q_sSeq, q_sExpr, q_sRet, q_sRetN, q_sBk, q_sCt, q_sIf, q_sAsg, q_kPutN, q_sBox, q_kBox, q_sApp, q_sSetI, q_sAug, q_kAug, q_kAug2, q_sFor, q_mRng1, q_kR1, q_kR2, q_mRng2, q_mIt, q_kItL, q_kItT, q_addI, q_addS, q_addT, q_addL, q_sub, q_mul, q_mod, q_fdv, q_pow, q_lt, q_le, q_gt, q_ge, q_iadd, q_isub, q_isN, q_notN, q_isNon_non, q_isNon_int, q_isNon_tup, q_isNon_lst, q_eqI, q_eqS, q_neI, q_neS, q_ixT, q_ixL, q_ixS, q_ixR0, q_int, q_intb, q_lenT, q_lenC, q_lenL, q_min, q_max, q_tupL, q_tupT, q_listL, q_listT, q_truB, q_truI, q_truT, q_truL, q_truN, q_bind, q_toS, q_nx, q_rt, q_bk, q_ct, q_ofO, q_noex, List.set_cons_zero, List.set_cons_succ, List.getElem?_cons_zero, List.getElem?_cons_succ, Option.map_some, Option.bind_some, List.length_cons, List.length_nil, List.map_cons, List.map_nil, Nat.reduceAdd, Nat.reduceSub, Nat.reduceLeDiff, Nat.reduceEqDiff, List.replicate_succ, List.replicate_zero, List.cons_append, List.nil_append, ↓reduceIte, if_true, if_false, Bool.false_eq_true, decide_true, decide_false, Bool.not_true, Bool.not_false, and_self, and_true, true_and, or_true, true_or, not_true_eq_false, not_false_eq_true]) (by simp only [B_power2, e1, w2, w3, hp0, ws, eh, q_runF, q_kFin, q_kFinN, q_mC, q_v0, q_v1, q_v2, q_v3, q_v4, q_v5, q_v6, q_v7, q_v8, q_v9, q_v10, q_v11, q_v12, q_v13, q_mOp, q_mTest, q_kB, q_kAnd, q_kOr, q_kNot, q_kNeg, q_kChT, q_kChF, q_mTru, q_tAnd, q_tOr, q_tNot, q_tYes, q_eAnd, q_eOr, q_eNot, q_mIf, q_aNil, q_aCons, q_mTup, q_mLst, q_mB, q_mCall, q_mNeg, q_mChain, q_sNil, q_sSeq, q_sExpr, q_sRet, q_sRetN, q_sBk, q_sCt, q_sIf, q_sAsg, q_kPutN, q_sBox, q_kBox, q_sApp, q_sSetI, q_sAug, q_kAug, q_kAug2, q_sFor, q_mRng1, q_kR1, q_kR2, q_mRng2, q_mIt, q_kItL, q_kItT, q_addI, q_addS, q_addT, q_addL, q_sub, q_mul, q_mod, q_fdv, q_pow, q_lt, q_le, q_gt, q_ge, q_iadd, q_isub, q_isN, q_notN, q_isNon_non, q_isNon_int, q_isNon_tup, q_isNon_lst, q_eqI, q_eqS, q_neI, q_neS, q_ixT, q_ixL, q_ixS, q_ixR0, q_int, q_intb, q_lenT, q_lenC, q_lenL, q_min, q_max, q_tupL, q_tupT, q_listL, q_listT, q_truB, q_truI, q_truT, q_truL, q_truN, q_bind, q_toS, q_nx, q_rt, q_bk, q_ct, q_ofO, q_noex, List.set_cons_zero, List.set_cons_succ, List.getElem?_cons_zero, List.getElem?_cons_succ, Option.map_some, Option.bind_some, List.length_cons, List.length_nil, List.map_cons, List.map_nil, Nat.reduceAdd, Nat.reduceSub, Nat.reduceLeDiff, Nat.reduceEqDiff, List.replicate_succ, List.replicate_zero, List.cons_append, List.nil_append, ↓reduceIte, if_true, if_false, Bool.false_eq_true, decide_true, decide_false, Bool.not_true, Bool.not_false, and_self, and_true, true_and, or_true, true_or, not_true_eq_false, not_false_eq_true])).trans e
      · have e1 : ¬ (l : Int) % 2 = 1 := by omega
        obtain ⟨s', l', e⟩ := ih (l / 2) x (s * s % p) hl2 hx hx2 ns1 ns2
        refine ⟨s', l', ?_⟩
        rw [sq_even x s p l (by omega)] at e
        exact (whL_turn (st1 := st) (by simp only [T_power1, hl0, q_runF, q_kFin, q_kFinN, q_mC, q_v0, q_v1, q_v2, q_v3, q_v4, q_v5, q_v6, q_v7, q_v8, q_v9, q_v10, q_v11, q_v12, q_v13, q_mOp, q_mTest, q_kB, q_kAnd, q_kOr, q_kNot, q_kNeg, q_kChT, q_kChF, q_mTru, q_tAnd, q_tOr, q_tNot, q_tYes, q_eAnd, q_eOr, q_eNot, q_mIf, q_aNil, q_aCons, q_mTup, q_mLst, q_mB, q_mCall, q_mNeg, q_mChain, q_sNil, q_sSeq, q_sExpr, q_sRet, q_sRetN, q_sBk, q_sCt, q_sIf, q_sAsg, q_kPutN, q_sBox, q_kBox, q_sApp, q_sSetI, q_sAug, q_kAug, q_kAug2, q_sFor, q_mRng1, q_kR1, q_kR2, q_mRng2, q_mIt, q_kItL, q_kItT, q_addI, q_addS, q_addT, q_addL, q_sub, q_mul, q_mod, q_fdv, q_pow, q_lt, q_le, q_gt, q_ge, q_iadd, q_isub, q_isN, q_notN, q_isNon_non, q_isNon_int, q_isNon_tup, q_isNon_lst, q_eqI, q_eqS, q_neI, q_neS, q_ixT, q_ixL, q_ixS, q_ixR0, q_int, q_intb, q_lenT, q_lenC, q_lenL, q_min, q_max, q_tupL, q_tupT, q_listL, q_listT, q_truB, q_truI, q_truT, q_truL, q_truN, q_bind, q_toS, q_nx, q_rt, q_bk, q_ct, q_ofO, q_noex, List.set_cons_zero, List.set_cons_succ, List.getElem?_cons_zero, List.getElem?_cons_succ, Option.map_some, Option.bind_some, List.length_cons, List.length_nil, List.map_cons, List.map_nil, Nat.reduceAdd, Nat.reduceSub, Nat.reduceLeDiff, Nat.reduceEqDiff, List.replicate_succ, List.replicate_zero, List.cons_append, List.nil_append, ↓reduceIte, if_true, if_false, Bool.false_eq_true, decide_true, decide_false, Bool.not_true, Bool.not_false, and_self, and_true, true_and, or_true, true_or, not_true_eq_false, not_false_eq_true]) (by simp only [B_power2, e1, w2, w3, hp0, ws, eh, q_runF, q_kFin, q_kFinN, q_mC, q_v0, q_v1, q_v2, q_v3, q_v4, q_v5, q_v6, q_v7, q_v8, q_v9, q_v10, q_v11, q_v12, q_v13, q_mOp, q_mTest, q_kB, q_kAnd, q_kOr, q_kNot, q_kNeg, q_kChT, q_kChF, q_mTru, q_tAnd, q_tOr, q_tNot, q_tYes, q_eAnd, q_eOr, q_eNot, q_mIf, q_aNil, q_aCons, q_mTup, q_mLst, q_mB, q_mCall, q_mNeg, q_mChain, q_sNil, q_sSeq, q_sExpr, q_sRet, q_sRetN, q_sBk, q_sCt, q_sIf, q_sAsg, q_kPutN, q_sBox, q_kBox, q_sApp, q_sSetI, q_sAug, q_kAug, q_kAug2, q_sFor, q_mRng1, q_kR1, q_kR2, q_mRng2, q_mIt, q_kItL, q_kItT, q_addI, q_addS, q_addT, q_addL, q_sub, q_mul, q_mod, q_fdv, q_pow, q_lt, q_le, q_gt, q_ge, q_iadd, q_isub, q_isN, q_notN, q_isNon_non, q_isNon_int, q_isNon_tup, q_isNon_lst, q_eqI, q_eqS, q_neI, q_neS, q_ixT, q_ixL, q_ixS, q_ixR0, q_int, q_intb, q_lenT, q_lenC, q_lenL, q_min, q_max, q_tupL, q_tupT, q_listL, q_listT, q_truB, q_truI, q_truT, q_truL, q_truN, q_bind, q_toS, q_nx, q_rt, q_bk, q_ct, q_ofO, q_noex, List.set_cons_zero, List.set_cons_succ, List.getElem?_cons_zero, List.getElem?_cons_succ, Option.map_some, Option.bind_some, List.length_cons, List.length_nil, List.map_cons, List.map_nil, Nat.reduceAdd, Nat.reduceSub, Nat.reduceLeDiff, Nat.reduceEqDiff, List.replicate_succ, List.replicate_zero, List.cons_append, List.nil_append, ↓reduceIte, if_true, if_false, Bool.false_eq_true, decide_true, decide_false, Bool.not_true, Bool.not_false, and_self, and_true, true_and, or_true, true_or, not_true_eq_false, not_false_eq_true])).trans e
theorem power_is {p a : Int} {k : Nat} (hp : 2 ≤ p) (hp2 : p < 2 ^ 32) (hk : k < 2 ^ 63) {st : Store} : F_power [.int p, .int a, .int (k : Int)] st = .ok (.int (a ^ k % p)) st := by
  have hp0 : 0 < p := by omega
  obtain ⟨s', l', e⟩ := power_loop (a := a) (k := (k : Int)) (st := st) hp hp2 63 k 1 (a % p) hk (by decide) (by omega) (Int.emod_nonneg _ (by omega)) (Int.emod_lt_of_pos _ hp0)
  have e2 : 1 * (a % p) ^ k % p = a ^ k % p := by rw [Int.one_mul, pow_mod]
  rw [e2] at e
  simp only [F_power, M_power, W_power1, hp0, e, q_runF, q_kFin, q_kFinN, q_mC, q_v0, q_v1, q_v2, q_v3, q_v4, q_v5, q_v6, q_v7, q_v8, q_v9, q_v10, q_v11, q_v12, q_v13, q_mOp, q_mTest, q_kB, q_kAnd, q_kOr, q_kNot, q_kNeg, q_kChT, q_kChF, q_mTru, q_tAnd, q_tOr, q_tNot, q_tYes, q_eAnd, q_eOr, q_eNot, q_mIf, q_aNil, q_aCons, q_mTup, q_mLst, q_mB, q_mCall, q_mNeg, q_mChain, q_sNil, q_sSeq, q_sExpr, q_sRet, q_sRetN, q_sBk, q_sCt, q_sIf, q_sAsg, q_kPutN, q_sBox, q_kBox, q_sApp, q_sSetI, q_sAug, q_kAug, q_kAug2, q_sFor, q_mRng1, q_kR1, q_kR2, q_mRng2, q_mIt, q_kItL, q_kItT, q_addI, q_addS, q_addT, q_addL, q_sub, q_mul, q_mod, q_fdv, q_pow, q_lt, q_le, q_gt, q_ge, q_iadd, q_isub, q_isN, q_notN, q_isNon_non, q_isNon_int, q_isNon_tup, q_isNon_lst, q_eqI, q_eqS, q_neI, q_neS, q_ixT, q_ixL, q_ixS, q_ixR0, q_int, q_intb, q_lenT, q_lenC, q_lenL, q_min, q_max, q_tupL, q_tupT, q_listL, q_listT, q_truB, q_truI, q_truT, q_truL, q_truN, q_bind, q_toS, q_nx, q_rt, q_bk, q_ct, q_ofO, q_noex, List.set_cons_zero, List.set_cons_succ, List.getElem?_cons_zero, List.getElem?_cons_succ, Option.map_some, Option.bind_some, List.length_cons, List.length_nil, List.map_cons, List.map_nil, Nat.reduceAdd, Nat.reduceSub, Nat.reduceLeDiff, Nat.reduceEqDiff, List.replicate_succ, List.replicate_zero, List.cons_append, List.nil_append, ↓reduceIte, if_true, if_false, Bool.false_eq_true, decide_true, decide_false, Bool.not_true, Bool.not_false, and_self, and_true, true_and, or_true, true_or, not_true_eq_false, not_false_eq_true]
  exact leave_same (by simp [D.lo])
theorem raised_is {p a : Int} {k : Nat} (hp : 2 ≤ p) (hp2 : p < 2 ^ 32) (ha0 : 0 ≤ a) (ha : a < p) (hk : k < 2 ^ 40) {st : Store} : F__law_raised [.int p, .int a, .int (k : Int)] st = .ok (.int (a ^ k % p)) st := by
  have hp0 : 0 < p := by omega
  have w2 : (0 : Int) < 2 := by decide
  have w3 : (0 : Int) < 2 ∧ (2 : Int) < 1073741824 := by decide
  have w7 : (-(2 ^ 62) : Int) ≤ 40 ∧ (40 : Int) < 2 ^ 62 := by decide
  obtain ⟨es', st', e, x, s, l, t, rfl, rfl, h1, h2, h3, h4, h5, h6⟩ := forL_rng (t := .nm 4) (P := Held []) (body := B__law_raised1) (lo := 0) (n := 40) (es := [some (.int p), some (.int a), some (.int (k : Int)), some (.int (1 % p)), none]) (st := st)
    (fun i es s' => ∃ (x s : Int) (l : Nat) (t : Option D), es = [some (.int p), some (.int s), some (.int (l : Int)), some (.int x), t] ∧ s' = st ∧ 0 ≤ x ∧ x < p ∧ 0 ≤ s ∧ s < p ∧ l = k / 2 ^ i ∧ x * s ^ l % p = a ^ k % p) (by
      rintro j es s' hj ⟨x, s, l, t, rfl, rfl, h1, h2, h3, h4, h5, h6⟩
      refine ⟨trivial, _, rfl, ?_⟩
      have ws : -(2 ^ 64) < s ∧ s < 2 ^ 64 := by constructor <;> omega
      have eh : (l : Int) / 2 = ((l / 2 : Nat) : Int) := by omega
      have el : l / 2 = k / 2 ^ (j + 1) := by rw [h5, Nat.div_div_eq_div_mul, Nat.pow_succ]
      have ns1 := Int.emod_nonneg (s * s) (show p ≠ 0 by omega)
      have ns2 := Int.emod_lt_of_pos (s * s) hp0
      by_cases hodd : l % 2 = 1
      · have e1 : (l : Int) % 2 = 1 := by omega
        exact ⟨[some (.int p), some (.int (s * s % p)), some (.int ((l / 2 : Nat) : Int)), some (.int (x * s % p)), some (.int (0 + (j : Int)))], s', .inl (by simp only [B__law_raised1, e1, w2, w3, hp0, ws, eh, q_runF, q_kFin, q_kFinN, q_mC, q_v0, q_v1, q_v2, q_v3, q_v4, q_v5, q_v6, q_v7, q_v8, q_v9, q_v10, q_v11, q_v12, q_v13, q_mOp, q_mTest, q_kB, q_kAnd, q_kOr, q_kNot, q_kNeg, q_kChT, q_kChF, q_mTru, q_tAnd, q_tOr, q_tNot, q_tYes, q_eAnd, q_eOr, q_eNot, q_mIf, q_aNil, q_aCons, q_mTup, q_mLst, q_mB, q_mCall, q_mNeg, q_mChain, q_sNil, q_sSeq, q_sExpr, q_sRet, q_sRetN, q_sBk, q_sCt, q_sIf, q_sAsg, q_kPutN, q_sBox, q_kBox, q_sApp, q_sSetI, q_sAug, q_kAug, q_kAug2, q_sFor, q_mRng1, q_kR1, q_kR2, q_mRng2, q_mIt, q_kItL, q_kItT, q_addI, q_addS, q_addT, q_addL, q_sub, q_mul, q_mod, q_fdv, q_pow, q_lt, q_le, q_gt, q_ge, q_iadd, q_isub, q_isN, q_notN, q_isNon_non, q_isNon_int, q_isNon_tup, q_isNon_lst, q_eqI, q_eqS, q_neI, q_neS, q_ixT, q_ixL, q_ixS, q_ixR0, q_int, q_intb, q_lenT, q_lenC, q_lenL, q_min, q_max, q_tupL, q_tupT, q_listL, q_listT, q_truB, q_truI, q_truT, q_truL, q_truN, q_bind, q_toS, q_nx, q_rt, q_bk, q_ct, q_ofO, q_noex, List.set_cons_zero, List.set_cons_succ, List.getElem?_cons_zero, List.getElem?_cons_succ, Option.map_some, Option.bind_some, List.length_cons, List.length_nil, List.map_cons, List.map_nil, Nat.reduceAdd, Nat.reduceSub, Nat.reduceLeDiff, Nat.reduceEqDiff, List.replicate_succ, List.replicate_zero, List.cons_append, List.nil_append, ↓reduceIte, if_true, if_false, Bool.false_eq_true, decide_true, decide_false, Bool.not_true, Bool.not_false, and_self, and_true, true_and, or_true, true_or, not_true_eq_false, not_false_eq_true]),
          _, _, _, _, rfl, rfl, Int.emod_nonneg _ (by omega), Int.emod_lt_of_pos _ hp0, ns1, ns2, el, by rw [sq_odd x s p l hodd]; exact h6⟩
      · have e1 : ¬ (l : Int) % 2 = 1 := by omega
        exact ⟨[some (.int p), some (.int (s * s % p)), some (.int ((l / 2 : Nat) : Int)), some (.int x), some (.int (0 + (j : Int)))], s', .inl (by simp only [B__law_raised1, e1, w2, w3, hp0, ws, eh, q_runF, q_kFin, q_kFinN, q_mC, q_v0, q_v1, q_v2, q_v3, q_v4, q_v5, q_v6, q_v7, q_v8, q_v9, q_v10, q_v11, q_v12, q_v13, q_mOp, q_mTest, q_kB, q_kAnd, q_kOr, q_kNot, q_kNeg, q_kChT, q_kChF, q_mTru, q_tAnd, q_tOr, q_tNot, q_tYes, q_eAnd, q_eOr, q_eNot, q_mIf, q_aNil, q_aCons, q_mTup, q_mLst, q_mB, q_mCall, q_mNeg, q_mChain, q_sNil, q_sSeq, q_sExpr, q_sRet, q_sRetN, q_sBk, q_sCt, q_sIf, q_sAsg, q_kPutN, q_sBox, q_kBox, q_sApp, q_sSetI, q_sAug, q_kAug, q_kAug2, q_sFor, q_mRng1, q_kR1, q_kR2, q_mRng2, q_mIt, q_kItL, q_kItT, q_addI, q_addS, q_addT, q_addL, q_sub, q_mul, q_mod, q_fdv, q_pow, q_lt, q_le, q_gt, q_ge, q_iadd, q_isub, q_isN, q_notN, q_isNon_non, q_isNon_int, q_isNon_tup, q_isNon_lst, q_eqI, q_eqS, q_neI, q_neS, q_ixT, q_ixL, q_ixS, q_ixR0, q_int, q_intb, q_lenT, q_lenC, q_lenL, q_min, q_max, q_tupL, q_tupT, q_listL, q_listT, q_truB, q_truI, q_truT, q_truL, q_truN, q_bind, q_toS, q_nx, q_rt, q_bk, q_ct, q_ofO, q_noex, List.set_cons_zero, List.set_cons_succ, List.getElem?_cons_zero, List.getElem?_cons_succ, Option.map_some, Option.bind_some, List.length_cons, List.length_nil, List.map_cons, List.map_nil, Nat.reduceAdd, Nat.reduceSub, Nat.reduceLeDiff, Nat.reduceEqDiff, List.replicate_succ, List.replicate_zero, List.cons_append, List.nil_append, ↓reduceIte, if_true, if_false, Bool.false_eq_true, decide_true, decide_false, Bool.not_true, Bool.not_false, and_self, and_true, true_and, or_true, true_or, not_true_eq_false, not_false_eq_true]),
          _, _, _, _, rfl, rfl, h1, h2, ns1, ns2, el, by rw [sq_even x s p l (by omega)]; exact h6⟩)
    (fun _ _ _ => trivial) ⟨1 % p, a, k, none, rfl, rfl, Int.emod_nonneg _ (by omega), Int.emod_lt_of_pos _ hp0, ha0, ha, by simp, by rw [mul_mod_l, Int.one_mul]⟩
  have el : l = 0 := by rw [h5]; exact Nat.div_eq_of_lt hk
  subst el
  rw [Int.pow_zero, Int.mul_one, Int.emod_eq_of_lt h1 h2] at h6
  subst h6
  simp only [F__law_raised, M__law_raised, hp0, w7, Int.reduceToNat, e, q_runF, q_kFin, q_kFinN, q_mC, q_v0, q_v1, q_v2, q_v3, q_v4, q_v5, q_v6, q_v7, q_v8, q_v9, q_v10, q_v11, q_v12, q_v13, q_mOp, q_mTest, q_kB, q_kAnd, q_kOr, q_kNot, q_kNeg, q_kChT, q_kChF, q_mTru, q_tAnd, q_tOr, q_tNot, q_tYes, q_eAnd, q_eOr, q_eNot, q_mIf, q_aNil, q_aCons, q_mTup, q_mLst, q_mB, q_mCall, q_mNeg, q_mChain, q_sNil, q_sSeq, q_sExpr, q_sRet, q_sRetN, q_sBk, q_sCt, q_sIf, q_sAsg, q_kPutN, q_sBox, q_kBox, q_sApp, q_sSetI, q_sAug, q_kAug, q_kAug2, q_sFor, q_mRng1, q_kR1, q_kR2, q_mRng2, q_mIt, q_kItL, q_kItT, q_addI, q_addS, q_addT, q_addL, q_sub, q_mul, q_mod, q_fdv, q_pow, q_lt, q_le, q_gt, q_ge, q_iadd, q_isub, q_isN, q_notN, q_isNon_non, q_isNon_int, q_isNon_tup, q_isNon_lst, q_eqI, q_eqS, q_neI, q_neS, q_ixT, q_ixL, q_ixS, q_ixR0, q_int, q_intb, q_lenT, q_lenC, q_lenL, q_min, q_max, q_tupL, q_tupT, q_listL, q_listT, q_truB, q_truI, q_truT, q_truL, q_truN, q_bind, q_toS, q_nx, q_rt, q_bk, q_ct, q_ofO, q_noex, List.set_cons_zero, List.set_cons_succ, List.getElem?_cons_zero, List.getElem?_cons_succ, Option.map_some, Option.bind_some, List.length_cons, List.length_nil, List.map_cons, List.map_nil, Nat.reduceAdd, Nat.reduceSub, Nat.reduceLeDiff, Nat.reduceEqDiff, List.replicate_succ, List.replicate_zero, List.cons_append, List.nil_append, ↓reduceIte, if_true, if_false, Bool.false_eq_true, decide_true, decide_false, Bool.not_true, Bool.not_false, and_self, and_true, true_and, or_true, true_or, not_true_eq_false, not_false_eq_true]
  exact leave_same (by simp [D.lo])
open Classical in
noncomputable def prB (n : Int) : Bool := if prm n then true else false
theorem prB_t {n : Int} (h : prm n) : prB n = true := by unfold prB; exact if_pos h
theorem prB_f {n : Int} (h : ¬ prm n) : prB n = false := by unfold prB; exact if_neg h
theorem isp_loop {n : Int} (h2 : 2 ≤ n) (hn : n < 400000000) {st : Store} : ∀ (fuel d : Nat), 20000 ≤ fuel + d → d ≤ 20000 → 2 ≤ d → (∀ c : Nat, 2 ≤ c → c < d → (c : Int) * c ≤ n → ¬ n % (c : Int) = 0) →
    (prm n ∧ ∃ es, whL T_is_prime1 B_is_prime2 (fuel + 1) [some (.int n), some (.int (d : Int))] st = .ok .nx es st) ∨ (¬ prm n ∧ ∃ es, whL T_is_prime1 B_is_prime2 (fuel + 1) [some (.int n), some (.int (d : Int))] st = .ok (.rt (.bl false)) es st) := by
  intro fuel
  have end_ : ∀ {fuel d : Nat}, d ≤ 20000 → ¬ (d : Int) * d ≤ n → (∀ c : Nat, 2 ≤ c → c < d → (c : Int) * c ≤ n → ¬ n % (c : Int) = 0) →
      (prm n ∧ ∃ es, whL T_is_prime1 B_is_prime2 (fuel + 1) [some (.int n), some (.int (d : Int))] st = .ok .nx es st) := by
    intro fuel d hd2 hbig hc
    have w : -(2 ^ 64) < (d : Int) ∧ (d : Int) < 2 ^ 64 := by constructor <;> omega
    refine ⟨⟨h2, fun c h1 hcc => ?_⟩, _, whL_stop (by simp only [T_is_prime1, hbig, w, q_runF, q_kFin, q_kFinN, q_mC, q_v0, q_v1, q_v2, q_v3, q_v4, q_v5, q_v6, q_v7, q_v8, q_v9, q_v10, q_v11, q_v12, q_v13, q_mOp, q_mTest, q_kB, q_kAnd, q_kOr, q_kNot, q_kNeg, q_kChT, q_kChF, q_mTru, q_tAnd, q_tOr, q_tNot, q_tYes, q_eAnd, q_eOr, q_eNot, q_mIf, q_aNil, q_aCons, q_mTup, q_mLst, q_mB, q_mCall, q_mNeg, q_mChain, q_sNil, q_sSeq, q_sExpr, q_sRet, q_sRetN, q_sBk, q_sCt, q_sIf, q_sAsg, q_kPutN, q_sBox, q_kBox, q_sApp, q_sSetI, q_sAug, q_kAug, q_kAug2, q_sFor, q_mRng1, q_kR1, q_kR2, q_mRng2, q_mIt, q_kItL, q_kItT, q_addI, q_addS, q_addT, q_addL, q_sub, q_mul, q_mod, q_fdv, q_pow, q_lt, q_le, q_gt, q_ge, q_iadd, q_isub, q_isN, q_notN, q_isNon_non, q_isNon_int, q_isNon_tup, q_isNon_lst, q_eqI, q_eqS, q_neI, q_neS, q_ixT, q_ixL, q_ixS, q_ixR0, q_int, q_intb, q_lenT, q_lenC, q_lenL, q_min, q_max, q_tupL, q_tupT, q_listL, q_listT, q_truB, q_truI, q_truT, q_truL, q_truN, q_bind, q_toS, q_nx, q_rt, q_bk, q_ct, q_ofO, q_noex, List.set_cons_zero, List.set_cons_succ, List.getElem?_cons_zero, List.getElem?_cons_succ, Option.map_some, Option.bind_some, List.length_cons, List.length_nil, List.map_cons, List.map_nil, Nat.reduceAdd, Nat.reduceSub, Nat.reduceLeDiff, Nat.reduceEqDiff, List.replicate_succ, List.replicate_zero, List.cons_append, List.nil_append, ↓reduceIte, if_true, if_false, Bool.false_eq_true, decide_true, decide_false, Bool.not_true, Bool.not_false, and_self, and_true, true_and, or_true, true_or, not_true_eq_false, not_false_eq_true])⟩
    have : c < d := by
      apply Nat.lt_of_not_le
      intro hge
      have h3 := Nat.mul_le_mul hge hge
      have h4 : ((c * c : Nat) : Int) ≤ n := by rw [Int.natCast_mul]; exact hcc
      exact hbig (by rw [← Int.natCast_mul]; omega)
    exact hc c h1 this hcc
  induction fuel with
  | zero =>
    intro d hf hd2 hd hc
    refine .inl (end_ hd2 (fun h => ?_) hc)
    have h3 : 20000 * 20000 ≤ d * d := Nat.mul_le_mul (by omega) (by omega)
    have h4 : ((d * d : Nat) : Int) ≤ n := by rw [Int.natCast_mul]; exact h
    omega
  | succ fuel ih =>
    intro d hf hd2 hd hc
    have w : -(2 ^ 64) < (d : Int) ∧ (d : Int) < 2 ^ 64 := by constructor <;> omega
    have hd0 : (0 : Int) < (d : Int) := by omega
    by_cases hle : (d : Int) * d ≤ n
    · have hlt : d < 20000 := by
        apply Nat.lt_of_not_le
        intro hge
        have h3 : 20000 * 20000 ≤ d * d := Nat.mul_le_mul hge hge
        have h4 : ((d * d : Nat) : Int) ≤ n := by rw [Int.natCast_mul]; exact hle
        omega
      have hT : T_is_prime1 [some (.int n), some (.int (d : Int))] st = .ok true st := by simp only [T_is_prime1, hle, w, q_runF, q_kFin, q_kFinN, q_mC, q_v0, q_v1, q_v2, q_v3, q_v4, q_v5, q_v6, q_v7, q_v8, q_v9, q_v10, q_v11, q_v12, q_v13, q_mOp, q_mTest, q_kB, q_kAnd, q_kOr, q_kNot, q_kNeg, q_kChT, q_kChF, q_mTru, q_tAnd, q_tOr, q_tNot, q_tYes, q_eAnd, q_eOr, q_eNot, q_mIf, q_aNil, q_aCons, q_mTup, q_mLst, q_mB, q_mCall, q_mNeg, q_mChain, q_sNil, q_sSeq, q_sExpr, q_sRet, q_sRetN, q_sBk, q_sCt, q_sIf, q_sAsg, q_kPutN, q_sBox, q_kBox, q_sApp, q_sSetI, q_sAug, q_kAug, q_kAug2, q_sFor, q_mRng1, q_kR1, q_kR2, q_mRng2, q_mIt, q_kItL, q_kItT, q_addI, q_addS, q_addT, q_addL, q_sub, q_mul, q_mod, q_fdv, q_pow, q_lt, q_le, q_gt, q_ge, q_iadd, q_isub, q_isN, q_notN, q_isNon_non, q_isNon_int, q_isNon_tup, q_isNon_lst, q_eqI, q_eqS, q_neI, q_neS, q_ixT, q_ixL, q_ixS, q_ixR0, q_int, q_intb, q_lenT, q_lenC, q_lenL, q_min, q_max, q_tupL, q_tupT, q_listL, q_listT, q_truB, q_truI, q_truT, q_truL, q_truN, q_bind, q_toS, q_nx, q_rt, q_bk, q_ct, q_ofO, q_noex, List.set_cons_zero, List.set_cons_succ, List.getElem?_cons_zero, List.getElem?_cons_succ, Option.map_some, Option.bind_some, List.length_cons, List.length_nil, List.map_cons, List.map_nil, Nat.reduceAdd, Nat.reduceSub, Nat.reduceLeDiff, Nat.reduceEqDiff, List.replicate_succ, List.replicate_zero, List.cons_append, List.nil_append, ↓reduceIte, if_true, if_false, Bool.false_eq_true, decide_true, decide_false, Bool.not_true, Bool.not_false, and_self, and_true, true_and, or_true, true_or, not_true_eq_false, not_false_eq_true]
      by_cases hz : n % (d : Int) = 0
      · exact .inr ⟨not_prm d hd hle hz, _, whL_ret hT (by simp only [B_is_prime2, hd0, hz, q_runF, q_kFin, q_kFinN, q_mC, q_v0, q_v1, q_v2, q_v3, q_v4, q_v5, q_v6, q_v7, q_v8, q_v9, q_v10, q_v11, q_v12, q_v13, q_mOp, q_mTest, q_kB, q_kAnd, q_kOr, q_kNot, q_kNeg, q_kChT, q_kChF, q_mTru, q_tAnd, q_tOr, q_tNot, q_tYes, q_eAnd, q_eOr, q_eNot, q_mIf, q_aNil, q_aCons, q_mTup, q_mLst, q_mB, q_mCall, q_mNeg, q_mChain, q_sNil, q_sSeq, q_sExpr, q_sRet, q_sRetN, q_sBk, q_sCt, q_sIf, q_sAsg, q_kPutN, q_sBox, q_kBox, q_sApp, q_sSetI, q_sAug, q_kAug, q_kAug2, q_sFor, q_mRng1, q_kR1, q_kR2, q_mRng2, q_mIt, q_kItL, q_kItT, q_addI, q_addS, q_addT, q_addL, q_sub, q_mul, q_mod, q_fdv, q_pow, q_lt, q_le, q_gt, q_ge, q_iadd, q_isub, q_isN, q_notN, q_isNon_non, q_isNon_int, q_isNon_tup, q_isNon_lst, q_eqI, q_eqS, q_neI, q_neS, q_ixT, q_ixL, q_ixS, q_ixR0, q_int, q_intb, q_lenT, q_lenC, q_lenL, q_min, q_max, q_tupL, q_tupT, q_listL, q_listT, q_truB, q_truI, q_truT, q_truL, q_truN, q_bind, q_toS, q_nx, q_rt, q_bk, q_ct, q_ofO, q_noex, List.set_cons_zero, List.set_cons_succ, List.getElem?_cons_zero, List.getElem?_cons_succ, Option.map_some, Option.bind_some, List.length_cons, List.length_nil, List.map_cons, List.map_nil, Nat.reduceAdd, Nat.reduceSub, Nat.reduceLeDiff, Nat.reduceEqDiff, List.replicate_succ, List.replicate_zero, List.cons_append, List.nil_append, ↓reduceIte, if_true, if_false, Bool.false_eq_true, decide_true, decide_false, Bool.not_true, Bool.not_false, and_self, and_true, true_and, or_true, true_or, not_true_eq_false, not_false_eq_true]; rfl)⟩
      · have hB : B_is_prime2 [some (.int n), some (.int (d : Int))] st = .ok .nx [some (.int n), some (.int ((d + 1 : Nat) : Int))] st := by
          simp only [B_is_prime2, hd0, hz, q_runF, q_kFin, q_kFinN, q_mC, q_v0, q_v1, q_v2, q_v3, q_v4, q_v5, q_v6, q_v7, q_v8, q_v9, q_v10, q_v11, q_v12, q_v13, q_mOp, q_mTest, q_kB, q_kAnd, q_kOr, q_kNot, q_kNeg, q_kChT, q_kChF, q_mTru, q_tAnd, q_tOr, q_tNot, q_tYes, q_eAnd, q_eOr, q_eNot, q_mIf, q_aNil, q_aCons, q_mTup, q_mLst, q_mB, q_mCall, q_mNeg, q_mChain, q_sNil, q_sSeq, q_sExpr, q_sRet, q_sRetN, q_sBk, q_sCt, q_sIf, q_sAsg, q_kPutN, q_sBox, q_kBox, q_sApp, q_sSetI, q_sAug, q_kAug, q_kAug2, q_sFor, q_mRng1, q_kR1, q_kR2, q_mRng2, q_mIt, q_kItL, q_kItT, q_addI, q_addS, q_addT, q_addL, q_sub, q_mul, q_mod, q_fdv, q_pow, q_lt, q_le, q_gt, q_ge, q_iadd, q_isub, q_isN, q_notN, q_isNon_non, q_isNon_int, q_isNon_tup, q_isNon_lst, q_eqI, q_eqS, q_neI, q_neS, q_ixT, q_ixL, q_ixS, q_ixR0, q_int, q_intb, q_lenT, q_lenC, q_lenL, q_min, q_max, q_tupL, q_tupT, q_listL, q_listT, q_truB, q_truI, q_truT, q_truL, q_truN, q_bind, q_toS, q_nx, q_rt, q_bk, q_ct, q_ofO, q_noex, List.set_cons_zero, List.set_cons_succ, List.getElem?_cons_zero, List.getElem?_cons_succ, Option.map_some, Option.bind_some, List.length_cons, List.length_nil, List.map_cons, List.map_nil, Nat.reduceAdd, Nat.reduceSub, Nat.reduceLeDiff, Nat.reduceEqDiff, List.replicate_succ, List.replicate_zero, List.cons_append, List.nil_append, ↓reduceIte, if_true, if_false, Bool.false_eq_true, decide_true, decide_false, Bool.not_true, Bool.not_false, and_self, and_true, true_and, or_true, true_or, not_true_eq_false, not_false_eq_true]
          rfl
        have := ih (d + 1) (by omega) (by omega) (by omega) fun c h1 h3 h4 => by
          by_cases q : c = d
          · subst q; exact hz
          · exact hc c h1 (by omega) h4
        rw [whL_turn hT hB]
        exact this
    · exact .inl (end_ hd2 hle hc)
theorem is_prime_is {n : Int} (hn : n < 400000000) {st : Store} : F_is_prime [.int n] st = .ok (.bl (prB n)) st := by
  by_cases h2 : n < 2
  · rw [prB_f (fun h => by have := h.1; omega)]
    simp only [F_is_prime, M_is_prime, h2, q_runF, q_kFin, q_kFinN, q_mC, q_v0, q_v1, q_v2, q_v3, q_v4, q_v5, q_v6, q_v7, q_v8, q_v9, q_v10, q_v11, q_v12, q_v13, q_mOp, q_mTest, q_kB, q_kAnd, q_kOr, q_kNot, q_kNeg, q_kChT, q_kChF, q_mTru, q_tAnd, q_tOr, q_tNot, q_tYes, q_eAnd, q_eOr, q_eNot, q_mIf, q_aNil, q_aCons, q_mTup, q_mLst, q_mB, q_mCall, q_mNeg, q_mChain, q_sNil, q_sSeq, q_sExpr, q_sRet, q_sRetN, q_sBk, q_sCt, q_sIf, q_sAsg, q_kPutN, q_sBox, q_kBox, q_sApp, q_sSetI, q_sAug, q_kAug, q_kAug2, q_sFor, q_mRng1, q_kR1, q_kR2, q_mRng2, q_mIt, q_kItL, q_kItT, q_addI, q_addS, q_addT, q_addL, q_sub, q_mul, q_mod, q_fdv, q_pow, q_lt, q_le, q_gt, q_ge, q_iadd, q_isub, q_isN, q_notN, q_isNon_non, q_isNon_int, q_isNon_tup, q_isNon_lst, q_eqI, q_eqS, q_neI, q_neS, q_ixT, q_ixL, q_ixS, q_ixR0, q_int, q_intb, q_lenT, q_lenC, q_lenL, q_min, q_max, q_tupL, q_tupT, q_listL, q_listT, q_truB, q_truI, q_truT, q_truL, q_truN, q_bind, q_toS, q_nx, q_rt, q_bk, q_ct, q_ofO, q_noex, List.set_cons_zero, List.set_cons_succ, List.getElem?_cons_zero, List.getElem?_cons_succ, Option.map_some, Option.bind_some, List.length_cons, List.length_nil, List.map_cons, List.map_nil, Nat.reduceAdd, Nat.reduceSub, Nat.reduceLeDiff, Nat.reduceEqDiff, List.replicate_succ, List.replicate_zero, List.cons_append, List.nil_append, ↓reduceIte, if_true, if_false, Bool.false_eq_true, decide_true, decide_false, Bool.not_true, Bool.not_false, and_self, and_true, true_and, or_true, true_or, not_true_eq_false, not_false_eq_true]
    exact leave_same (by simp [D.lo])
  · rcases isp_loop (n := n) (by omega) hn (st := st) 19999 2 (by omega) (by omega) (by omega) (by omega) with ⟨h, es, e⟩ | ⟨h, es, e⟩
    · rw [prB_t h]
      have e' : whL T_is_prime1 B_is_prime2 W_is_prime1 [some (.int n), some (.int 2)] st = .ok .nx es st := e
      simp only [F_is_prime, M_is_prime, h2, e', q_runF, q_kFin, q_kFinN, q_mC, q_v0, q_v1, q_v2, q_v3, q_v4, q_v5, q_v6, q_v7, q_v8, q_v9, q_v10, q_v11, q_v12, q_v13, q_mOp, q_mTest, q_kB, q_kAnd, q_kOr, q_kNot, q_kNeg, q_kChT, q_kChF, q_mTru, q_tAnd, q_tOr, q_tNot, q_tYes, q_eAnd, q_eOr, q_eNot, q_mIf, q_aNil, q_aCons, q_mTup, q_mLst, q_mB, q_mCall, q_mNeg, q_mChain, q_sNil, q_sSeq, q_sExpr, q_sRet, q_sRetN, q_sBk, q_sCt, q_sIf, q_sAsg, q_kPutN, q_sBox, q_kBox, q_sApp, q_sSetI, q_sAug, q_kAug, q_kAug2, q_sFor, q_mRng1, q_kR1, q_kR2, q_mRng2, q_mIt, q_kItL, q_kItT, q_addI, q_addS, q_addT, q_addL, q_sub, q_mul, q_mod, q_fdv, q_pow, q_lt, q_le, q_gt, q_ge, q_iadd, q_isub, q_isN, q_notN, q_isNon_non, q_isNon_int, q_isNon_tup, q_isNon_lst, q_eqI, q_eqS, q_neI, q_neS, q_ixT, q_ixL, q_ixS, q_ixR0, q_int, q_intb, q_lenT, q_lenC, q_lenL, q_min, q_max, q_tupL, q_tupT, q_listL, q_listT, q_truB, q_truI, q_truT, q_truL, q_truN, q_bind, q_toS, q_nx, q_rt, q_bk, q_ct, q_ofO, q_noex, List.set_cons_zero, List.set_cons_succ, List.getElem?_cons_zero, List.getElem?_cons_succ, Option.map_some, Option.bind_some, List.length_cons, List.length_nil, List.map_cons, List.map_nil, Nat.reduceAdd, Nat.reduceSub, Nat.reduceLeDiff, Nat.reduceEqDiff, List.replicate_succ, List.replicate_zero, List.cons_append, List.nil_append, ↓reduceIte, if_true, if_false, Bool.false_eq_true, decide_true, decide_false, Bool.not_true, Bool.not_false, and_self, and_true, true_and, or_true, true_or, not_true_eq_false, not_false_eq_true]
      exact leave_same (by simp [D.lo])
    · rw [prB_f h]
      have e' : whL T_is_prime1 B_is_prime2 W_is_prime1 [some (.int n), some (.int 2)] st = .ok (.rt (.bl false)) es st := e
      simp only [F_is_prime, M_is_prime, h2, e', q_runF, q_kFin, q_kFinN, q_mC, q_v0, q_v1, q_v2, q_v3, q_v4, q_v5, q_v6, q_v7, q_v8, q_v9, q_v10, q_v11, q_v12, q_v13, q_mOp, q_mTest, q_kB, q_kAnd, q_kOr, q_kNot, q_kNeg, q_kChT, q_kChF, q_mTru, q_tAnd, q_tOr, q_tNot, q_tYes, q_eAnd, q_eOr, q_eNot, q_mIf, q_aNil, q_aCons, q_mTup, q_mLst, q_mB, q_mCall, q_mNeg, q_mChain, q_sNil, q_sSeq, q_sExpr, q_sRet, q_sRetN, q_sBk, q_sCt, q_sIf, q_sAsg, q_kPutN, q_sBox, q_kBox, q_sApp, q_sSetI, q_sAug, q_kAug, q_kAug2, q_sFor, q_mRng1, q_kR1, q_kR2, q_mRng2, q_mIt, q_kItL, q_kItT, q_addI, q_addS, q_addT, q_addL, q_sub, q_mul, q_mod, q_fdv, q_pow, q_lt, q_le, q_gt, q_ge, q_iadd, q_isub, q_isN, q_notN, q_isNon_non, q_isNon_int, q_isNon_tup, q_isNon_lst, q_eqI, q_eqS, q_neI, q_neS, q_ixT, q_ixL, q_ixS, q_ixR0, q_int, q_intb, q_lenT, q_lenC, q_lenL, q_min, q_max, q_tupL, q_tupT, q_listL, q_listT, q_truB, q_truI, q_truT, q_truL, q_truN, q_bind, q_toS, q_nx, q_rt, q_bk, q_ct, q_ofO, q_noex, List.set_cons_zero, List.set_cons_succ, List.getElem?_cons_zero, List.getElem?_cons_succ, Option.map_some, Option.bind_some, List.length_cons, List.length_nil, List.map_cons, List.map_nil, Nat.reduceAdd, Nat.reduceSub, Nat.reduceLeDiff, Nat.reduceEqDiff, List.replicate_succ, List.replicate_zero, List.cons_append, List.nil_append, ↓reduceIte, if_true, if_false, Bool.false_eq_true, decide_true, decide_false, Bool.not_true, Bool.not_false, and_self, and_true, true_and, or_true, true_or, not_true_eq_false, not_false_eq_true]
      exact leave_same (by simp [D.lo])
theorem inverse_is {p a : Int} (hp : 2 ≤ p) (hp2 : p < 2 ^ 32) {st : Store} : F_inverse [.int p, .int a] st = .ok (.int (a ^ (p - 2).toNat % p)) st := by
  have e : p - 2 = (((p - 2).toNat : Nat) : Int) := by rw [Int.toNat_of_nonneg (by omega)]
  have h := power_is (a := a) (k := (p - 2).toNat) (st := st) hp hp2 (by omega)
  rw [← e] at h
  simp only [F_inverse, M_inverse, h, q_runF, q_kFin, q_kFinN, q_mC, q_v0, q_v1, q_v2, q_v3, q_v4, q_v5, q_v6, q_v7, q_v8, q_v9, q_v10, q_v11, q_v12, q_v13, q_mOp, q_mTest, q_kB, q_kAnd, q_kOr, q_kNot, q_kNeg, q_kChT, q_kChF, q_mTru, q_tAnd, q_tOr, q_tNot, q_tYes, q_eAnd, q_eOr, q_eNot, q_mIf, q_aNil, q_aCons, q_mTup, q_mLst, q_mB, q_mCall, q_mNeg, q_mChain, q_sNil, q_sSeq, q_sExpr, q_sRet, q_sRetN, q_sBk, q_sCt, q_sIf, q_sAsg, q_kPutN, q_sBox, q_kBox, q_sApp, q_sSetI, q_sAug, q_kAug, q_kAug2, q_sFor, q_mRng1, q_kR1, q_kR2, q_mRng2, q_mIt, q_kItL, q_kItT, q_addI, q_addS, q_addT, q_addL, q_sub, q_mul, q_mod, q_fdv, q_pow, q_lt, q_le, q_gt, q_ge, q_iadd, q_isub, q_isN, q_notN, q_isNon_non, q_isNon_int, q_isNon_tup, q_isNon_lst, q_eqI, q_eqS, q_neI, q_neS, q_ixT, q_ixL, q_ixS, q_ixR0, q_int, q_intb, q_lenT, q_lenC, q_lenL, q_min, q_max, q_tupL, q_tupT, q_listL, q_listT, q_truB, q_truI, q_truT, q_truL, q_truN, q_bind, q_toS, q_nx, q_rt, q_bk, q_ct, q_ofO, q_noex, List.set_cons_zero, List.set_cons_succ, List.getElem?_cons_zero, List.getElem?_cons_succ, Option.map_some, Option.bind_some, List.length_cons, List.length_nil, List.map_cons, List.map_nil, Nat.reduceAdd, Nat.reduceSub, Nat.reduceLeDiff, Nat.reduceEqDiff, List.replicate_succ, List.replicate_zero, List.cons_append, List.nil_append, ↓reduceIte, if_true, if_false, Bool.false_eq_true, decide_true, decide_false, Bool.not_true, Bool.not_false, and_self, and_true, true_and, or_true, true_or, not_true_eq_false, not_false_eq_true]
  exact leave_same (by simp [D.lo])
end Zp
/-! the little theorem, without the machine -/
namespace Zn
def Pr (p : Nat) : Prop := 2 ≤ p ∧ ∀ d, 2 ≤ d → d < p → ¬ d ∣ p
theorem pr_of {p : Nat} (h : prm (p : Int)) : Pr p := by
  have h1 := h.1
  refine ⟨by omega, fun d h2 h3 h4 => prm_dvd h h2 (by omega) ?_⟩
  have := Nat.mod_eq_zero_of_dvd h4
  omega
theorem euclid {p a b : Nat} (h : Pr p) (ha : ¬ p ∣ a) (hb : ¬ p ∣ b) : ¬ p ∣ a * b := by
  intro hd
  have hg := Nat.gcd_dvd_left p a
  have hg2 := Nat.gcd_dvd_right p a
  have hp : 0 < p := by have := h.1; omega
  have hle := Nat.le_of_dvd hp hg
  have hpos : 0 < Nat.gcd p a := Nat.gcd_pos_of_pos_left _ hp
  by_cases e1 : Nat.gcd p a = 1
  · exact hb (Nat.Coprime.dvd_of_dvd_mul_left e1 hd)
  · by_cases e2 : Nat.gcd p a = p
    · rw [e2] at hg2; exact ha hg2
    · exact h.2 _ (by omega) (by omega) hg
theorem not_dvd_small {p x : Nat} (h1 : 0 < x) (h2 : x < p) : ¬ p ∣ x := fun h => by have := Nat.le_of_dvd h1 h; omega
theorem prod_map (a p : Nat) : ∀ l : List Nat, (l.map fun x => a * x % p).prod % p = a ^ l.length * l.prod % p
  | [] => by simp
  | x :: l => by
    rw [List.map_cons, List.prod_cons, List.prod_cons, List.length_cons, Nat.mul_mod, prod_map a p l, Nat.mod_mod, ← Nat.mul_mod]
    congr 1
    rw [Nat.pow_succ]
    ac_rfl
theorem prod_not {p : Nat} (h : Pr p) : ∀ l : List Nat, (∀ x ∈ l, ¬ p ∣ x) → ¬ p ∣ l.prod
  | [], _ => by
    rw [List.prod_nil]
    exact not_dvd_small (by decide) (by have := h.1; omega)
  | x :: l, hl => by
    rw [List.prod_cons]
    exact euclid h (hl x (List.mem_cons_self ..)) (prod_not h l fun y hy => hl y (List.mem_cons_of_mem _ hy))
theorem perm_of {L M : List Nat} (hM : M.Nodup) (hL : L.Nodup) (hs : M ⊆ L) (he : M.length = L.length) : M.Perm L := by
  rw [List.perm_ext_iff_of_nodup hM hL]
  intro y
  constructor
  · exact fun h => hs h
  · intro hy
    by_cases c : y ∈ M
    · exact c
    · exfalso
      have hn : (y :: M).Nodup := List.nodup_cons.mpr ⟨c, hM⟩
      have hsub : (y :: M) ⊆ L := List.cons_subset.mpr ⟨hy, hs⟩
      have := List.Nodup.length_le_of_subset hn hsub
      rw [List.length_cons] at this
      omega
theorem fermat {p a : Nat} (h : Pr p) (ha : ¬ p ∣ a) : a ^ (p - 1) % p = 1 := by
  have hp : 0 < p := by have := h.1; omega
  have hmem : ∀ x, x ∈ List.range' 1 (p - 1) → 0 < x ∧ x < p := fun x hx => by
    rw [List.mem_range'_1] at hx; omega
  have hL : (List.range' 1 (p - 1)).Nodup := List.nodup_range'
  have hM : ((List.range' 1 (p - 1)).map fun x => a * x % p).Nodup := by
    rw [List.Nodup, List.pairwise_map]
    refine List.Pairwise.imp_of_mem (R := (· < ·)) ?_ (List.pairwise_lt_range' 1 (by decide))
    intro x y hx hy hxy e
    have hx' := hmem x hx
    have hy' := hmem y hy
    have hd : p ∣ a * y - a * x := by
      exact Nat.dvd_of_mod_eq_zero (Nat.sub_mod_eq_zero_of_mod_eq e.symm)
    rw [← Nat.mul_sub] at hd
    exact euclid h ha (not_dvd_small (by omega) (by omega)) hd
  have hs : ((List.range' 1 (p - 1)).map fun x => a * x % p) ⊆ List.range' 1 (p - 1) := by
    intro y hy
    obtain ⟨x, hx, rfl⟩ := List.mem_map.mp hy
    have hx' := hmem x hx
    rw [List.mem_range'_1]
    have h1 := Nat.mod_lt (a * x) hp
    have h2 : a * x % p ≠ 0 := fun e => euclid h ha (not_dvd_small hx'.1 hx'.2) (Nat.dvd_of_mod_eq_zero e)
    omega
  have hP := perm_of hM hL hs (by rw [List.length_map])
  have e1 := hP.prod_nat
  have e2 := prod_map a p (List.range' 1 (p - 1))
  rw [e1, List.length_range'] at e2
  have hq : ¬ p ∣ (List.range' 1 (p - 1)).prod := prod_not h _ fun x hx => not_dvd_small (hmem x hx).1 (hmem x hx).2
  have ha0 : 0 < a := Nat.pos_of_ne_zero fun e => ha (by rw [e]; exact Nat.dvd_zero p)
  have hpw : 0 < a ^ (p - 1) := Nat.pow_pos ha0
  obtain ⟨b, hb⟩ : ∃ b, a ^ (p - 1) = b + 1 := ⟨a ^ (p - 1) - 1, by omega⟩
  rw [hb] at e2 ⊢
  obtain ⟨Q, hQ⟩ : ∃ Q, (List.range' 1 (p - 1)).prod = Q := ⟨_, rfl⟩
  rw [hQ] at e2 hq
  have e3 : p ∣ b * Q := by
    have e4 : (b + 1) * Q = b * Q + Q := by rw [Nat.add_mul, Nat.one_mul]
    rw [e4] at e2
    have : p ∣ (b * Q + Q) - Q := by
      exact Nat.dvd_of_mod_eq_zero (Nat.sub_mod_eq_zero_of_mod_eq e2.symm)
    rwa [Nat.add_sub_cancel] at this
  have e5 : p ∣ b := by
    by_cases c : p ∣ b
    · exact c
    · exact absurd e3 (euclid h c hq)
  obtain ⟨t, rfl⟩ := e5
  rw [Nat.add_comm, Nat.add_mul_mod_self_left]
  exact Nat.mod_eq_of_lt (by have := h.1; omega)
/-- the inverse of a number that isn't 0, below a prime -/
theorem inv_ok {p : Int} (h : prm p) {a : Int} (h0 : 0 < a) (h1 : a < p) : a ^ (p - 2).toNat % p * a % p = 1 := by
  obtain ⟨q, rfl⟩ : ∃ q : Nat, p = q := ⟨p.toNat, by rw [Int.toNat_of_nonneg (by omega)]⟩
  obtain ⟨b, rfl⟩ : ∃ b : Nat, a = b := ⟨a.toNat, by rw [Int.toNat_of_nonneg (by omega)]⟩
  have hP := pr_of h
  have hq := hP.1
  have hb : ¬ q ∣ b := not_dvd_small (by omega) (by omega)
  have hf := fermat hP hb
  have e : ((q : Int) - 2).toNat = q - 2 := by omega
  have e9 : (b : Int) ^ (q - 2) * (b : Int) = (b : Int) ^ (q - 1) := by
    rw [← Int.pow_succ]
    congr 1
    omega
  rw [mul_mod_l, e, e9, ← Int.natCast_pow, ← Int.natCast_emod, hf]
  rfl
theorem inv_pos {p : Int} (h : prm p) {a : Int} (h0 : 0 < a) (h1 : a < p) : 0 < a ^ (p - 2).toNat % p := by
  have e := inv_ok h h0 h1
  have hp := h.1
  have hn := Int.emod_nonneg (a ^ (p - 2).toNat) (show p ≠ 0 by omega)
  by_cases c : a ^ (p - 2).toNat % p = 0
  · rw [c, Int.zero_mul, Int.zero_emod] at e
    exact absurd e (by decide)
  · omega
end Zn
namespace Zv
open PySem PySem.Spec L2
/-! ## a list or a tuple as a source -/
def SqB (t : Bool) (K : PySem.W.Frag) (H : Hp) (a : Addr) (xs : List V) : Prop := cond t (SqT K H a xs) (SqL K H a xs)
def srcO (t : Bool) (a : Addr) : Obj := cond t { cls := .type "tuple_iterator", data := .fields #[.ref a, .int 0 0] } { cls := .type "list_iterator", data := .fields #[.ref a, .int 0 0] }
def SrcAt (t : Bool) (h : Heap) (a : Addr) (its : Array Value) : Prop := cond t (h.IsTuple a its) (h.IsList a its)
def ItAt (t : Bool) (h : Heap) (q a : Addr) (i : Nat) : Prop := cond t (h.IsTupleIter q a i) (h.IsListIter q a i)
theorem src_begins (t : Bool) (a : Addr) (its : Array Value) : Begins (.ref a) (srcO t a) (fun h => SrcAt t h a its) := by
  cases t
  · exact begins_list a its
  · exact begins_tuple a its
theorem src_draws (t : Bool) {prog : Program} {w : World} {A : Around} (hh : A.handled = none) (q a : Addr) (hne : a ≠ q) (its : Array Value) :
    Draws prog w A q [q, a] its.size (fun i v => its[i]? = some v) (fun i h => ItAt t h q a i ∧ SrcAt t h a its) := by
  cases t
  · exact Draws.list hh q a hne its
  · exact Draws.tuple hh q a hne its
theorem src_it0 {t : Bool} {h : Heap} {q a : Addr} (e : h.get? q = some (srcO t a)) : ItAt t h q a 0 := by
  cases t <;> exact ⟨_, e, rfl, rfl⟩
theorem it_obj {t : Bool} {h : Heap} {q a : Addr} {i : Nat} (z : ItAt t h q a i) : ∃ o, h.get? q = some o ∧ ∀ v, o.data ≠ .cell v := by
  cases t
  · obtain ⟨o, e, _, d⟩ := z; exact ⟨o, e, fun v y => by rw [d] at y; cases y⟩
  · obtain ⟨o, e, _, d⟩ := z; exact ⟨o, e, fun v y => by rw [d] at y; cases y⟩
theorem it_keep {t : Bool} {h h' : Heap} {q a : Addr} {i : Nat} (z : ItAt t h q a i) (k : ∀ o, h.get? q = some o → h'.get? q = some o) : ItAt t h' q a i := by
  cases t
  · exact Heap.IsListIter.at z k
  · exact Heap.IsTupleIter.at z k
theorem src_lt {t : Bool} {h : Heap} {a : Addr} {its : Array Value} (z : SrcAt t h a its) : a < h.objs.size := by
  cases t
  · obtain ⟨_, e, _⟩ := z; exact Heap.lt_size e
  · obtain ⟨_, e, _⟩ := z; exact Heap.lt_size e
theorem src_of {t : Bool} {X : Cx} {pins : List (Addr × Obj)} {σ : St} {H : Hp} {s : Shared} {a : Addr} {xs : List V} (I : Inv X pins σ H s) (z : SqB t X.K H a xs) : ∃ its : List Value, Vals xs its ∧ SrcAt t s.heap a its.toArray := by
  cases t
  · obtain ⟨its, r, p, _⟩ := I.list z; exact ⟨its, r, p.isList⟩
  · obtain ⟨its, r, p, _⟩ := I.tuple z; exact ⟨its, r, p⟩
theorem src_inj {t : Bool} {X : Cx} {pins : List (Addr × Obj)} {σ : St} {H : Hp} {s : Shared} {a : Addr} {xs ys : List V} (I : Inv X pins σ H s) (z : SqB t X.K H a xs) (z' : SqB t X.K H a ys) : xs = ys := by
  cases t
  · exact I.list_inj z z'
  · exact I.tuple_inj z z'

/-! ## enumerate -/
def ItE (t : Bool) (K : PySem.W.Frag) (a : Addr) : It where
  go i H := ∃ (xs : List V) (x : V), SqB t K H a xs ∧ xs[i]? = some x
  yld i H v H' := ∃ (T : Addr) (x : V), v = .ref T ∧ H T = none ∧ H' = upd H T (.tup [.int (i : Nat), x]) ∧ ∀ xs : List V, SqB t K H a xs → xs[i]? = some x
  stop i H := ∃ xs : List V, SqB t K H a xs ∧ xs.length = i
theorem two_fp {e q b : Addr} (hb : b ∈ [e, q]) : b = e ∨ b = q := by simpa using hb
theorem turnE {P : Program} {w : World} {K : PySem.W.Frag} {elts : List Expr} {kk : Nat} {tpos : Pos} (t : Bool) (a e q : Addr) :
    Turn P w K (.Tuple elts kk tpos) (ItE t K a) [e, q] e (fun i h => (∃ old, IsEnum h e q ((i : Nat) : Int) old) ∧ ItAt t h q a i ∧ e ≠ q ∧ a ≠ q ∧ e ≠ a) where
  mem := List.mem_cons_self
  obj i h z b hb := by
    obtain ⟨⟨old, y⟩, y2, _⟩ := z
    rcases two_fp hb with rfl | rfl
    · exact ⟨_, y, fun v c => nomatch c⟩
    · exact it_obj y2
  keep i h h' z k := by
    obtain ⟨⟨old, y⟩, y2, y3⟩ := z
    exact ⟨⟨old, k _ List.mem_cons_self _ y⟩, it_keep y2 (k q (by simp)), y3⟩
  item := by
    rintro X rfl rfl rfl hc i pins s σ H E I hf ⟨⟨old, y⟩, y2, n1, n2, n3⟩ ⟨xs, x, hx1, hx2⟩
    obtain ⟨its, rv, p⟩ := src_of I hx1
    obtain ⟨u, hu, ru⟩ := rv.get hx2
    have hu' : its.toArray[i]? = some u := by simpa using hu
    have hlt : i < its.toArray.size := (Array.getElem?_eq_some_iff.mp hu').1
    have le : e < s.heap.objs.size := Heap.lt_size y
    have lq : q < s.heap.objs.size := by obtain ⟨_, z, _⟩ := it_obj y2; exact Heap.lt_size z
    refine wpAny_pyNext_enum_itemD (src_draws (A := X.A.in1) t (show X.A.in1.handled = none from I.ok.hd hc) q a n2 its.toArray) y ⟨y2, p⟩ hlt n1 (by simp [n1, n3]) fun u' h1 tk c1 c2 c3 c4 c5 c6 => ?_
    obtain rfl : u' = u := by rw [hu'] at c1; exact (Option.some.inj c1).symm
    refine ⟨_, rfl, ?_⟩
    refine wpAny_letOwnedTupleGo_enum (s := { s with heap := h1, toks := tk + 1 }) c2 fun h2 d1 d2 => ?_
    have eT : h2.get? s.heap.objs.size = some { cls := .type "tuple", data := .seq #[.int i tk, u'] } := (d2.2 _ (Nat.ne_of_gt le)).trans c4
    have new : ObjOk X.prog X.w (upd H s.heap.objs.size (.tup [.int (i : Nat), x])) h2 s.heap.objs.size (.tup [.int (i : Nat), x]) := by
      refine ⟨?_, [.int i tk, u'], .cons ⟨_, rfl⟩ (.cons ru .nil), ⟨_, eT, rfl, _, rfl⟩⟩
      show 2 ≤ sizeLine
      decide
    have I' : Inv X pins σ (upd H s.heap.objs.size (.tup [.int (i : Nat), x])) { s with heap := h2, toks := tk + 1 } := by
      refine I.turnedNew (ch := [e, q]) (fun b ob hb z => ?_) hf (Nat.le_refl _) new
      have b1 : b ≠ e := fun c => hb (by rw [c]; simp)
      have b2 : b ≠ q := fun c => hb (by rw [c]; simp)
      exact (d2.2 b b1).trans (c6 b ob b1 b2 z)
    have e1 : ((i + 1 : Nat) : Int) = (i : Int) + 1 := rfl
    refine ⟨.ref s.heap.objs.size, _, I', rfl, ?_, ?_, fun b hb => ?_⟩
    · exact ⟨_, x, rfl, I.hok.fresh (Nat.le_refl _), rfl, fun zs hz => by rw [src_inj I hz hx1]; exact hx2⟩
    · exact ⟨⟨u', by rw [e1]; exact d1⟩, it_keep c3.1 fun o z => (d2.2 q (Ne.symm n1)).trans z, n1, n2, n3⟩
    · have hl : b < s.heap.objs.size := by rcases two_fp hb with rfl | rfl <;> assumption
      rw [upd_ne (Nat.ne_of_lt hl)]
      exact (hf b hb).1
  done := by
    rintro X rfl rfl rfl hc i pins s σ H E I hf ⟨⟨old, y⟩, y2, n1, n2, n3⟩ ⟨xs, hx1, hx2⟩
    obtain ⟨its, rv, p⟩ := src_of I hx1
    obtain ⟨f0, f1, f2, f3, f4, f5⟩ := hf q (by simp)
    have hl := rv.length
    have es : i = its.toArray.size := by rw [List.size_toArray, ← hl]; exact hx2.symm
    subst es
    exact wpAny_pyNext_enum_endD (src_draws (A := X.A.in1) t (show X.A.in1.handled = none from I.ok.hd hc) q a n2 its.toArray) y ⟨y2, p⟩ fun h1 c1 => ⟨rfl, I.turned (t' := s.toks) (fun b o hb z => c1 b o hb z) f0 f1 f3 f4 f5⟩
  self A i s Q E z h := by
    obtain ⟨⟨old, y⟩, _⟩ := z
    exact wpAny_pyIter_enum y h
end Zv
namespace Zv
open PySem PySem.Spec PyProof.Rows L2
/-! ## the calls: enumerate of one source, zip of two -/
abbrev enO (h : Heap) : Obj := { cls := .type "enumerate", data := .fields #[.none, .bool false, .ref h.objs.size, rawInt 0, .none, .none] }
set_option maxHeartbeats 1000000 in
theorem meetsE1 {v : Value} {o : Obj} {S : Heap → Prop} (B : Begins v o S) :
    Meets (Builtin.«enumerate.__new__» ⟨[.type "enumerate", v], []⟩) fun _ R s => S s.heap ∧
      R (.ok (.ret (.ref (s.heap.push o).objs.size))) { s with heap := (s.heap.push o).push (enO s.heap) } := by
  refine .of_wp fun prog w A R s hh => ?_
  obtain ⟨hp, g, d, tk, os⟩ := s
  obtain ⟨hS, hR⟩ := hh
  have known := sub_enumerate
  have begun : ∀ {A' : Around} {E : Value → Shared → Prop} {Q : Value → Shared → Prop}, Q (.ref hp.objs.size) ⟨hp.push o, g, d, tk, os⟩ → wpAny (model prog w) A' (pyIter v) Q E ⟨hp, g, d, tk, os⟩ := fun z =>
    B.iter prog w _ _ ⟨hp, g, d, tk, os⟩ _ hS z
  wp_walk using begun
  refine wpAny_stack_any fun sk => wpAny_pure ?_
  split
  · rename_i c0 _ _ _ _ _
    rcases hb : (c0 == Value.type "enumerate") with _ | _
    all_goals
      wp_walk using begun
      exact ⟨_, rfl, hR⟩
  · wp_walk using begun
    exact ⟨_, rfl, hR⟩
section
variable {prog : Program} {w : World} {A : Around} {E : Value → Shared → Prop} {s : Shared}
theorem callE1 {v : Value} {o : Obj} {S : Heap → Prop} {Q : Value → Shared → Prop} (B : Begins v o S) (hS : S s.heap)
    (hQ : ∀ h', IsEnum h' (s.heap.objs.size + 1) s.heap.objs.size 0 .none → h'.get? s.heap.objs.size = some o → (∀ b u, s.heap.get? b = some u → h'.get? b = some u) → Q (.ref (s.heap.objs.size + 1)) { s with heap := h' }) :
    wpAny (model prog w) A (call (.type "enumerate") [v]) Q E s := by
  have z1 : (s.heap.push o).objs.size = s.heap.objs.size + 1 := Heap.size_push ..
  have e1 : ((s.heap.push o).push (enO s.heap)).get? (s.heap.push o).objs.size = some (enO s.heap) := Heap.get?_push_size _ rfl
  have e2 : ((s.heap.push o).push (enO s.heap)).get? s.heap.objs.size = some o := Heap.get?_push_of_some _ (Heap.get?_push_size _ B.free)
  rw [z1] at e1
  refine callType_new F.called_enumerate (by decide) (F.typeCall_enumerate_1 _) (F.newCall_enumerate_1 _) (fun ob => F.args_object_init_2 ob _) F.entry_enumerate_new (meetsE1 B) ⟨hS, ?_⟩
  show _ ∧ _
  rw [z1]
  exact ⟨⟨_, e1, rfl⟩, hQ _ e1 e2 fun b u z => Heap.get?_push_of_some _ (Heap.get?_push_of_some _ z)⟩
end
section
variable {X : Cx}
def iEnB (K : PySem.W.Frag) (ta : TA) : TI := fun σ H R => ta σ H fun vs H1 => ∃ (t : Bool) (a : Addr) (xs : List V), vs = [.ref a] ∧ SqB t K H1 a xs ∧ R (ItE t K a) H1
theorem piE {e : Expr} {ta : TA} {p pos tpos : Pos} {elts : List Expr} {kk : Nat} (hg : Gl X "enumerate") (hm : X.mg "enumerate" = none) (ha : PA X [e] ta) (hs : starEach [e] X.env = [(false, eval e X.env)] := by rfl) :
    PI X (.Tuple elts kk tpos) (.Call (.Name "enumerate" p) [e] [] pos) (iEnB X.K ta) := by
  constructor
  intro pins s σ H R I h
  refine Call_ (ld_blt I hg hm boot_enumerate (PyProof.Rows.callWith_type1 (thn (ha.run pos pins s σ H _ I h) ?_) hs rfl))
  rintro us s1 ⟨_, H1, I1, r1, t, a, xs, rfl, hq, q⟩
  obtain ⟨u, rfl, ru⟩ := vals1 r1
  obtain rfl : u = Value.ref a := ru
  obtain ⟨its, rv, p'⟩ := src_of I1 hq
  have la := src_lt p'
  refine callE1 (src_begins t a its.toArray) p' fun h' c1 c2 c3 => wpAny_pyIter_enum c1 ?_
  refine ⟨s1.heap.objs.size + 1, [s1.heap.objs.size + 1, s1.heap.objs.size], _, _, H1, rfl, I1.kept (t' := s1.toks) c3, turnE t a (s1.heap.objs.size + 1) s1.heap.objs.size, ⟨⟨.none, c1⟩, src_it0 c2, Nat.succ_ne_self _, Nat.ne_of_lt la, fun z => ?_⟩, fun b hb => ?_, q⟩
  · rw [← z] at la
    exact absurd la (Nat.not_lt.mpr (Nat.le_succ _))
  · have hle : s1.heap.objs.size ≤ b := by
      rcases two_fp hb with rfl | rfl
      · exact Nat.le_succ _
      · exact Nat.le_refl _
    exact I1.fpOk hle (I1.hok.fresh hle)
end

/-! ## zip -/
def ItP (t t2 : Bool) (K : PySem.W.Frag) (a b : Addr) : It where
  go i H := ∃ (xs ys : List V) (x y : V), SqB t K H a xs ∧ SqB t2 K H b ys ∧ xs[i]? = some x ∧ ys[i]? = some y
  yld i H v H' := ∃ (T : Addr) (x y : V), v = .ref T ∧ H T = none ∧ H' = upd H T (.tup [x, y]) ∧ (∀ xs : List V, SqB t K H a xs → xs[i]? = some x) ∧ ∀ ys : List V, SqB t2 K H b ys → ys[i]? = some y
  stop i H := ∃ xs ys : List V, SqB t K H a xs ∧ SqB t2 K H b ys ∧ i = min xs.length ys.length
theorem five_fp {z TI TO i1 i2 b : Addr} (hb : b ∈ [z, TI, TO, i1, i2]) : b = z ∨ b = TI ∨ b = TO ∨ b = i1 ∨ b = i2 := by simpa using hb
theorem turnP {P : Program} {w : World} {K : PySem.W.Frag} {elts : List Expr} {kk : Nat} {tpos : Pos} (t t2 : Bool) (a b z TI TO i1 i2 : Addr) (S : ZipSep2 z TI TO i1 i2 [i1, a] [i2, b]) :
    Turn P w K (.Tuple elts kk tpos) (ItP t t2 K a b) [z, TI, TO, i1, i2] z (fun i h => IsZip h z TI TO .none ∧ IsTupOf2 h TI (.ref i1) (.ref i2) ∧ (∃ x y, IsTupOf2 h TO x y) ∧ ItAt t h i1 a i ∧ ItAt t2 h i2 b i ∧ a ≠ i1 ∧ b ≠ i2) where
  mem := List.mem_cons_self
  obj i h y c hc := by
    obtain ⟨y1, y2, ⟨x0, x1, y3⟩, y4, y5, _⟩ := y
    rcases five_fp hc with rfl | rfl | rfl | rfl | rfl
    · exact ⟨_, y1, fun v q => nomatch q⟩
    · exact ⟨_, y2, fun v q => nomatch q⟩
    · exact ⟨_, y3, fun v q => nomatch q⟩
    · exact it_obj y4
    · exact it_obj y5
  keep i h h' y k := by
    obtain ⟨y1, y2, ⟨x0, x1, y3⟩, y4, y5, y6⟩ := y
    exact ⟨k _ (by simp) _ y1, k _ (by simp) _ y2, ⟨x0, x1, k _ (by simp) _ y3⟩, it_keep y4 (k i1 (by simp)), it_keep y5 (k i2 (by simp)), y6⟩
  item := by
    rintro X rfl rfl rfl hc i pins s σ H E I hf ⟨y1, y2, ⟨x0, x1, y3⟩, y4, y5, n1, n2⟩ ⟨xs, ys, x, y, q1, q2, q3, q4⟩
    obtain ⟨its, rv, p⟩ := src_of I q1
    obtain ⟨its2, rv2, p2⟩ := src_of I q2
    obtain ⟨u, hu, ru⟩ := rv.get q3
    obtain ⟨u2, hu2, ru2⟩ := rv2.get q4
    have hu' : its.toArray[i]? = some u := by simpa using hu
    have hu2' : its2.toArray[i]? = some u2 := by simpa using hu2
    have hl : i < its.toArray.size := (Array.getElem?_eq_some_iff.mp hu').1
    have hl2 : i < its2.toArray.size := (Array.getElem?_eq_some_iff.mp hu2').1
    have hA : X.A.in1.handled = none := I.ok.hd hc
    have lz : z < s.heap.objs.size := Heap.lt_size y1
    refine wpAny_pyNext_zipD2_item S (src_draws (A := X.A.in1) t hA i1 a n1 its.toArray) (src_draws (A := X.A.in1) t2 hA i2 b n2 its2.toArray) y1 y2 y3 ⟨y4, p⟩ ⟨y5, p2⟩ hl hl2 fun w1 w2 h1 tk c1 c2 c3 c4 c5 c6 c7 c8 c9 => ?_
    obtain rfl : w1 = u := by rw [hu'] at c1; exact (Option.some.inj c1).symm
    obtain rfl : w2 = u2 := by rw [hu2'] at c2; exact (Option.some.inj c2).symm
    refine ⟨_, rfl, ?_⟩
    refine wpAny_letOwnedTupleGo_zip (s := { s with heap := h1, toks := tk }) c3 fun h2 d1 d2 => ?_
    have eT : h2.get? s.heap.objs.size = some { cls := .type "tuple", data := .seq #[w1, w2] } := (d2.2 _ (Nat.ne_of_gt lz)).trans c7
    have new : ObjOk X.prog X.w (upd H s.heap.objs.size (.tup [x, y])) h2 s.heap.objs.size (.tup [x, y]) := by
      refine ⟨?_, [w1, w2], .cons ru (.cons ru2 .nil), ⟨_, eT, rfl, _, rfl⟩⟩
      show 2 ≤ sizeLine
      decide
    have I' : Inv X pins σ (upd H s.heap.objs.size (.tup [x, y])) { s with heap := h2, toks := tk } := by
      refine I.turnedNew (ch := [z, TI, TO, i1, i2]) (fun c ob hb q => ?_) hf (Nat.le_refl _) new
      have b1 : c ≠ z := fun r => hb (by rw [r]; simp)
      have b3 : c ≠ TO := fun r => hb (by rw [r]; simp)
      have b4 : c ≠ i1 := fun r => hb (by rw [r]; simp)
      have b5 : c ≠ i2 := fun r => hb (by rw [r]; simp)
      exact (d2.2 c b1).trans (c9 c ob b1 b3 b4 b5 q)
    refine ⟨.ref s.heap.objs.size, _, I', rfl, ?_, ⟨d1, ?_, ⟨w1, w2, ?_⟩, ?_, ?_, n1, n2⟩, fun c hb => ?_⟩
    · exact ⟨_, x, y, rfl, I.hok.fresh (Nat.le_refl _), rfl, fun zs hz => by rw [src_inj I hz q1]; exact q3, fun zs hz => by rw [src_inj I hz q2]; exact q4⟩
    · exact (d2.2 _ S.TIz).trans (c9 _ _ S.TIz S.TITO S.TIi1 S.TIi2 y2)
    · exact (d2.2 _ S.TOz).trans c4
    · exact it_keep c5.1 fun o r => (d2.2 _ (Ne.symm S.zi1)).trans r
    · exact it_keep c6.1 fun o r => (d2.2 _ (Ne.symm S.zi2)).trans r
    · have hlt : c < s.heap.objs.size := by
        rcases five_fp hb with rfl | rfl | rfl | rfl | rfl
        · exact lz
        · exact Heap.lt_size y2
        · exact Heap.lt_size y3
        · obtain ⟨_, r, _⟩ := it_obj y4; exact Heap.lt_size r
        · obtain ⟨_, r, _⟩ := it_obj y5; exact Heap.lt_size r
      rw [upd_ne (Nat.ne_of_lt hlt)]
      exact (hf c hb).1
  done := by
    rintro X rfl rfl rfl hc i pins s σ H E I hf ⟨y1, y2, ⟨x0, x1, y3⟩, y4, y5, n1, n2⟩ ⟨xs, ys, q1, q2, q3⟩
    obtain ⟨its, rv, p⟩ := src_of I q1
    obtain ⟨its2, rv2, p2⟩ := src_of I q2
    have hA : X.A.in1.handled = none := I.ok.hd hc
    have m1 : its.toArray.size = xs.length := by rw [List.size_toArray, ← rv.length]
    have m2 : its2.toArray.size = ys.length := by rw [List.size_toArray, ← rv2.length]
    refine wpAny_pyNext_zipD2_end S (src_draws (A := X.A.in1) t hA i1 a n1 its.toArray) (src_draws (A := X.A.in1) t2 hA i2 b n2 its2.toArray) y1 y2 y3 ⟨y4, p⟩ ⟨y5, p2⟩ (by rw [m1]; omega) (by rw [m2]; omega) (by rw [m1, m2]; omega) fun h1 tk c9 => ⟨rfl, ?_⟩
    refine I.turnedL (ch := [z, TI, TO, i1, i2]) (fun c ob hb q => ?_) hf
    exact c9 c ob (fun r => hb (by rw [r]; simp)) (fun r => hb (by rw [r]; simp)) (fun r => hb (by rw [r]; simp)) (fun r => hb (by rw [r]; simp)) q
  self A i s Q E y h := wpAny_pyIter_zip y.1 h
section
variable {X : Cx}
def iZpB (K : PySem.W.Frag) (ta : TA) : TI := fun σ H R => ta σ H fun vs H1 => ∃ (t t2 : Bool) (a b : Addr) (xs ys : List V), vs = [.ref a, .ref b] ∧ SqB t K H1 a xs ∧ SqB t2 K H1 b ys ∧ R (ItP t t2 K a b) H1
theorem piP {e e2 : Expr} {ta : TA} {p pos tpos : Pos} {elts : List Expr} {kk : Nat} (hg : Gl X "zip") (hm : X.mg "zip" = none) (ha : PA X [e, e2] ta)
    (hs : starEach [e, e2] X.env = (false, eval e X.env) :: starEach [e2] X.env := by rfl) (hpl : (backTo pos (starEach [e2] X.env)).any (·.1) = false := by rfl) :
    PI X (.Tuple elts kk tpos) (.Call (.Name "zip" p) [e, e2] [] pos) (iZpB X.K ta) := by
  constructor
  intro pins s σ H R I h
  refine Call_ (ld_blt I hg hm PyProof.Rows.boot_zip (PyProof.Rows.callWith_type1 (thn (ha.run pos pins s σ H _ I h) ?_) hs hpl))
  rintro us s1 ⟨_, H1, I1, r1, t, t2, a, b, xs, ys, rfl, g1, g2, q⟩
  obtain ⟨u, u2, rfl, ru, ru2⟩ : ∃ u u2, us = [u, u2] ∧ RelV (.ref a) u ∧ RelV (.ref b) u2 := by
    cases r1 with
    | cons r rr =>
      cases rr with
      | cons r' rr => cases rr; exact ⟨_, _, rfl, r, r'⟩
  obtain rfl : u = Value.ref a := ru
  obtain rfl : u2 = Value.ref b := ru2
  obtain ⟨its, rv, p1⟩ := src_of I1 g1
  obtain ⟨its2, rv2, p2⟩ := src_of I1 g2
  have la := src_lt p1
  have lb := src_lt p2
  have S : ZipSep2 (s1.heap.objs.size + 4) (s1.heap.objs.size + 2) (s1.heap.objs.size + 3) s1.heap.objs.size (s1.heap.objs.size + 1) [s1.heap.objs.size, a] [s1.heap.objs.size + 1, b] :=
    zip_sep2 (fun c hc => by rw [List.mem_singleton.mp hc]; exact la) fun c hc => by rw [List.mem_singleton.mp hc]; exact lb
  refine zip_begins2 (src_begins t a its.toArray) (src_begins t2 b its2.toArray) p1 p2 fun h' c1 c2 c3 c4 c5 c6 c7 => wpAny_pyIter_zip c1 ?_
  refine ⟨s1.heap.objs.size + 4, [s1.heap.objs.size + 4, s1.heap.objs.size + 2, s1.heap.objs.size + 3, s1.heap.objs.size, s1.heap.objs.size + 1], _, _, H1, rfl, I1.kept (t' := s1.toks) c7, turnP t t2 a b _ _ _ _ _ S,
    ⟨c1, c2, ⟨_, _, c3⟩, src_it0 c4, src_it0 c5, Nat.ne_of_lt la, Nat.ne_of_lt (Nat.lt_succ_of_lt lb)⟩, fun c hb => ?_, q⟩
  have hle : s1.heap.objs.size ≤ c := by
    rcases five_fp hb with r | r | r | r | r
    all_goals
      rw [r]
      first | exact Nat.le_refl _ | exact Nat.le_add_right _ _
  exact I1.fpOk hle (I1.hok.fresh hle)
end
end Zv
namespace Zv
open PySem PySem.Spec L2 RT
/-! ## what can be walked, as a source -/
def D.walk (st : Store) : D → Option Its
  | .lst ds => some (ds, [])
  | .tup ds => some (ds, [])
  | .scr ns => some (ns.map .int, [])
  | .ref n => match st[n]? with
    | some (.lst ds) => some (ds, [(n, ds)])
    | _ => none
  | _ => none
theorem held_app {st : Store} : ∀ {l l' : List (Nat × List D)}, Held (l ++ l') st → Held l st ∧ Held l' st
  | [], _, h => ⟨trivial, h⟩
  | _ :: l, _, h => ⟨⟨h.1, (held_app h.2).1⟩, (held_app h.2).2⟩
structure Src (K : PySem.W.Frag) (cl : Str → Option Addr) (μ : Mp) (H : Hp) (v : V) (p : Its) (t : Bool) (a : Addr) (vs : List V) : Prop where
  is : v = .ref a
  sq : SqB t K H a vs
  rs : Reps K H μ p.1 vs
  on : ∀ μ' H' st', StepA μ μ' H H' → StOk K cl H' μ' st' → Held p.2 st' → ∃ vs', SqB t K H' a vs' ∧ Reps K H' μ' p.1 vs'
theorem walk_src {K : PySem.W.Frag} {cl : Str → Option Addr} {μ : Mp} {H : Hp} {st : Store} {d : D} {v : V} {p : Its} (ok : StOk K cl H μ st) (r : Rep K H μ d v) (e : d.walk st = some p) : ∃ t a vs, Src K cl μ H v p t a vs := by
  cases d with
  | lst ds =>
    cases e
    cases r with
    | lst h1 h2 => exact ⟨false, _, _, rfl, h1.sq, h2, fun μ' H' st' q _ _ => ⟨_, (q.lst h1).sq, q.reps _ _ h2⟩⟩
  | tup ds =>
    cases e
    cases r with
    | tup h1 h2 => exact ⟨true, _, _, rfl, h1.sq, h2, fun μ' H' st' q _ _ => ⟨_, (q.tup h1).sq, q.reps _ _ h2⟩⟩
  | scr ns =>
    cases e
    cases r with
    | scr h1 => exact ⟨false, _, _, rfl, h1.sq, reps_ints ns, fun μ' H' st' q _ _ => ⟨_, (q.scr h1).sq, reps_ints ns⟩⟩
  | ref n =>
    unfold D.walk at e
    simp only at e
    split at e
    · rename_i ds e0
      cases e
      obtain ⟨a, vs, rfl, e1, e2, r2⟩ := cellAt ok r e0
      refine ⟨false, a, vs, rfl, .inl (.inl e2), r2, fun μ' H' st' q ok' hh => ?_⟩
      obtain ⟨b, z0, vs', z1, z2⟩ := ok'.cell n _ hh.1
      rw [q.get e1] at z0
      cases z0
      exact ⟨vs', .inl (.inl z1), z2⟩
    · cases e
  | _ => cases e

/-! ## enumerate, zip, reversed -/
def enumD : Nat → List D → List D
  | _, [] => []
  | k, d :: ds => .tup [.int (k : Int), d] :: enumD (k + 1) ds
theorem enumD_get : ∀ {ds : List D} {k i : Nat} {d : D}, (enumD k ds)[i]? = some d → ∃ x, ds[i]? = some x ∧ d = .tup [.int ((k + i : Nat) : Int), x]
  | [], _, _, _, e => by simp [enumD] at e
  | x :: ds, k, 0, d, e => ⟨x, rfl, by simp [enumD] at e; exact e.symm⟩
  | _ :: ds, k, i + 1, d, e => by
    obtain ⟨x, e1, e2⟩ := enumD_get (ds := ds) (k := k + 1) (i := i) (d := d) (by simpa [enumD] using e)
    exact ⟨x, by simpa using e1, by rw [e2, show k + 1 + i = k + (i + 1) by omega]⟩
theorem enumD_len : ∀ (ds : List D) (k : Nat), (enumD k ds).length = ds.length
  | [], _ => rfl
  | _ :: ds, k => by rw [enumD, List.length_cons, List.length_cons, enumD_len ds]
def zipD : List D → List D → List D
  | x :: xs, y :: ys => .tup [x, y] :: zipD xs ys
  | _, _ => []
theorem zipD_get : ∀ {xs ys : List D} {i : Nat} {d : D}, (zipD xs ys)[i]? = some d → ∃ x y, xs[i]? = some x ∧ ys[i]? = some y ∧ d = .tup [x, y]
  | [], _, _, _, e => by simp [zipD] at e
  | _ :: _, [], _, _, e => by simp [zipD] at e
  | x :: xs, y :: ys, 0, d, e => ⟨x, y, rfl, rfl, by simp [zipD] at e; exact e.symm⟩
  | _ :: xs, _ :: ys, i + 1, d, e => by
    obtain ⟨x, y, e1, e2, e3⟩ := zipD_get (xs := xs) (ys := ys) (i := i) (d := d) (by simpa [zipD] using e)
    exact ⟨x, y, by simpa using e1, by simpa using e2, e3⟩
theorem zipD_len : ∀ (xs ys : List D), (zipD xs ys).length = min xs.length ys.length
  | [], _ => by simp [zipD]
  | _ :: _, [] => by simp [zipD]
  | _ :: xs, _ :: ys => by rw [zipD, List.length_cons, List.length_cons, List.length_cons, zipD_len xs ys]; omega
section
variable {K : PySem.W.Frag} {cl : Str → Option Addr} {μ : Mp} {H : Hp}
theorem goes_enum {v : V} {p : Its} {t : Bool} {a : Addr} {vs : List V} (S : Src K cl μ H v p t a vs) : Goes K cl μ H (ItE t K a) (enumD 0 p.1) (Held p.2) where
  go μ' H' st i d q ok hp e := by
    obtain ⟨x, e1, rfl⟩ := enumD_get e
    obtain ⟨ws, s1, r1⟩ := S.on μ' H' st q ok hp
    obtain ⟨w, e2, r2⟩ := r1.get e1
    refine ⟨⟨ws, w, s1, e2⟩, fun y H2 ⟨T, x', z1, z2, z3, z4⟩ => ?_⟩
    have e3 := z4 ws s1
    rw [e2] at e3
    cases e3
    subst z1 z3
    rw [Nat.zero_add]
    exact zmadeT ok (.cons (.int _) (.cons r2 .nil)) z2
  stop μ' H' st q ok hp := by
    obtain ⟨ws, s1, r1⟩ := S.on μ' H' st q ok hp
    exact ⟨ws, s1, by rw [enumD_len, r1.length]⟩
theorem goes_zip {v v2 : V} {p p2 : Its} {t t2 : Bool} {a b : Addr} {vs vs2 : List V} (S : Src K cl μ H v p t a vs) (S2 : Src K cl μ H v2 p2 t2 b vs2) : Goes K cl μ H (ItP t t2 K a b) (zipD p.1 p2.1) (Held (p.2 ++ p2.2)) where
  go μ' H' st i d q ok hp e := by
    obtain ⟨x, y, e1, e1', rfl⟩ := zipD_get e
    obtain ⟨ws, s1, r1⟩ := S.on μ' H' st q ok (held_app hp).1
    obtain ⟨ws', s1', r1'⟩ := S2.on μ' H' st q ok (held_app hp).2
    obtain ⟨w, e2, r2⟩ := r1.get e1
    obtain ⟨w', e2', r2'⟩ := r1'.get e1'
    refine ⟨⟨ws, ws', w, w', s1, s1', e2, e2'⟩, fun u H2 ⟨T, x', y', z1, z2, z3, z4, z5⟩ => ?_⟩
    have e3 := z4 ws s1
    have e3' := z5 ws' s1'
    rw [e2] at e3
    rw [e2'] at e3'
    cases e3
    cases e3'
    subst z1 z3
    exact zmadeT ok (.cons r2 (.cons r2' .nil)) z2
  stop μ' H' st q ok hp := by
    obtain ⟨ws, s1, r1⟩ := S.on μ' H' st q ok (held_app hp).1
    obtain ⟨ws', s1', r1'⟩ := S2.on μ' H' st q ok (held_app hp).2
    exact ⟨ws, ws', s1, s1', by rw [zipD_len, r1.length, r1'.length]⟩
def ItR (t : Bool) (K : PySem.W.Frag) (a : Addr) (n : Nat) : It := cond t (ItvT K a n) (Itv K a n)
theorem goes_rev {v : V} {p : Its} {t : Bool} {a : Addr} {vs : List V} (S : Src K cl μ H v p t a vs) : Goes K cl μ H (ItR t K a vs.length) p.1.reverse (Held p.2) := by
  have hl := S.rs.length
  cases t
  all_goals
    refine ⟨fun μ' H' st i d q ok hp e => ?_, fun μ' H' st q ok hp => ?_⟩
    · obtain ⟨ws, s1, r1⟩ := S.on μ' H' st q ok hp
      have hi : i < p.1.length := by have := (List.getElem?_eq_some_iff.mp e).1; rwa [List.length_reverse] at this
      rw [List.getElem?_reverse hi, hl] at e
      obtain ⟨w, e2, r2⟩ := r1.get e
      refine ⟨⟨by rw [← hl]; exact hi, ws, w, s1, e2⟩, fun y H2 ⟨z1, z2⟩ => ?_⟩
      have e3 := z2 ws s1
      rw [e2] at e3
      cases e3
      subst z1
      exact ⟨Step.refl _ _, ok, r2⟩
    · show vs.length ≤ p.1.reverse.length
      rw [List.length_reverse, hl]
      exact Nat.le_refl _
end
def kEnum (ds : List D) (st : Store) : R Its := match ds with
  | [d] => (R.ofO (d.walk st) st).bind fun p st1 => .ok (enumD 0 p.1, p.2) st1
  | _ => .no
def mEnum (mr : AM) (es : Sl) (st : Store) : R Its := (mr es st).bind kEnum
def kZip (ds : List D) (st : Store) : R Its := match ds with
  | [d, d2] => (R.ofO (d.walk st) st).bind fun p st1 => (R.ofO (d2.walk st1) st1).bind fun p2 st2 => .ok (zipD p.1 p2.1, p.2 ++ p2.2) st2
  | _ => .no
def mZip (mr : AM) (es : Sl) (st : Store) : R Its := (mr es st).bind kZip
def kRev (d : D) (st : Store) : R Its := (R.ofO (d.walk st) st).bind fun p st1 => .ok (p.1.reverse, p.2) st1
def mRev (ma : EM) (es : Sl) (st : Store) : R Its := (ma es st).bind kRev
section
variable {X : Cx} {k : Pk} {pos p tpos : Pos} {tg e a b : Expr} {ma : EM} {mr : AM} {elts : List Expr} {kk : Nat}
theorem zenum (hg : Gl X "enumerate") (hm : X.mg "enumerate" = none) (ha : PA X [a] (lA X.K k mr)) (hs : starEach [a] X.env = [(false, eval a X.env)] := by rfl) : PI X (.Tuple elts kk tpos) (.Call (.Name "enumerate" p) [a] [] pos) (lI X.K k (mEnum mr)) :=
  PI.imp (piE hg hm ha hs) fun σ H Rr ⟨μ, st, es, so, ok, h⟩ => ⟨μ, st, es, so, ok, Aft.mono (Aft.bind h) (fun ds st1 μ1 H1 p1 ok1 h1 vs rv => by
    unfold kEnum at h1
    split at h1
    · rename_i d
      cases rv with
      | cons r1 r2 =>
        cases r2
        cases hw : d.walk st1 with
        | none => rw [hw] at h1; exact h1.elim
        | some q =>
          rw [hw] at h1
          obtain ⟨t, a0, ws, S⟩ := walk_src ok1 r1 hw
          obtain ⟨rfl⟩ := S.is
          exact ⟨t, a0, ws, rfl, S.sq, h1 μ1 H1 (Step.refl _ _) ok1 _ (goes_enum S)⟩
    · exact h1.elim) fun _ _ _ z => z⟩
theorem zzip (hg : Gl X "zip") (hm : X.mg "zip" = none) (ha : PA X [a, b] (lA X.K k mr)) (hs : starEach [a, b] X.env = (false, eval a X.env) :: starEach [b] X.env := by rfl) (hpl : (backTo pos (starEach [b] X.env)).any (·.1) = false := by rfl) :
    PI X (.Tuple elts kk tpos) (.Call (.Name "zip" p) [a, b] [] pos) (lI X.K k (mZip mr)) :=
  PI.imp (piP hg hm ha hs hpl) fun σ H Rr ⟨μ, st, es, so, ok, h⟩ => ⟨μ, st, es, so, ok, Aft.mono (Aft.bind h) (fun ds st1 μ1 H1 p1 ok1 h1 vs rv => by
    unfold kZip at h1
    split at h1
    · rename_i d d2
      cases rv with
      | cons r1 r2 =>
        cases r2 with
        | cons r3 r4 =>
          cases r4
          cases hw : d.walk st1 with
          | none => rw [hw] at h1; exact h1.elim
          | some q =>
            cases hw2 : d2.walk st1 with
            | none => rw [hw] at h1; simp only [R.ofO_some, R.bind_ok, hw2] at h1; exact h1.elim
            | some q2 =>
              rw [hw] at h1
              simp only [R.ofO_some, R.bind_ok, hw2] at h1
              obtain ⟨t, a0, ws, S⟩ := walk_src ok1 r1 hw
              obtain ⟨t2, b0, ws2, S2⟩ := walk_src ok1 r3 hw2
              obtain ⟨rfl⟩ := S.is
              obtain ⟨rfl⟩ := S2.is
              exact ⟨t, t2, a0, b0, ws, ws2, rfl, S.sq, S2.sq, h1 μ1 H1 (Step.refl _ _) ok1 _ (goes_zip S S2)⟩
    · exact h1.elim) fun _ _ _ z => z⟩
theorem zrev (hg : Gl X "reversed") (hm : X.mg "reversed" = none) (ha : PE X a (lE X.K k ma)) (hs : starEach [a] X.env = (false, eval a X.env) :: starEach [] X.env := by rfl) : PI X tg (.Call (.Name "reversed" p) [a] [] pos) (lI X.K k (mRev ma)) :=
  PI.imp (pi_revA hg hm ha hs) fun σ H Rr ⟨μ, st, es, so, ok, h⟩ => ⟨μ, st, es, so, ok, Aft.mono (Aft.bind h) (fun d st1 μ1 H1 p1 ok1 h1 v rv => by
    unfold kRev at h1
    cases hw : d.walk st1 with
    | none => rw [hw] at h1; exact h1.elim
    | some q =>
      rw [hw] at h1
      obtain ⟨t, a0, ws, S⟩ := walk_src ok1 rv hw
      have g := goes_rev S
      have s0 := S.sq
      obtain ⟨rfl⟩ := S.is
      cases t
      · exact ⟨a0, ws, rfl, .inl ⟨s0, h1 μ1 H1 (Step.refl _ _) ok1 _ g⟩⟩
      · exact ⟨a0, ws, rfl, .inr ⟨s0, h1 μ1 H1 (Step.refl _ _) ok1 _ g⟩⟩) fun _ _ _ z => z⟩

/-! ## a starred item of a display -/
def kSt (mr : AM) (es : Sl) (d : D) (st : Store) : R (List D) := (R.ofO (d.walk st) st).bind fun p st1 => (mr es st1).bind fun ds st2 => .ok (p.1 ++ ds) st2
def aStar (ma : EM) (mr : AM) (es : Sl) (st : Store) : R (List D) := (ma es st).bind (kSt mr es)
theorem zastar {es : List Expr} (ha : PE X a (lE X.K k ma)) (hr : PA X es (lA X.K k mr)) (hs : starEach (.Starred a p :: es) X.env = (true, eval a X.env) :: starEach es X.env := by rfl) : PA X (.Starred a p :: es) (lA X.K k (aStar ma mr)) :=
  PA.imp (StX.pa_star ha hr hs) fun σ H Q ⟨μ, st, es, so, ok, h⟩ => ⟨μ, st, es, so, ok, Aft.mono (Aft.bind h) (fun d st1 μ1 H1 p1 ok1 h1 v rv => by
    unfold kSt at h1
    cases hw : d.walk st1 with
    | none => rw [hw] at h1; exact h1.elim
    | some q =>
      rw [hw] at h1
      simp only [R.ofO_some, R.bind_ok] at h1
      obtain ⟨t, a0, ws, S⟩ := walk_src ok1 rv hw
      have s0 := S.sq
      obtain ⟨rfl⟩ := S.is
      refine ⟨a0, ws, rfl, ?_, ⟨μ1, st1, es, so.step p1, ok1, Aft.mono (Aft.bind h1) (fun ds st2 μ2 H2 p2 ok2 h2 xs rxs => Aft.ret ok2 h2 _ ((p2.reps _ _ S.rs).append rxs)) fun _ _ _ z => z⟩⟩
      cases t
      · exact .inr s0
      · exact .inl s0) fun _ _ _ z => z⟩

/-! ## slices -/
abbrev OM := Sl → Store → R (Option Int)
def lO (K : PySem.W.Frag) (k : Pk) (m : OM) : TO := fun σ H Q => ∃ μ st es, SlOk K H μ es σ ∧ StOk K k.cl H μ st ∧ Aft K k.cl μ H (m es st) (fun o _ _ H' => Q o H') fun c od H' => k.W c od σ H'
def pNone (es : Sl) (st : Store) : R (Option Int) := .ok none st
def kPart (d : D) (st : Store) : R (Option Int) := match d with
  | .int i => .ok (some i) st
  | _ => .no
def pSome (ma : EM) (es : Sl) (st : Store) : R (Option Int) := (ma es st).bind kPart
theorem PO.imp {e : Option Expr} {t t' : TO} (h : PO X e t) (i : ∀ σ H Q, t' σ H Q → t σ H Q) : PO X e t' := ⟨fun pins s σ H Q I w => h.run pins s σ H Q I (i σ H Q w)⟩
theorem zpnone : PO X none (lO X.K k pNone) := PO.imp po_none fun σ H Q ⟨μ, st, es, so, ok, h⟩ => Aft.ret ok h
theorem zpsome (ha : PE X a (lE X.K k ma)) : PO X (some a) (lO X.K k (pSome ma)) :=
  PO.imp (po_some ha) fun σ H Q ⟨μ, st, es, so, ok, h⟩ => ⟨μ, st, es, so, ok, Aft.mono (Aft.bind h) (fun d st1 μ1 H1 p1 ok1 h1 v rv => by
    unfold kPart at h1
    split at h1
    · cases rv
      exact ⟨_, rfl, Aft.ret ok1 h1⟩
    · exact h1.elim) fun _ _ _ z => z⟩
def cutD (xs : List D) (lo hi : Option Int) : List D := (xs.drop (HT.sIx xs.length 0 lo)).take (HT.sIx xs.length xs.length hi - HT.sIx xs.length 0 lo)
def kCut (d : D) (lo hi : Option Int) (st : Store) : R D := match d with
  | .tup xs => .ok (.tup (cutD xs lo hi)) st
  | d => match d.items st with
    | some xs => .ok (.lst (cutD xs lo hi)) st
    | none => .no
def kSl3 (mh : OM) (es : Sl) (d : D) (lo : Option Int) (st : Store) : R D := (mh es st).bind fun hi st3 => kCut d lo hi st3
def kSl2 (ml mh : OM) (es : Sl) (d : D) (st : Store) : R D := (ml es st).bind fun lo st2 => kSl3 mh es d lo st2
def mSl (ma : EM) (ml mh : OM) (es : Sl) (st : Store) : R D := (ma es st).bind (kSl2 ml mh es)
theorem reps_cut {K : PySem.W.Frag} {H : Hp} {μ : Mp} {xs : List D} {vs : List V} (r : Reps K H μ xs vs) (lo hi : Option Int) : Reps K H μ (cutD xs lo hi) (cutV vs lo hi) := by
  unfold cutD cutV
  rw [r.length]
  exact (r.drop _).take _
theorem cut_whole {K : PySem.W.Frag} {H : Hp} {μ : Mp} {xs : List D} {vs : List V} (r : Reps K H μ xs vs) {lo hi : Option Int} (h : HT.sIx vs.length 0 lo = 0 ∧ HT.sIx vs.length vs.length hi = vs.length) : cutD xs lo hi = xs := by
  unfold cutD
  rw [r.length, h.1, h.2, ← r.length, Nat.sub_zero, List.drop_zero, List.take_length]
theorem zslice {lo hi : Option Expr} {ml mh : OM} {p2 : Pos} (ha : PE X a (lE X.K k ma)) (hl : PO X lo (lO X.K k ml)) (hh : PO X hi (lO X.K k mh)) : PE X (.Subscript a (.Slice lo hi none p2) pos) (lE X.K k (mSl ma ml mh)) :=
  PE.imp (pe_slice (SlR.or sl_tupA sl_list) ha hl hh) fun σ H Q ⟨μ, st, es, so, ok, h⟩ => ⟨μ, st, es, so, ok, Aft.mono (Aft.bind h) (fun d st1 μ1 H1 p1 ok1 h1 v rv =>
    ⟨μ1, st1, es, so.step p1, ok1, Aft.mono (Aft.bind h1) (fun l st2 μ2 H2 p2 ok2 h2 =>
      ⟨μ2, st2, es, (so.step p1).step p2, ok2, Aft.mono (Aft.bind h2) (fun u st3 μ3 H3 p3 ok3 h3 => by
        have rv3 := p3.rep _ _ (p2.rep _ _ rv)
        unfold kCut at h3
        split at h3
        · rename_i xs
          cases rv3 with
          | tup z1 z2 =>
            refine .inl ⟨_, _, rfl, z1.sq, fun hw => ?_, fun _ q hq => ?_⟩
            · rw [cut_whole z2 hw] at h3
              exact h3 μ3 H3 (Step.refl _ _) ok3 _ (.tup z1 z2)
            · obtain ⟨y1, y2, y3⟩ := zmadeT ok3 (reps_cut z2 l u) hq
              exact h3 _ _ y1 y2 _ y3
        · split at h3
          · rename_i xs ex
            obtain ⟨b0, ws, rfl, eb, rb⟩ := items_at ok3 rv3 ex
            refine .inr ⟨_, _, rfl, .inl (.inl eb), fun q hq => ?_⟩
            obtain ⟨y1, y2, y3⟩ := zmadeL ok3 (reps_cut rb l u) hq
            exact h3 _ _ y1 y2 _ y3
          · exact h3.elim) fun _ _ _ z => z⟩) fun _ _ _ z => z⟩) fun _ _ _ z => z⟩
end
end Zv
namespace Zv
open PySem PySem.Spec PyProof.Rows L2
set_option maxHeartbeats 1000000 in
/-- a tuple once is the tuple itself -/
theorem meets_once (l : Addr) (its : Array Value) (n : Nat) (dd : Option Addr) (sl : Array (Option Value)) (u : Tok) :
    Meets (Builtin.«tuple.__mul__» ⟨[.ref l, .int 1 u], []⟩) fun _ R s => s.heap.get? l = some { cls := .type "tuple", dict := dd, data := .seq its n, slots := sl } ∧ R (.ok (.ret (.ref l))) s := by
  refine .of_wp fun prog w A R s h => ?_
  obtain ⟨hp, g, d, tk, os⟩ := s
  obtain ⟨hl, h⟩ := h
  have ix := AutoSeq1.idx_int
  wp_walk using wpAny_loadPart' hl
  exact ⟨_, rfl, h⟩
set_option maxHeartbeats 4000000 in
theorem tuple_mul0 (l : Addr) (items : Array Value) (n : Nat) (dd : Option Addr) (sl : Array (Option Value)) (x : Int) (u : Tok) (c0 : (decide (x < -(2 ^ 63)) || decide (x ≥ 2 ^ 63)) = false) (c1 : (items.isEmpty || x == 1) = false) (c2 : (decide (x ≤ 0) || items.isEmpty) = true) :
    Meets (Builtin.«tuple.__mul__» ⟨[.ref l, .int x u], []⟩) (fun _ R s => s.heap.get? l = some { cls := .type "tuple", dict := dd, data := .seq items n, slots := sl } ∧
      R (.ok (.ret (Value.ref s.heap.objs.size))) { s with heap := s.heap.push { cls := Value.type "tuple", data := Data.seq #[] }, toks := s.toks }) :=
  .of_wp fun prog w A R s h => by
    obtain ⟨hp, g, d, tk, os⟩ := s
    obtain ⟨hl, h⟩ := h
    have f1 := AutoSeq1.idx_int
    wp_walk using wpAny_loadPart' hl
    repeat (first
      | (refine wpAny_ite_false (decide_eq_false (by rw [c0]; exact Bool.false_ne_true)) ?_; wp_walk using wpAny_loadPart' hl)
      | (refine wpAny_ite_false (decide_eq_false (by rw [c1]; exact Bool.false_ne_true)) ?_; wp_walk using wpAny_loadPart' hl)
      | (refine wpAny_ite_true (decide_eq_true (by rw [c2])) ?_; wp_walk using wpAny_loadPart' hl))
    exact ⟨_, rfl, h⟩
def rNone (K : PySem.W.Frag) : R2 := fun x y H Q => ∃ l k xs, x = .ref l ∧ y = .int k ∧ SqT K H l xs ∧ xs ≠ [] ∧ -1000 ≤ k ∧ k ≤ 0 ∧ ∀ p, H p = none → Q (.ref p) (upd H p (.tup []))
def rOnce (K : PySem.W.Frag) : R2 := fun x y H Q => ∃ l xs, x = .ref l ∧ y = .int 1 ∧ SqT K H l xs ∧ Q (.ref l) H
section
variable {Y : Cx} {cl : Str → Option Addr}
theorem op_once : OpR Y (binaryOp .Mult) (rOnce Y.K) := by
  rintro pins s σ H x y v u Q I rx ry ⟨l, xs, rfl, rfl, hT, q⟩
  obtain rfl : v = Value.ref l := rx
  obtain ⟨t, rfl⟩ := ry
  obtain ⟨its, r, ⟨⟨cls, dd, data, sl⟩, ho, hc, n, hd⟩, _⟩ := I.tuple hT
  simp only at hc hd
  subst hc hd
  have z1 : s.TypeIs (.ref l) "tuple" := ⟨_, ho, rfl⟩
  have z2 : s.TypeIs (.int 1 t) "int" := typeIs_int s 1 t
  refine wpAny_binaryOp_repeat_ref (T := "tuple") (U := "int") (by decide) z1 (fun s' => typeIs_int s' 1 t) noFill_tuple_mul F.fills_int_mul F.slot_int_rmul repeat_tuple F.slot_int_index.lookup ?_
  refine call_meets F.slot_int_rmul z2 F.entry_int_rmul (F.args_int_rmul_2 _ _) (int_rmul_tuple 1 t l its.toArray n dd sl) ⟨ho, rfl, z1, ?_⟩
  exact call_meets F.slot_tuple_mul z1 F.entry_tuple_mul (F.args_tuple_mul_2 _ _) (meets_once l its.toArray n dd sl t) ⟨ho, .ref l, H, I, rfl, q⟩
theorem op_rep0 : OpR Y (binaryOp .Mult) (rNone Y.K) := by
  rintro pins s σ H x y v u Q I rx ry ⟨l, k, xs, rfl, rfl, hT, hne, h1, h2, q⟩
  obtain rfl : v = Value.ref l := rx
  obtain ⟨t, rfl⟩ := ry
  obtain ⟨its, r, ⟨⟨cls, dd, data, sl⟩, ho, hc, n, hd⟩, hs⟩ := I.tuple hT
  simp only at hc hd
  subst hc hd
  have hn : its ≠ [] := fun e => hne (by
    have hle : its.length = xs.length := r.length.symm
    rw [e] at hle
    exact List.eq_nil_of_length_eq_zero hle.symm)
  have hi : its.toArray.isEmpty = false := by
    cases its with
    | nil => exact absurd rfl hn
    | cons a b => rfl
  have c0 : (decide (k < -(2 ^ 63)) || decide (k ≥ 2 ^ 63)) = false := by
    rw [decide_eq_false (by omega), decide_eq_false (by omega)] <;> rfl
  have c1 : (its.toArray.isEmpty || k == 1) = false := by
    rw [hi, Bool.false_or]
    exact beq_eq_false_iff_ne.mpr (by omega)
  have c2 : (decide (k ≤ 0) || its.toArray.isEmpty) = true := by
    rw [decide_eq_true h2]; rfl
  refine wpAny_binaryOp_repeat_ref (T := "tuple") (U := "int") (by decide) ⟨_, ho, rfl⟩ (fun s' => typeIs_int s' k t) noFill_tuple_mul F.fills_int_mul F.slot_int_rmul repeat_tuple F.slot_int_index.lookup
    (call_meets F.slot_int_rmul (typeIs_int s k t) F.entry_int_rmul (F.args_int_rmul_2 _ _) (int_rmul_tuple k t l its.toArray n dd sl)
      ⟨ho, rfl, ⟨_, ho, rfl⟩, call_meets F.slot_tuple_mul ⟨_, ho, rfl⟩ F.entry_tuple_mul (F.args_tuple_mul_2 _ _) (tuple_mul0 l its.toArray n dd sl k t c0 c1 c2) ⟨ho, ?_⟩⟩)
  refine ⟨.ref s.heap.objs.size, _, I.laid (t' := s.toks) (o := .tup []) (fun b ob q => Heap.get?_push_of_some _ q) (Nat.le_refl _) ?_, rfl, q _ (I.hok.fresh (Nat.le_refl _))⟩
  exact ⟨Nat.zero_le _, _, .nil, IsTup.new _ _⟩
def dRep : F2
  | _, .tup xs, .int k => if k = 1 then some (.tup xs) else if xs ≠ [] ∧ 2 ≤ k ∧ k ≤ 1000 ∧ xs.length ≤ 1000 then some (.tup (List.replicate k.toNat xs).flatten) else if xs ≠ [] ∧ -1000 ≤ k ∧ k ≤ 0 then some (.tup []) else none
  | st, x, .int k => match x.items st with
    | some xs => if -(2 ^ 63) ≤ k ∧ k < 2 ^ 63 ∧ xs.length * k.toNat ≤ sizeLine then some (.lst (List.replicate k.toNat xs).flatten) else none
    | none => none
  | _, _, _ => none
theorem reps_rep {K : PySem.W.Frag} {H : Hp} {μ : Mp} {xs : List D} {vs : List V} (r : Reps K H μ xs vs) : ∀ n : Nat, Reps K H μ (List.replicate n xs).flatten (List.replicate n vs).flatten
  | 0 => .nil
  | n + 1 => by
    rw [List.replicate_succ, List.replicate_succ, List.flatten_cons, List.flatten_cons]
    exact r.append (reps_rep r n)
theorem zo_rep : OpR Y (binaryOp .Mult) (rZ Y.K cl dRep) := OpR.imp (op_rep0.or (op_once.or (op_repT.or op_rep))) fun x y H Q h => by
  obtain ⟨μ, st, dx, dy, d, rx, ry, ok, e, q⟩ := h
  unfold dRep at e
  split at e
  · rename_i xs k
    cases ry
    cases rx with
    | tup z1 z2 =>
      split at e
      · rename_i hk
        subst hk
        cases e
        exact .inr (.inl ⟨_, _, rfl, rfl, z1.sq, q _ H (Step.refl _ _) ok (.tup z1 z2)⟩)
      · split at e
        · rename_i hc
          cases e
          refine .inr (.inr (.inl ⟨_, _, _, rfl, rfl, z1.sq, fun z => hc.1 ?_, hc.2.1, hc.2.2.1, by rw [← z2.length]; exact hc.2.2.2, fun p hp => ?_⟩))
          · subst z; cases z2; rfl
          · obtain ⟨a, b, c⟩ := zmadeT ok (reps_rep z2 k.toNat) hp
            exact q _ _ a b c
        · split at e
          · rename_i hc
            cases e
            refine .inl ⟨_, _, _, rfl, rfl, z1.sq, fun z => hc.1 ?_, hc.2.1, hc.2.2, fun p hp => ?_⟩
            · subst z; cases z2; rfl
            · obtain ⟨a, b, c⟩ := zmadeT ok .nil hp
              exact q _ _ a b c
          · cases e
  · rename_i k _
    cases ry
    split at e
    · rename_i xs ex
      split at e
      · rename_i hc
        cases e
        obtain ⟨a, vs, rfl, ea, ra⟩ := items_at ok rx ex
        refine .inr (.inr (.inr ⟨_, _, _, rfl, rfl, ea, hc.1, hc.2.1, by rw [← ra.length]; exact hc.2.2, fun p hp => ?_⟩))
        obtain ⟨a, b, c⟩ := zmadeL ok (reps_rep ra k.toNat) hp
        exact q _ _ a b c
      · cases e
    · cases e
  · cases e
end
end Zv
namespace Zv
open PySem
section
variable {ma : EM} {mr : AM} {ml mh : OM} {es : Sl} {st : Store} {d d2 : D} {xs ys ds : List D} {ns : List Int} {n : Nat} {lo hi : Option Int} {i k : Int} {h : List (Nat × List D)}
/-! ## the new mirrors as equations -/
theorem q_v14 {e0 e1 e2 e3 e4 e5 e6 e7 e8 e9 e10 e11 e12 e13 : Option D} {r : Sl} : mVar 14 (e0 :: e1 :: e2 :: e3 :: e4 :: e5 :: e6 :: e7 :: e8 :: e9 :: e10 :: e11 :: e12 :: e13 :: some d :: r) st = .ok d st := q_mVar rfl
theorem q_v15 {e0 e1 e2 e3 e4 e5 e6 e7 e8 e9 e10 e11 e12 e13 e14 : Option D} {r : Sl} : mVar 15 (e0 :: e1 :: e2 :: e3 :: e4 :: e5 :: e6 :: e7 :: e8 :: e9 :: e10 :: e11 :: e12 :: e13 :: e14 :: some d :: r) st = .ok d st := q_mVar rfl
theorem q_v16 {e0 e1 e2 e3 e4 e5 e6 e7 e8 e9 e10 e11 e12 e13 e14 e15 : Option D} {r : Sl} : mVar 16 (e0 :: e1 :: e2 :: e3 :: e4 :: e5 :: e6 :: e7 :: e8 :: e9 :: e10 :: e11 :: e12 :: e13 :: e14 :: e15 :: some d :: r) st = .ok d st := q_mVar rfl
theorem q_v17 {e0 e1 e2 e3 e4 e5 e6 e7 e8 e9 e10 e11 e12 e13 e14 e15 e16 : Option D} {r : Sl} : mVar 17 (e0 :: e1 :: e2 :: e3 :: e4 :: e5 :: e6 :: e7 :: e8 :: e9 :: e10 :: e11 :: e12 :: e13 :: e14 :: e15 :: e16 :: some d :: r) st = .ok d st := q_mVar rfl
theorem q_wkL : (D.lst xs).walk st = some (xs, []) := rfl
theorem q_wkT : (D.tup xs).walk st = some (xs, []) := rfl
theorem q_wkS : (D.scr ns).walk st = some (ns.map .int, []) := rfl
theorem q_wkR (e : st[n]? = some (.lst xs)) : (D.ref n).walk st = some (xs, [(n, xs)]) := by unfold D.walk; simp only [e]
theorem q_mEnum : mEnum mr es st = (mr es st).bind kEnum := by unfold mEnum; rfl
theorem q_kEnum : kEnum [d] st = (R.ofO (d.walk st) st).bind fun p st1 => .ok (enumD 0 p.1, p.2) st1 := by rw [kEnum]
theorem q_mZip : mZip mr es st = (mr es st).bind kZip := by unfold mZip; rfl
theorem q_kZip : kZip [d, d2] st = (R.ofO (d.walk st) st).bind fun p st1 => (R.ofO (d2.walk st1) st1).bind fun p2 st2 => .ok (zipD p.1 p2.1, p.2 ++ p2.2) st2 := by rw [kZip]
theorem q_mRev : mRev ma es st = (ma es st).bind kRev := by unfold mRev; rfl
theorem q_kRev : kRev d st = (R.ofO (d.walk st) st).bind fun p st1 => .ok (p.1.reverse, p.2) st1 := by unfold kRev; rfl
theorem q_aStar : aStar ma mr es st = (ma es st).bind (kSt mr es) := by unfold aStar; rfl
theorem q_kSt : kSt mr es d st = (R.ofO (d.walk st) st).bind fun p st1 => (mr es st1).bind fun ds st2 => .ok (p.1 ++ ds) st2 := by unfold kSt; rfl
theorem q_pNone : pNone es st = .ok none st := by rw [pNone]
theorem q_pSome : pSome ma es st = (ma es st).bind kPart := by unfold pSome; rfl
theorem q_kPart : kPart (.int i) st = .ok (some i) st := by rw [kPart]
theorem q_mSl : mSl ma ml mh es st = (ma es st).bind (kSl2 ml mh es) := by unfold mSl; rfl
theorem q_kSl2 : kSl2 ml mh es d st = (ml es st).bind (kSl3 mh es d) := by unfold kSl2; rfl
theorem q_kSl3 : kSl3 mh es d lo st = (mh es st).bind (kCut d lo) := by unfold kSl3; rfl
theorem q_kCutT : kCut (.tup xs) lo hi st = .ok (.tup (cutD xs lo hi)) st := by unfold kCut; rfl
theorem q_kCutL : kCut (.lst xs) lo hi st = .ok (.lst (cutD xs lo hi)) st := by unfold kCut; simp only [D.items]
theorem q_kCutR (e : st[n]? = some (.lst xs)) : kCut (.ref n) lo hi st = .ok (.lst (cutD xs lo hi)) st := by unfold kCut; simp only [D.items, e]
theorem q_repT (hx : xs ≠ []) (h0 : -1000 ≤ k) (h1 : k ≤ 1000) (h2 : xs.length ≤ 1000) : dRep st (.tup xs) (.int k) = some (.tup (List.replicate k.toNat xs).flatten) := by
  rw [dRep]
  split
  · rename_i e
    subst e
    simp
  · by_cases c : 2 ≤ k
    · rw [if_pos ⟨hx, by omega, h1, h2⟩]
    · rw [if_neg (fun z => c z.2.1), if_pos ⟨hx, h0, by omega⟩]
      have : k.toNat = 0 := by omega
      rw [this]; rfl
theorem q_repL (h0 : -(2 ^ 63) ≤ k) (h1 : k < 2 ^ 63) (h2 : xs.length * k.toNat ≤ sizeLine) : dRep st (.lst xs) (.int k) = some (.lst (List.replicate k.toNat xs).flatten) := by
  rw [dRep]
  · simp only [D.items, h0, h1, h2, and_self, if_true]
  · intro _ e; cases e
end
end Zv
namespace Zv
open PySem PySem.Spec L2
/-! ## lists and tuples of ints: compared, shown, searched -/
theorem pys_ints : ∀ ns : List Int, D.pys (ns.map .int) = some (ns.map PyData.int)
  | [] => rfl
  | n :: ns => by
    rw [List.map_cons, List.map_cons, D.pys, D.py, pys_ints ns]
    rfl
theorem lay_ints : ∀ ns : List Int, PyData.canLayAll0 (ns.map .int) = true
  | [] => rfl
  | n :: ns => by rw [List.map_cons, PyData.canLayAll0, lay_ints ns]; rfl
theorem depth_ints : ∀ ns : List Int, PyData.depthAll (ns.map .int) = 0
  | [] => rfl
  | n :: ns => by rw [List.map_cons, PyData.depthAll, depth_ints ns]; rfl
theorem shaped_li (ns : List Int) : SeqAt.shaped (.list (ns.map .int)) = true := by
  unfold SeqAt.shaped
  rw [PyData.canLay0, lay_ints, PyData.depth, depth_ints]
  rfl
theorem shaped_tu (ns : List Int) : SeqAt.shaped (.tuple (ns.map .int)) = true := by
  unfold SeqAt.shaped
  rw [PyData.canLay0, lay_ints, PyData.depth, depth_ints]
  rfl
section
variable {st : Store} {ns ms : List Int} {n : Nat} {xs ys : List D} {x : Int}
theorem eq_self {d d2 : D} {p : PyData} (e : d.pyS st = some p) (e2 : d2.pyS st = some p) (h : SeqAt.shaped p = true) : dEqP st d d2 = some true := by
  unfold dEqP
  rw [e, e2]
  simp only [Option.bind_some, h, and_self, if_true, Option.some.injEq]
  exact SeqAt.eqv_refl p (SeqAt.canLay_of_shaped h)
theorem py_tu : (D.tup (ns.map .int)).pyS st = some (.tuple (ns.map .int)) := by
  show (D.tup (ns.map .int)).py = _
  rw [D.py, pys_ints]
  rfl
theorem py_li : (D.lst (ns.map .int)).pyS st = some (.list (ns.map .int)) := by
  show (D.lst (ns.map .int)).py = _
  rw [D.py, pys_ints]
  rfl
theorem py_ce (h : st[n]? = some (.lst (ns.map .int))) : (D.ref n).pyS st = some (.list (ns.map .int)) := by
  unfold D.pyS
  simp only [h, pys_ints, Option.map_some]
theorem eq_tu (h : ns = ms) : dEq st (.tup (ns.map .int)) (.tup (ms.map .int)) = some (.bl true) := by
  subst h
  show (dEqP st _ _).map D.bl = _
  rw [eq_self py_tu py_tu (shaped_tu ns)]
  rfl
theorem ne_tu (h : ns = ms) : dNe st (.tup (ns.map .int)) (.tup (ms.map .int)) = some (.bl false) := by
  subst h
  show (dEqP st _ _).map _ = _
  rw [eq_self py_tu py_tu (shaped_tu ns)]
  rfl
theorem eq_li (h : ns = ms) : dEq st (.lst (ns.map .int)) (.lst (ms.map .int)) = some (.bl true) := by
  subst h
  show (dEqP st _ _).map D.bl = _
  rw [eq_self py_li py_li (shaped_li ns)]
  rfl
theorem ne_li (h : ns = ms) : dNe st (.lst (ns.map .int)) (.lst (ms.map .int)) = some (.bl false) := by
  subst h
  show (dEqP st _ _).map _ = _
  rw [eq_self py_li py_li (shaped_li ns)]
  rfl
theorem any_ints (x : Int) : ∀ ns : List Int, ((ns.map PyData.int).any fun z => PyData.eqv z (.int x)) = decide (x ∈ ns)
  | [] => by simp
  | n :: ns => by
    rw [List.map_cons, List.any_cons, any_ints x ns]
    have e : PyData.eqv (.int n) (.int x) = decide (x = n) := by
      by_cases h : x = n
      · subst h; rw [decide_eq_true rfl]; simp [PyData.eqv]
      · rw [decide_eq_false h]; simp [PyData.eqv]; exact fun z => h z.symm
    rw [e]
    simp [List.mem_cons]
theorem in_ce {neg : Bool} (h : st[n]? = some (.lst (ns.map .int))) : dIn neg st (.int x) (.ref n) = some (.bl (if neg then !decide (x ∈ ns) else decide (x ∈ ns))) := by
  have s1 : SeqAt.shaped (.int x) = true := rfl
  unfold dIn
  rw [py_ce h]
  simp only [D.py, Option.bind_some, s1, shaped_li, and_self, if_true, any_ints]
/-! ### shown -/
theorem showable_ints : ∀ ns : List Int, (∀ x ∈ ns, x.natAbs < 2 ^ 64) → PyData.showableAll (ns.map .int) = true
  | [], _ => rfl
  | n :: ns, h => by
    rw [List.map_cons, PyData.showableAll, showable_ints ns fun x hx => h x (List.mem_cons_of_mem _ hx), PyData.showable]
    have h1 := h n List.mem_cons_self
    have : n.natAbs.log2 < 1920 := by
      by_cases z : n.natAbs = 0
      · rw [z]; decide
      · have := (Nat.log2_lt z).mpr h1
        omega
    simp [this]
theorem short_ints : ∀ ns : List Int, (∀ x ∈ ns, x.natAbs < 2 ^ 64) → PyData.leavesShortAll 24 (ns.map .int) = true
  | [], _ => rfl
  | n :: ns, h => by
    rw [List.map_cons, PyData.leavesShortAll, short_ints ns fun x hx => h x (List.mem_cons_of_mem _ hx), PyData.leavesShort]
    have h1 := h n List.mem_cons_self
    have h2 : (toString n).length ≤ 20 + 1 := int_text_length_le10 (by decide) (Nat.lt_of_lt_of_le h1 (by decide))
    have h3 : (PyData.shown (.int n)).length = (toString n).length := by
      rw [PyData.shown]
      exact ofString_length _
    rw [h3]
    have h4 : decide ((toString n).length ≤ 24) = true := decide_eq_true (by omega)
    rw [h4]
    rfl
theorem weight_ints : ∀ ns : List Int, (∀ x ∈ ns, x.natAbs < 2 ^ 64) → PyData.weightAll (ns.map .int) ≤ 66 * ns.length
  | [], _ => Nat.le_refl _
  | n :: ns, h => by
    have ih := weight_ints ns fun x hx => h x (List.mem_cons_of_mem _ hx)
    have h1 := h n List.mem_cons_self
    rw [List.map_cons, PyData.weightAll, PyData.weight, List.length_cons]
    have : (if (n == 0) = true then 0 else n.natAbs.log2 + 1) ≤ 65 := by
      split
      · omega
      · by_cases z : n.natAbs = 0
        · rw [z]; decide
        · have := (Nat.log2_lt z).mpr h1
          omega
    omega
theorem repr_tu (hl : ns.length ≤ 1000) (h : ∀ x ∈ ns, x.natAbs < 2 ^ 64) : bRepr [.tup (ns.map .int)] st = some (.str (PyData.shown (.tuple (ns.map .int)))) := by
  have w := weight_ints ns h
  have s := PyData.shown_le 24 (by decide) (.tuple (ns.map .int)) (by rw [PyData.leavesShort]; exact short_ints ns h)
  rw [PyData.weight] at s
  have hs : sizeLine = 16777216 := rfl
  unfold bRepr
  simp only [py_tu, Option.bind_some]
  rw [if_pos]
  refine ⟨by rw [PyData.showable]; exact showable_ints ns h, PyData.hasDict_of_canLay _ (by rw [PyData.canLay0]; exact lay_ints ns), by rw [PyData.depth, depth_ints]; decide, ?_⟩
  omega
theorem ints_of : ∀ ns : List Int, (ns.map D.int).length = ns.length := fun ns => List.length_map ..
end
end Zv
/-! polynomials by their numbers, modulo p; without the machine -/
namespace Zn
/-- alike modulo p -/
def E (p a b : Int) : Prop := a % p = b % p
section
variable {p a b c d : Int}
theorem E.rfl' : E p a a := rfl
theorem E.symm (h : E p a b) : E p b a := Eq.symm h
theorem E.trans (h : E p a b) (k : E p b c) : E p a c := Eq.trans h k
theorem E.md : E p (a % p) a := Int.emod_emod_of_dvd a (Int.dvd_refl p)
theorem E.add (h : E p a b) (k : E p c d) : E p (a + c) (b + d) := by
  unfold E at *
  rw [Int.add_emod, h, k, ← Int.add_emod]
theorem E.mul (h : E p a b) (k : E p c d) : E p (a * c) (b * d) := by
  unfold E at *
  rw [Int.mul_emod, h, k, ← Int.mul_emod]
theorem E.of_eq (h : a = b) : E p a b := h ▸ rfl
theorem E.eq (h : E p a b) (h1 : 0 ≤ a) (h2 : a < p) (h3 : 0 ≤ b) (h4 : b < p) : a = b := by
  unfold E at h
  rwa [Int.emod_eq_of_lt h1 h2, Int.emod_eq_of_lt h3 h4] at h
end
/-- the value at x, not reduced -/
def ev (x : Int) : List Int → Int
  | [] => 0
  | c :: cs => ev x cs * x + c
def valP (p x : Int) : List Int → Int
  | [] => 0
  | c :: cs => (valP p x cs * x + c) % p
def addP (p : Int) (xs ys : List Int) : List Int := List.zipWith (fun a b => (a + b) % p) xs ys
def scaP (p c : Int) (xs : List Int) : List Int := xs.map fun x => c * x % p
def rootP (p : Int) (poly : List Int) (r : Int) : List Int := addP p (0 :: poly) (scaP p (-r) (poly ++ [0]))
def rootsP (p : Int) (poly roots : List Int) : List Int := roots.foldl (rootP p) poly
/-- the product of the differences -/
def dif (x : Int) : List Int → Int
  | [] => 1
  | r :: rs => (x - r) * dif x rs
def invP (p a : Int) : Int := a ^ (p - 2).toNat % p
def peakP (p : Int) (roots : List Int) (x : Int) : List Int := scaP p (invP p (valP p x (rootsP p [1] roots))) (rootsP p [1] roots)
section
variable {p : Int}
theorem valP_ev (hp : 0 < p) (x : Int) : ∀ cs : List Int, valP p x cs = ev x cs % p
  | [] => by simp [valP, ev]
  | c :: cs => by
    rw [valP, ev, valP_ev hp x cs]
    exact E.add (E.mul E.md E.rfl') E.rfl'
theorem valP_nn (hp : 0 < p) (x : Int) (cs : List Int) : 0 ≤ valP p x cs ∧ valP p x cs < p := by
  rw [valP_ev hp]
  exact ⟨Int.emod_nonneg _ (by omega), Int.emod_lt_of_pos _ hp⟩
theorem addP_len (xs ys : List Int) : (addP p xs ys).length = min xs.length ys.length := by simp [addP]
theorem scaP_len (c : Int) (xs : List Int) : (scaP p c xs).length = xs.length := by simp [scaP]
theorem ev_add (x : Int) : ∀ {xs ys : List Int}, xs.length = ys.length → E p (ev x (addP p xs ys)) (ev x xs + ev x ys)
  | [], [], _ => E.of_eq (by simp [addP, ev])
  | [], _ :: _, h => by cases h
  | _ :: _, [], h => by cases h
  | a :: xs, b :: ys, h => by
    have ih := ev_add x (xs := xs) (ys := ys) (by simpa using h)
    show E p (ev x (addP p xs ys) * x + (a + b) % p) _
    refine (E.add (E.mul ih E.rfl') E.md).trans (E.of_eq ?_)
    rw [ev, ev, Int.add_mul]
    omega
theorem ev_sca (x c : Int) : ∀ xs : List Int, E p (ev x (scaP p c xs)) (c * ev x xs)
  | [] => E.of_eq (by simp [scaP, ev])
  | a :: xs => by
    show E p (ev x (scaP p c xs) * x + c * a % p) _
    refine (E.add (E.mul (ev_sca x c xs) E.rfl') E.md).trans (E.of_eq ?_)
    rw [ev, Int.mul_add, Int.mul_assoc]
theorem ev_app0 (x : Int) : ∀ xs : List Int, ev x (xs ++ [0]) = ev x xs
  | [] => by simp [ev]
  | a :: xs => by rw [List.cons_append, ev, ev, ev_app0 x xs]
theorem ev_root (x r : Int) (poly : List Int) : E p (ev x (rootP p poly r)) ((x - r) * ev x poly) := by
  unfold rootP
  refine (ev_add x (by rw [scaP_len, List.length_append]; rfl)).trans ?_
  refine (E.add E.rfl' (ev_sca x (-r) _)).trans (E.of_eq ?_)
  rw [ev_app0, ev, Int.sub_mul, Int.neg_mul, Int.mul_comm (ev x poly) x]
  omega
theorem root_len (poly : List Int) (r : Int) : (rootP p poly r).length = poly.length + 1 := by
  unfold rootP
  rw [addP_len, scaP_len, List.length_append, List.length_cons]
  simp
theorem ev_roots (x : Int) : ∀ (roots poly : List Int), E p (ev x (rootsP p poly roots)) (dif x roots * ev x poly)
  | [], poly => E.of_eq (by simp [rootsP, dif])
  | r :: rs, poly => by
    show E p (ev x (rootsP p (rootP p poly r) rs)) _
    refine (ev_roots x rs _).trans ((E.mul E.rfl' (ev_root x r poly)).trans (E.of_eq ?_))
    rw [dif]
    rw [← Int.mul_assoc, Int.mul_comm (dif x rs)]
theorem roots_len : ∀ (roots poly : List Int), (rootsP p poly roots).length = poly.length + roots.length
  | [], poly => rfl
  | r :: rs, poly => by
    show (rootsP p (rootP p poly r) rs).length = _
    rw [roots_len rs, root_len, List.length_cons]
    omega
theorem ev_roots1 (x : Int) (roots : List Int) : E p (ev x (rootsP p [1] roots)) (dif x roots) := (ev_roots x roots [1]).trans (E.of_eq (by simp [ev]))
theorem dif_zero {x : Int} : ∀ {roots : List Int}, x ∈ roots → dif x roots = 0
  | [], h => by cases h
  | r :: rs, h => by
    rw [dif]
    rcases List.mem_cons.mp h with e | h
    · rw [e, Int.sub_self, Int.zero_mul]
    · rw [dif_zero h, Int.mul_zero]
theorem mul_ne {p a b : Int} (hp : prm p) (ha : ¬ a % p = 0) (hb : ¬ b % p = 0) : ¬ a * b % p = 0 := by
  intro h
  have hP : Pr p.toNat := pr_of (by rw [Int.toNat_of_nonneg (by have := hp.1; omega)]; exact hp)
  have hpn : ((p.toNat : Nat) : Int) = p := Int.toNat_of_nonneg (by have := hp.1; omega)
  have d : ∀ z : Int, p.toNat ∣ z.natAbs ↔ z % p = 0 := fun z => by
    rw [← Int.natCast_dvd_natCast, hpn, Int.dvd_natAbs, Int.dvd_iff_emod_eq_zero]
  have h1 : ¬ p.toNat ∣ a.natAbs := fun z => ha ((d a).mp z)
  have h2 : ¬ p.toNat ∣ b.natAbs := fun z => hb ((d b).mp z)
  have h3 := euclid hP h1 h2
  rw [← Int.natAbs_mul] at h3
  exact h3 ((d _).mpr h)
theorem one_ne {p : Int} (hp : prm p) : ¬ (1 : Int) % p = 0 := by
  have := hp.1
  rw [Int.emod_eq_of_lt (by omega) (by omega)]
  decide
theorem sub_ne {p x r : Int} (h1 : 0 ≤ x) (h2 : x < p) (h3 : 0 ≤ r) (h4 : r < p) (h : x ≠ r) : ¬ (x - r) % p = 0 := fun e => by
  have := Int.emod_emod_of_dvd x (Int.dvd_refl p)
  have e2 := Int.emod_eq_emod_iff_emod_sub_eq_zero.mpr e
  rw [Int.emod_eq_of_lt h1 h2, Int.emod_eq_of_lt h3 h4] at e2
  exact h e2
theorem dif_ne {p x : Int} (hp : prm p) (h1 : 0 ≤ x) (h2 : x < p) : ∀ {roots : List Int}, (∀ r ∈ roots, 0 ≤ r ∧ r < p ∧ x ≠ r) → ¬ dif x roots % p = 0
  | [], _ => one_ne hp
  | r :: rs, h => by
    rw [dif]
    obtain ⟨a, b, c⟩ := h r List.mem_cons_self
    exact mul_ne hp (sub_ne h1 h2 a b c) (dif_ne hp h1 h2 fun s hs => h s (List.mem_cons_of_mem _ hs))
theorem inv_md {p : Int} (hp : prm p) {a : Int} (h : ¬ a % p = 0) : E p (invP p (a % p) * a) 1 := by
  have h0 := hp.1
  have n1 := Int.emod_nonneg a (show p ≠ 0 by omega)
  have n2 := Int.emod_lt_of_pos a (show 0 < p by omega)
  have := inv_ok hp (a := a % p) (by omega) n2
  have e : E p (invP p (a % p) * (a % p)) 1 := by
    unfold E invP
    rw [this, Int.emod_eq_of_lt (by omega) (by omega)]
  exact (E.mul E.rfl' E.md.symm).trans e
theorem ev_peak (hp : 0 < p) (roots : List Int) (x y : Int) : E p (ev y (peakP p roots x)) (invP p (dif x roots % p) * dif y roots) := by
  unfold peakP
  rw [valP_ev hp]
  have e : ev x (rootsP p [1] roots) % p = dif x roots % p := ev_roots1 x roots
  rw [e]
  exact (ev_sca y _ _).trans (E.mul E.rfl' (ev_roots1 y roots))
theorem peak_len (roots : List Int) (x : Int) : (peakP p roots x).length = roots.length + 1 := by
  unfold peakP
  rw [scaP_len, roots_len]
  simp; omega
theorem peak_self {p : Int} (hp : prm p) {roots : List Int} {x : Int} (h1 : 0 ≤ x) (h2 : x < p) (h : ∀ r ∈ roots, 0 ≤ r ∧ r < p ∧ x ≠ r) : E p (ev x (peakP p roots x)) 1 :=
  (ev_peak (by have := hp.1; omega) roots x x).trans (inv_md hp (dif_ne hp h1 h2 h))
theorem peak_zero {p : Int} (hp : 0 < p) {roots : List Int} {x y : Int} (h : y ∈ roots) : E p (ev y (peakP p roots x)) 0 := by
  refine (ev_peak hp roots x y).trans (E.of_eq ?_)
  rw [dif_zero h, Int.mul_zero]
def lowP (p : Int) (xs : List Int) : Prop := ∀ x ∈ xs, 0 ≤ x ∧ x < p
theorem low_add (hp : 0 < p) (xs ys : List Int) : lowP p (addP p xs ys) := fun x hx => by
  unfold addP at hx
  rw [List.zipWith_eq_zipWith_take_min] at hx
  obtain ⟨a, b, _, rfl⟩ : ∃ a b : Int, True ∧ (a + b) % p = x := by
    obtain ⟨i, hi, e⟩ := List.getElem_of_mem hx
    rw [List.getElem_zipWith] at e
    exact ⟨_, _, trivial, e⟩
  exact ⟨Int.emod_nonneg _ (by omega), Int.emod_lt_of_pos _ hp⟩
theorem low_sca (hp : 0 < p) (c : Int) (xs : List Int) : lowP p (scaP p c xs) := fun x hx => by
  obtain ⟨a, _, rfl⟩ := List.mem_map.mp hx
  exact ⟨Int.emod_nonneg _ (by omega), Int.emod_lt_of_pos _ hp⟩
/-- the polynomial through points: sums of scaled ones -/
def thruP (p : Int) : List (List Int) → List Int → List Int → List Int
  | f :: fs, v :: vs, poly => thruP p fs vs (addP p poly (scaP p v f))
  | _, _, poly => poly
def dot (x : Int) : List (List Int) → List Int → Int
  | f :: fs, v :: vs => v * ev x f + dot x fs vs
  | _, _ => 0
theorem ev_thru (x : Int) (n : Nat) : ∀ (fs : List (List Int)) (vs poly : List Int), (∀ f ∈ fs, f.length = n) → poly.length = n → E p (ev x (thruP p fs vs poly)) (ev x poly + dot x fs vs) ∧ (thruP p fs vs poly).length = n
  | [], vs, poly, _, hl => ⟨E.of_eq (by simp [thruP, dot]), by simpa [thruP] using hl⟩
  | f :: fs, [], poly, _, hl => ⟨E.of_eq (by simp [thruP, dot]), by simpa [thruP] using hl⟩
  | f :: fs, v :: vs, poly, hf, hl => by
    have hfl := hf f List.mem_cons_self
    obtain ⟨h1, h2⟩ := ev_thru x n fs vs (addP p poly (scaP p v f)) (fun g hg => hf g (List.mem_cons_of_mem _ hg)) (by rw [addP_len, scaP_len, hl, hfl]; simp)
    refine ⟨?_, h2⟩
    show E p (ev x (thruP p fs vs (addP p poly (scaP p v f)))) _
    refine h1.trans ?_
    refine (E.add ((ev_add x (by rw [scaP_len, hl, hfl])).trans (E.add E.rfl' (ev_sca x v f))) E.rfl').trans (E.of_eq ?_)
    rw [dot]
    omega
theorem low_thru (hp : 0 < p) : ∀ (fs : List (List Int)) (vs poly : List Int), lowP p poly → lowP p (thruP p fs vs poly)
  | [], _, poly, h => by simpa [thruP] using h
  | _ :: _, [], poly, h => by simpa [thruP] using h
  | f :: fs, v :: vs, poly, h => low_thru hp fs vs _ (low_add hp _ _)
/-- at a point where one of them is 1 and the others 0 the value is the one's number -/
theorem dot_at {x : Int} : ∀ (fs : List (List Int)) (vs : List Int) (j : Nat) (v : Int), vs[j]? = some v → fs.length = vs.length → (∀ i f, fs[i]? = some f → E p (ev x f) (if i = j then 1 else 0)) → E p (dot x fs vs) v
  | [], [], _, _, h, _, _ => by simp at h
  | [], _ :: _, _, _, _, h, _ => by cases h
  | _ :: _, [], _, _, _, h, _ => by cases h
  | f :: fs, w :: vs, 0, v, h, hl, hd => by
    have e : w = v := by simpa using h
    subst e
    have h0 := hd 0 f rfl
    have hz : E p (dot x fs vs) 0 := by
      have : ∀ (fs : List (List Int)) (vs : List Int), (∀ (i : Nat) (f : List Int), fs[i]? = some f → E p (ev x f) 0) → E p (dot x fs vs) 0 := by
        intro fs
        induction fs with
        | nil => intro vs _; exact E.of_eq (by simp [dot])
        | cons g gs ih =>
          intro vs hg
          cases vs with
          | nil => exact E.of_eq (by simp [dot])
          | cons u us =>
            refine (E.add (E.mul E.rfl' (hg 0 g rfl)) (ih us fun i f hf => hg (i + 1) f (by simpa using hf))).trans (E.of_eq ?_)
            rw [Int.mul_zero, Int.add_zero]
      exact this fs vs fun i f hf => by
        have := hd (i + 1) f (by simpa using hf)
        rwa [if_neg (by omega)] at this
    rw [dot]
    rw [if_pos rfl] at h0
    exact (E.add (E.mul E.rfl' h0) hz).trans (E.of_eq (by rw [Int.mul_one, Int.add_zero]))
  | f :: fs, w :: vs, j + 1, v, h, hl, hd => by
    have h0 := hd 0 f rfl
    rw [if_neg (by omega)] at h0
    have ih := dot_at fs vs j v (by simpa using h) (by simpa using hl) fun i g hg => by
      have := hd (i + 1) g (by simpa using hg)
      by_cases c : i = j
      · rw [if_pos c]; rwa [if_pos (by omega)] at this
      · rw [if_neg c]; rwa [if_neg (by omega)] at this
    rw [dot]
    exact (E.add (E.mul E.rfl' h0) ih).trans (E.of_eq (by rw [Int.mul_zero, Int.zero_add]))
end
end Zn
namespace Zp
open PySem L2 Zv PyProof.Rows

/-! _law_numbers: box p many k -/
noncomputable def M__law_numbers : SM :=
    (sRet (mB bTuple (aCons (mLC [3] (mRng1 (aCons (mVar 2) aNil)) (.nm 3) tYes (mCall 2 F__law_number (aCons (mVar 0) (aCons (mVar 1) aNil)))) aNil)))
noncomputable def F__law_numbers : FM := runF 4 M__law_numbers

/-! scaled: p c poly number -/
noncomputable def M_scaled : SM :=
    (sRet (mB bTuple (aCons (mLC [3] (mIt (mVar 2)) (.nm 3) tYes (mOp dMod (mOp dMul (mVar 1) (mVar 3)) (mVar 0))) aNil)))
noncomputable def F_scaled : FM := runF 4 M_scaled

/-! added: p one other a b -/
noncomputable def M_added : SM :=
    (sRet (mB bTuple (aCons (mLC [3, 4] (mZip (aCons (mVar 1) (aCons (mVar 2) aNil))) (.tp [(.nm 3), (.nm 4)]) tYes (mOp dMod (mOp dAdd (mVar 3) (mVar 4)) (mVar 0))) aNil)))
noncomputable def F_added : FM := runF 5 M_added

/-! times_root: p poly root -/
noncomputable def M_times_root : SM :=
    (sRet (mCall 3 F_added (aCons (mVar 0) (aCons (mTup (aCons (mC (.int 0)) (aStar (mVar 1) aNil))) (aCons (mCall 3 F_scaled (aCons (mVar 0) (aCons (mNeg (mVar 2)) (aCons (mTup (aStar (mVar 1) (aCons (mC (.int 0)) aNil))) aNil)))) aNil)))))
noncomputable def F_times_root : FM := runF 3 M_times_root

/-! value_at: p poly x total number -/
noncomputable def B_value_at1 : SM :=
    (sAsg (.nm 3) (mOp dMod (mOp dAdd (mOp dMul (mVar 3) (mVar 2)) (mVar 4)) (mVar 0)))
noncomputable def M_value_at : SM :=
    (sSeq (sAsg (.nm 3) (mC (.int 0)))
    (sSeq (sFor (mRev (mVar 1)) (.nm 4) B_value_at1)
    (sRet (mVar 3))))
noncomputable def F_value_at : FM := runF 5 M_value_at

/-! peak: p roots x poly root -/
noncomputable def B_peak1 : SM :=
    (sAsg (.nm 3) (mCall 3 F_times_root (aCons (mVar 0) (aCons (mVar 3) (aCons (mVar 4) aNil)))))
noncomputable def M_peak : SM :=
    (sSeq (sAsg (.nm 3) (mTup (aCons (mC (.int 1)) aNil)))
    (sSeq (sFor (mIt (mVar 1)) (.nm 4) B_peak1)
    (sRet (mCall 3 F_scaled (aCons (mVar 0) (aCons (mCall 2 F_inverse (aCons (mVar 0) (aCons (mCall 3 F_value_at (aCons (mVar 0) (aCons (mVar 3) (aCons (mVar 2) aNil)))) aNil))) (aCons (mVar 3) aNil)))))))
noncomputable def F_peak : FM := runF 5 M_peak

/-! peaks: p points k x -/
noncomputable def M_peaks : SM :=
    (sRet (mLC [2, 3] (mEnum (aCons (mVar 1) aNil)) (.tp [(.nm 2), (.nm 3)]) tYes (mCall 3 F_peak (aCons (mVar 0) (aCons (mOp dAdd (mSl (mVar 1) pNone (pSome (mVar 2))) (mSl (mVar 1) (pSome (mOp dAdd (mVar 2) (mC (.int 1)))) pNone)) (aCons (mVar 3) aNil))))))
noncomputable def F_peaks : FM := runF 4 M_peaks

/-! through: p points values poly one value -/
noncomputable def B_through1 : SM :=
    (sAsg (.nm 3) (mCall 3 F_added (aCons (mVar 0) (aCons (mVar 3) (aCons (mCall 3 F_scaled (aCons (mVar 0) (aCons (mVar 5) (aCons (mVar 4) aNil)))) aNil)))))
noncomputable def M_through : SM :=
    (sSeq (sAsg (.nm 3) (mOp dRep (mTup (aCons (mC (.int 0)) aNil)) (mB bLen (aCons (mVar 1) aNil))))
    (sSeq (sFor (mZip (aCons (mCall 2 F_peaks (aCons (mVar 0) (aCons (mVar 1) aNil))) (aCons (mVar 2) aNil))) (.tp [(.nm 4), (.nm 5)]) B_through1)
    (sRet (mVar 3))))
noncomputable def F_through : FM := runF 6 M_through

/-! veil: p points -/
noncomputable def M_veil : SM :=
    (sRet (mCall 3 F_peak (aCons (mVar 0) (aCons (mVar 1) (aCons (mC (.int 0)) aNil)))))
noncomputable def F_veil : FM := runF 2 M_veil

/-! weights: p points x one -/
noncomputable def M_weights : SM :=
    (sRet (mB bTuple (aCons (mLC [3] (mIt (mCall 2 F_peaks (aCons (mVar 0) (aCons (mVar 1) aNil)))) (.nm 3) tYes (mCall 3 F_value_at (aCons (mVar 0) (aCons (mVar 3) (aCons (mVar 2) aNil))))) aNil)))
noncomputable def F_weights : FM := runF 4 M_weights

/-! _law_at: p poly x total power_v number -/
noncomputable def B__law_at1 : SM :=
    (sSeq (sAsg (.nm 3) (mOp dMod (mB bInt (aCons (mOp dAdd (mVar 3) (mOp dMul (mVar 5) (mVar 4))) aNil)) (mVar 0)))
    (sAsg (.nm 4) (mOp dMod (mB bInt (aCons (mOp dMul (mVar 4) (mVar 2)) aNil)) (mVar 0))))
noncomputable def M__law_at : SM :=
    (sSeq (sAsg (.nm 3) (mC (.int 0)))
    (sSeq (sAsg (.nm 4) (mC (.int 1)))
    (sSeq (sFor (mIt (mVar 1)) (.nm 5) B__law_at1)
    (sRet (mVar 3)))))
noncomputable def F__law_at : FM := runF 6 M__law_at

/-! _law_inverse: p a -/
noncomputable def M__law_inverse : SM :=
    (sRet (mCall 3 F__law_raised (aCons (mVar 0) (aCons (mOp dMod (mB bInt (aCons (mVar 1) aNil)) (mVar 0)) (aCons (mOp dSub (mVar 0) (mC (.int 2))) aNil)))))
noncomputable def F__law_inverse : FM := runF 2 M__law_inverse

/-! _law_weights: p points x found one top low other -/
noncomputable def B__law_weights1 : SM :=
    (sIf (mTest (mOp dNe (mVar 7) (mVar 4)))
    (sSeq (sAsg (.nm 5) (mOp dMod (mB bInt (aCons (mOp dMul (mVar 5) (mOp dSub (mVar 2) (mVar 7))) aNil)) (mVar 0)))
    (sAsg (.nm 6) (mOp dMod (mB bInt (aCons (mOp dMul (mVar 6) (mOp dSub (mVar 4) (mVar 7))) aNil)) (mVar 0))))
    sNil)
noncomputable def B__law_weights2 : SM :=
    (sSeq (sAsg (.nm 5) (mC (.int 1)))
    (sSeq (sAsg (.nm 6) (mC (.int 1)))
    (sSeq (sFor (mIt (mVar 1)) (.nm 7) B__law_weights1)
    (sApp (mVar 3) (mOp dMod (mB bInt (aCons (mOp dMul (mVar 5) (mCall 2 F__law_inverse (aCons (mVar 0) (aCons (mVar 6) aNil)))) aNil)) (mVar 0))))))
noncomputable def M__law_weights : SM :=
    (sSeq (sBox 3 (mLst aNil))
    (sSeq (sFor (mIt (mVar 1)) (.nm 4) B__law_weights2)
    (sRet (mVar 3))))
noncomputable def F__law_weights : FM := runF 8 M__law_weights

end Zp
namespace Zv
open PySem L2
/-! ## walks over a list that is an image -/
theorem lcL_map {α : Type} {t : Tg} {tt : TM} {elt : EM} {P : Store → Prop} {es : Sl} {st : Store} (hP : P st) (emb f : α → D) : ∀ (as : List α),
    (∀ a ∈ as, ∃ es1, t.put (emb a) es = some es1 ∧ tt es1 st = .ok true st ∧ elt es1 st = .ok (f a) st) → lcL t tt elt P es (as.map emb) st = .ok (as.map f) st
  | [], _ => by
    rw [List.map_nil, List.map_nil]
    unfold lcL
    rw [if_pos hP]
  | a :: as, h => by
    obtain ⟨es1, e1, e2, e3⟩ := h a List.mem_cons_self
    have ih := lcL_map hP emb f as fun x hx => h x (List.mem_cons_of_mem _ hx)
    rw [List.map_cons, List.map_cons]
    unfold lcL
    rw [if_pos hP, e1]
    simp only [e2, e3, R.noex_ok, R.bind_ok, ih, if_true]
/-- a comprehension whose item changes the store -/
theorem lcL_run {α : Type} {t : Tg} {tt : TM} {elt : EM} {P : Store → Prop} {es : Sl} (emb : α → D) (f : Nat → α → D) (S : Nat → Store) : ∀ (as : List α) (i : Nat),
    (∀ j, i ≤ j → P (S j)) → (∀ j a, i ≤ j → ∃ es1, t.put (emb a) es = some es1 ∧ tt es1 (S j) = .ok true (S j) ∧ elt es1 (S j) = .ok (f j a) (S (j + 1))) → ∃ ys : List D, ys.length = as.length ∧ (∀ k a, as[k]? = some a → ys[k]? = some (f (i + k) a)) ∧ lcL t tt elt P es (as.map emb) (S i) = .ok ys (S (i + as.length))
  | [], i, hP, _ => by
    refine ⟨[], rfl, fun k a e => by simp at e, ?_⟩
    rw [List.map_nil]
    unfold lcL
    rw [if_pos (hP i (Nat.le_refl _))]
    rfl
  | a :: as, i, hP, h => by
    obtain ⟨es1, e1, e2, e3⟩ := h i a (Nat.le_refl _)
    obtain ⟨ys, h1, h2, h3⟩ := lcL_run emb f S as (i + 1) (fun j hj => hP j (by omega)) fun j x hj => h j x (by omega)
    refine ⟨f i a :: ys, by simp [h1], fun k x e => ?_, ?_⟩
    · cases k with
      | zero => simp at e; subst e; rfl
      | succ k =>
        have := h2 k x (by simpa using e)
        rw [show i + (k + 1) = i + 1 + k by omega]
        simpa using this
    · rw [List.map_cons]
      unfold lcL
      rw [if_pos (hP i (Nat.le_refl _)), e1]
      simp only [e2, e3, R.noex_ok, R.bind_ok, h3, if_true]
      rw [show i + 1 + as.length = i + (a :: as).length by rw [List.length_cons]; omega]
theorem forL_fold {α σ ω : Type} {t : Tg} {body : SM} {P : Store → Prop} {st : Store} (hP : P st) (emb : α → D) (step : σ → α → σ) (mk : σ → ω → Sl) (Inv : Nat → σ → Prop) : ∀ (as : List α) (i : Nat) (s : σ) (v : ω),
    (∀ j a s v, i ≤ j → j < i + as.length → a ∈ as → Inv j s → ∃ es1, t.put (emb a) (mk s v) = some es1 ∧ (∃ v', body es1 st = .ok .nx (mk (step s a) v') st) ∧ Inv (j + 1) (step s a)) →
    Inv i s → ∃ v', forL t body P (as.map emb) (mk s v) st = .ok .nx (mk (as.foldl step s) v') st ∧ Inv (i + as.length) (as.foldl step s)
  | [], i, s, v, _, hI => by
    refine ⟨v, ?_, hI⟩
    rw [List.map_nil]
    unfold forL
    rw [if_pos hP]
    rfl
  | a :: as, i, s, v, h, hI => by
    obtain ⟨es1, e1, ⟨v1, e2⟩, hI2⟩ := h i a s v (Nat.le_refl _) (by rw [List.length_cons]; omega) List.mem_cons_self hI
    obtain ⟨v2, e3, hI3⟩ := forL_fold hP emb step mk Inv as (i + 1) (step s a) v1 (fun j x s v h1 h2 hx hs => h j x s v (by omega) (by rw [List.length_cons]; omega) (List.mem_cons_of_mem _ hx) hs) hI2
    refine ⟨v2, ?_, by rw [List.length_cons, show i + (as.length + 1) = i + 1 + as.length by omega]; exact hI3⟩
    rw [List.map_cons]
    unfold forL
    rw [if_pos hP, e1]
    simp only [e2, e3]
    rfl
theorem zip_ints : ∀ xs ys : List Int, zipD (xs.map .int) (ys.map .int) = (xs.zip ys).map fun q => .tup [.int q.1, .int q.2]
  | [], _ => by simp [zipD]
  | _ :: _, [] => by simp [zipD]
  | x :: xs, y :: ys => by rw [List.map_cons, List.map_cons, zipD, zip_ints xs ys, List.zip_cons_cons, List.map_cons]
theorem enum_ints : ∀ (xs : List Int) (k : Nat), enumD k (xs.map .int) = (xs.zipIdx k).map fun q => .tup [.int (q.2 : Int), .int q.1]
  | [], _ => rfl
  | x :: xs, k => by rw [List.map_cons, enumD, enum_ints xs (k + 1), List.zipIdx_cons, List.map_cons]
end Zv
namespace Zp
open PySem L2 Zv PyProof.Rows Zn
abbrev itup (ns : List Int) : D := .tup (ns.map .int)
theorem sz : sizeLine = 16777216 := rfl
theorem scaled_is {p c : Int} {xs : List Int} (hp : 0 < p) (hc : -(2 ^ 64) < c ∧ c < 2 ^ 64) (hx : xs.length ≤ 1000000) {st : Store} : F_scaled [.int p, .int c, itup xs] st = .ok (itup (scaP p c xs)) st := by
  have e := lcL_map (t := .nm 3) (tt := tYes) (elt := mOp dMod (mOp dMul (mVar 1) (mVar 3)) (mVar 0)) (P := Held []) (es := [some (.int p), some (.int c), some (itup xs), none]) (st := st) trivial D.int (fun i => .int (c * i % p)) xs
    (fun i _ => ⟨_, rfl, by simp only [q_runF, q_kFin, q_kFinN, q_mC, q_v0, q_v1, q_v2, q_v3, q_v4, q_v5, q_v6, q_v7, q_v8, q_v9, q_v10, q_v11, q_v12, q_v13, q_mOp, q_mTest, q_kB, q_kAnd, q_kOr, q_kNot, q_kNeg, q_kChT, q_kChF, q_mTru, q_tAnd, q_tOr, q_tNot, q_tYes, q_eAnd, q_eOr, q_eNot, q_mIf, q_aNil, q_aCons, q_mTup, q_mLst, q_mB, q_mCall, q_mNeg, q_mChain, q_sNil, q_sSeq, q_sExpr, q_sRet, q_sRetN, q_sBk, q_sCt, q_sIf, q_sAsg, q_kPutN, q_sBox, q_kBox, q_sApp, q_sSetI, q_sAug, q_kAug, q_kAug2, q_sFor, q_mRng1, q_kR1, q_kR2, q_mRng2, q_mIt, q_kItL, q_kItT, q_addI, q_addS, q_addT, q_addL, q_sub, q_mul, q_mod, q_fdv, q_pow, q_lt, q_le, q_gt, q_ge, q_iadd, q_isub, q_isN, q_notN, q_isNon_non, q_isNon_int, q_isNon_tup, q_isNon_lst, q_eqI, q_eqS, q_neI, q_neS, q_ixT, q_ixL, q_ixS, q_ixR0, q_int, q_intb, q_lenT, q_lenC, q_lenL, q_min, q_max, q_tupL, q_tupT, q_listL, q_listT, q_truB, q_truI, q_truT, q_truL, q_truN, q_bind, q_toS, q_nx, q_rt, q_bk, q_ct, q_ofO, q_noex, List.set_cons_zero, List.set_cons_succ, List.getElem?_cons_zero, List.getElem?_cons_succ, Option.map_some, Option.bind_some, List.length_cons, List.length_nil, List.map_cons, List.map_nil, Nat.reduceAdd, Nat.reduceSub, Nat.reduceLeDiff, Nat.reduceEqDiff, List.replicate_succ, List.replicate_zero, List.cons_append, List.nil_append, ↓reduceIte, if_true, if_false, Bool.false_eq_true, decide_true, decide_false, Bool.not_true, Bool.not_false, and_self, and_true, true_and, or_true, true_or, not_true_eq_false, not_false_eq_true, q_v14, q_v15, q_v16, q_v17, q_mEnum, q_kEnum, q_mZip, q_kZip, q_mRev, q_kRev, q_aStar, q_kSt, q_pNone, q_pSome, q_kPart, q_mSl, q_kSl2, q_kSl3, q_kCutT, q_kCutL, q_wkL, q_wkT, q_wkS], by simp only [hp, hc, List.set_cons_succ, q_runF, q_kFin, q_kFinN, q_mC, q_v0, q_v1, q_v2, q_v3, q_v4, q_v5, q_v6, q_v7, q_v8, q_v9, q_v10, q_v11, q_v12, q_v13, q_mOp, q_mTest, q_kB, q_kAnd, q_kOr, q_kNot, q_kNeg, q_kChT, q_kChF, q_mTru, q_tAnd, q_tOr, q_tNot, q_tYes, q_eAnd, q_eOr, q_eNot, q_mIf, q_aNil, q_aCons, q_mTup, q_mLst, q_mB, q_mCall, q_mNeg, q_mChain, q_sNil, q_sSeq, q_sExpr, q_sRet, q_sRetN, q_sBk, q_sCt, q_sIf, q_sAsg, q_kPutN, q_sBox, q_kBox, q_sApp, q_sSetI, q_sAug, q_kAug, q_kAug2, q_sFor, q_mRng1, q_kR1, q_kR2, q_mRng2, q_mIt, q_kItL, q_kItT, q_addI, q_addS, q_addT, q_addL, q_sub, q_mul, q_mod, q_fdv, q_pow, q_lt, q_le, q_gt, q_ge, q_iadd, q_isub, q_isN, q_notN, q_isNon_non, q_isNon_int, q_isNon_tup, q_isNon_lst, q_eqI, q_eqS, q_neI, q_neS, q_ixT, q_ixL, q_ixS, q_ixR0, q_int, q_intb, q_lenT, q_lenC, q_lenL, q_min, q_max, q_tupL, q_tupT, q_listL, q_listT, q_truB, q_truI, q_truT, q_truL, q_truN, q_bind, q_toS, q_nx, q_rt, q_bk, q_ct, q_ofO, q_noex, List.set_cons_zero, List.set_cons_succ, List.getElem?_cons_zero, List.getElem?_cons_succ, Option.map_some, Option.bind_some, List.length_cons, List.length_nil, List.map_cons, List.map_nil, Nat.reduceAdd, Nat.reduceSub, Nat.reduceLeDiff, Nat.reduceEqDiff, List.replicate_succ, List.replicate_zero, List.cons_append, List.nil_append, ↓reduceIte, if_true, if_false, Bool.false_eq_true, decide_true, decide_false, Bool.not_true, Bool.not_false, and_self, and_true, true_and, or_true, true_or, not_true_eq_false, not_false_eq_true, q_v14, q_v15, q_v16, q_v17, q_mEnum, q_kEnum, q_mZip, q_kZip, q_mRev, q_kRev, q_aStar, q_kSt, q_pNone, q_pSome, q_kPart, q_mSl, q_kSl2, q_kSl3, q_kCutT, q_kCutL, q_wkL, q_wkT, q_wkS]⟩)
  have ez : (xs.map D.int).length ≤ sizeLine := by rw [List.length_map, sz]; omega
  have ew : wipeD [some (.int p), some (.int c), some (itup xs), none] [3] = [some (.int p), some (.int c), some (itup xs), none] := rfl
  have em : xs.map (fun i => D.int (c * i % p)) = (scaP p c xs).map .int := by unfold scaP; rw [List.map_map]; rfl
  simp only [F_scaled, M_scaled, q_mLC, ez, ew, e, em, q_runF, q_kFin, q_kFinN, q_mC, q_v0, q_v1, q_v2, q_v3, q_v4, q_v5, q_v6, q_v7, q_v8, q_v9, q_v10, q_v11, q_v12, q_v13, q_mOp, q_mTest, q_kB, q_kAnd, q_kOr, q_kNot, q_kNeg, q_kChT, q_kChF, q_mTru, q_tAnd, q_tOr, q_tNot, q_tYes, q_eAnd, q_eOr, q_eNot, q_mIf, q_aNil, q_aCons, q_mTup, q_mLst, q_mB, q_mCall, q_mNeg, q_mChain, q_sNil, q_sSeq, q_sExpr, q_sRet, q_sRetN, q_sBk, q_sCt, q_sIf, q_sAsg, q_kPutN, q_sBox, q_kBox, q_sApp, q_sSetI, q_sAug, q_kAug, q_kAug2, q_sFor, q_mRng1, q_kR1, q_kR2, q_mRng2, q_mIt, q_kItL, q_kItT, q_addI, q_addS, q_addT, q_addL, q_sub, q_mul, q_mod, q_fdv, q_pow, q_lt, q_le, q_gt, q_ge, q_iadd, q_isub, q_isN, q_notN, q_isNon_non, q_isNon_int, q_isNon_tup, q_isNon_lst, q_eqI, q_eqS, q_neI, q_neS, q_ixT, q_ixL, q_ixS, q_ixR0, q_int, q_intb, q_lenT, q_lenC, q_lenL, q_min, q_max, q_tupL, q_tupT, q_listL, q_listT, q_truB, q_truI, q_truT, q_truL, q_truN, q_bind, q_toS, q_nx, q_rt, q_bk, q_ct, q_ofO, q_noex, List.set_cons_zero, List.set_cons_succ, List.getElem?_cons_zero, List.getElem?_cons_succ, Option.map_some, Option.bind_some, List.length_cons, List.length_nil, List.map_cons, List.map_nil, Nat.reduceAdd, Nat.reduceSub, Nat.reduceLeDiff, Nat.reduceEqDiff, List.replicate_succ, List.replicate_zero, List.cons_append, List.nil_append, ↓reduceIte, if_true, if_false, Bool.false_eq_true, decide_true, decide_false, Bool.not_true, Bool.not_false, and_self, and_true, true_and, or_true, true_or, not_true_eq_false, not_false_eq_true, q_v14, q_v15, q_v16, q_v17, q_mEnum, q_kEnum, q_mZip, q_kZip, q_mRev, q_kRev, q_aStar, q_kSt, q_pNone, q_pSome, q_kPart, q_mSl, q_kSl2, q_kSl3, q_kCutT, q_kCutL, q_wkL, q_wkT, q_wkS]
  exact leave_same (by simp [D.lo])
theorem added_is {p : Int} {xs ys : List Int} (hp : 0 < p) (hx : xs.length ≤ 1000000) {st : Store} : F_added [.int p, itup xs, itup ys] st = .ok (itup (addP p xs ys)) st := by
  have e := lcL_map (t := .tp [.nm 3, .nm 4]) (tt := tYes) (elt := mOp dMod (mOp dAdd (mVar 3) (mVar 4)) (mVar 0)) (P := Held []) (es := [some (.int p), some (itup xs), some (itup ys), none, none]) (st := st) trivial (fun q : Int × Int => .tup [.int q.1, .int q.2]) (fun q => .int ((q.1 + q.2) % p)) (xs.zip ys)
    (fun q _ => ⟨[some (.int p), some (itup xs), some (itup ys), some (.int q.1), some (.int q.2)], rfl, by simp only [q_runF, q_kFin, q_kFinN, q_mC, q_v0, q_v1, q_v2, q_v3, q_v4, q_v5, q_v6, q_v7, q_v8, q_v9, q_v10, q_v11, q_v12, q_v13, q_mOp, q_mTest, q_kB, q_kAnd, q_kOr, q_kNot, q_kNeg, q_kChT, q_kChF, q_mTru, q_tAnd, q_tOr, q_tNot, q_tYes, q_eAnd, q_eOr, q_eNot, q_mIf, q_aNil, q_aCons, q_mTup, q_mLst, q_mB, q_mCall, q_mNeg, q_mChain, q_sNil, q_sSeq, q_sExpr, q_sRet, q_sRetN, q_sBk, q_sCt, q_sIf, q_sAsg, q_kPutN, q_sBox, q_kBox, q_sApp, q_sSetI, q_sAug, q_kAug, q_kAug2, q_sFor, q_mRng1, q_kR1, q_kR2, q_mRng2, q_mIt, q_kItL, q_kItT, q_addI, q_addS, q_addT, q_addL, q_sub, q_mul, q_mod, q_fdv, q_pow, q_lt, q_le, q_gt, q_ge, q_iadd, q_isub, q_isN, q_notN, q_isNon_non, q_isNon_int, q_isNon_tup, q_isNon_lst, q_eqI, q_eqS, q_neI, q_neS, q_ixT, q_ixL, q_ixS, q_ixR0, q_int, q_intb, q_lenT, q_lenC, q_lenL, q_min, q_max, q_tupL, q_tupT, q_listL, q_listT, q_truB, q_truI, q_truT, q_truL, q_truN, q_bind, q_toS, q_nx, q_rt, q_bk, q_ct, q_ofO, q_noex, List.set_cons_zero, List.set_cons_succ, List.getElem?_cons_zero, List.getElem?_cons_succ, Option.map_some, Option.bind_some, List.length_cons, List.length_nil, List.map_cons, List.map_nil, Nat.reduceAdd, Nat.reduceSub, Nat.reduceLeDiff, Nat.reduceEqDiff, List.replicate_succ, List.replicate_zero, List.cons_append, List.nil_append, ↓reduceIte, if_true, if_false, Bool.false_eq_true, decide_true, decide_false, Bool.not_true, Bool.not_false, and_self, and_true, true_and, or_true, true_or, not_true_eq_false, not_false_eq_true, q_v14, q_v15, q_v16, q_v17, q_mEnum, q_kEnum, q_mZip, q_kZip, q_mRev, q_kRev, q_aStar, q_kSt, q_pNone, q_pSome, q_kPart, q_mSl, q_kSl2, q_kSl3, q_kCutT, q_kCutL, q_wkL, q_wkT, q_wkS], by simp only [hp, q_runF, q_kFin, q_kFinN, q_mC, q_v0, q_v1, q_v2, q_v3, q_v4, q_v5, q_v6, q_v7, q_v8, q_v9, q_v10, q_v11, q_v12, q_v13, q_mOp, q_mTest, q_kB, q_kAnd, q_kOr, q_kNot, q_kNeg, q_kChT, q_kChF, q_mTru, q_tAnd, q_tOr, q_tNot, q_tYes, q_eAnd, q_eOr, q_eNot, q_mIf, q_aNil, q_aCons, q_mTup, q_mLst, q_mB, q_mCall, q_mNeg, q_mChain, q_sNil, q_sSeq, q_sExpr, q_sRet, q_sRetN, q_sBk, q_sCt, q_sIf, q_sAsg, q_kPutN, q_sBox, q_kBox, q_sApp, q_sSetI, q_sAug, q_kAug, q_kAug2, q_sFor, q_mRng1, q_kR1, q_kR2, q_mRng2, q_mIt, q_kItL, q_kItT, q_addI, q_addS, q_addT, q_addL, q_sub, q_mul, q_mod, q_fdv, q_pow, q_lt, q_le, q_gt, q_ge, q_iadd, q_isub, q_isN, q_notN, q_isNon_non, q_isNon_int, q_isNon_tup, q_isNon_lst, q_eqI, q_eqS, q_neI, q_neS, q_ixT, q_ixL, q_ixS, q_ixR0, q_int, q_intb, q_lenT, q_lenC, q_lenL, q_min, q_max, q_tupL, q_tupT, q_listL, q_listT, q_truB, q_truI, q_truT, q_truL, q_truN, q_bind, q_toS, q_nx, q_rt, q_bk, q_ct, q_ofO, q_noex, List.set_cons_zero, List.set_cons_succ, List.getElem?_cons_zero, List.getElem?_cons_succ, Option.map_some, Option.bind_some, List.length_cons, List.length_nil, List.map_cons, List.map_nil, Nat.reduceAdd, Nat.reduceSub, Nat.reduceLeDiff, Nat.reduceEqDiff, List.replicate_succ, List.replicate_zero, List.cons_append, List.nil_append, ↓reduceIte, if_true, if_false, Bool.false_eq_true, decide_true, decide_false, Bool.not_true, Bool.not_false, and_self, and_true, true_and, or_true, true_or, not_true_eq_false, not_false_eq_true, q_v14, q_v15, q_v16, q_v17, q_mEnum, q_kEnum, q_mZip, q_kZip, q_mRev, q_kRev, q_aStar, q_kSt, q_pNone, q_pSome, q_kPart, q_mSl, q_kSl2, q_kSl3, q_kCutT, q_kCutL, q_wkL, q_wkT, q_wkS]⟩)
  have ez : ((xs.zip ys).map fun q : Int × Int => D.tup [.int q.1, .int q.2]).length ≤ sizeLine := by rw [List.length_map, List.length_zip, sz]; omega
  have ew : wipeD [some (.int p), some (itup xs), some (itup ys), none, none] [3, 4] = [some (.int p), some (itup xs), some (itup ys), none, none] := rfl
  have em : (xs.zip ys).map (fun q => D.int ((q.1 + q.2) % p)) = (addP p xs ys).map .int := by
    unfold addP
    rw [List.map_zipWith, List.zip, List.map_zipWith]
  simp only [F_added, M_added, q_mLC, zip_ints, ez, ew, e, em, q_runF, q_kFin, q_kFinN, q_mC, q_v0, q_v1, q_v2, q_v3, q_v4, q_v5, q_v6, q_v7, q_v8, q_v9, q_v10, q_v11, q_v12, q_v13, q_mOp, q_mTest, q_kB, q_kAnd, q_kOr, q_kNot, q_kNeg, q_kChT, q_kChF, q_mTru, q_tAnd, q_tOr, q_tNot, q_tYes, q_eAnd, q_eOr, q_eNot, q_mIf, q_aNil, q_aCons, q_mTup, q_mLst, q_mB, q_mCall, q_mNeg, q_mChain, q_sNil, q_sSeq, q_sExpr, q_sRet, q_sRetN, q_sBk, q_sCt, q_sIf, q_sAsg, q_kPutN, q_sBox, q_kBox, q_sApp, q_sSetI, q_sAug, q_kAug, q_kAug2, q_sFor, q_mRng1, q_kR1, q_kR2, q_mRng2, q_mIt, q_kItL, q_kItT, q_addI, q_addS, q_addT, q_addL, q_sub, q_mul, q_mod, q_fdv, q_pow, q_lt, q_le, q_gt, q_ge, q_iadd, q_isub, q_isN, q_notN, q_isNon_non, q_isNon_int, q_isNon_tup, q_isNon_lst, q_eqI, q_eqS, q_neI, q_neS, q_ixT, q_ixL, q_ixS, q_ixR0, q_int, q_intb, q_lenT, q_lenC, q_lenL, q_min, q_max, q_tupL, q_tupT, q_listL, q_listT, q_truB, q_truI, q_truT, q_truL, q_truN, q_bind, q_toS, q_nx, q_rt, q_bk, q_ct, q_ofO, q_noex, List.set_cons_zero, List.set_cons_succ, List.getElem?_cons_zero, List.getElem?_cons_succ, Option.map_some, Option.bind_some, List.length_cons, List.length_nil, List.map_cons, List.map_nil, Nat.reduceAdd, Nat.reduceSub, Nat.reduceLeDiff, Nat.reduceEqDiff, List.replicate_succ, List.replicate_zero, List.cons_append, List.nil_append, ↓reduceIte, if_true, if_false, Bool.false_eq_true, decide_true, decide_false, Bool.not_true, Bool.not_false, and_self, and_true, true_and, or_true, true_or, not_true_eq_false, not_false_eq_true, q_v14, q_v15, q_v16, q_v17, q_mEnum, q_kEnum, q_mZip, q_kZip, q_mRev, q_kRev, q_aStar, q_kSt, q_pNone, q_pSome, q_kPart, q_mSl, q_kSl2, q_kSl3, q_kCutT, q_kCutL, q_wkL, q_wkT, q_wkS]
  exact leave_same (by simp [D.lo])
theorem times_root_is {p r : Int} {poly : List Int} (hp : 0 < p) (hr : -(2 ^ 60) < r ∧ r < 2 ^ 60) (hx : poly.length ≤ 100000) {st : Store} : F_times_root [.int p, itup poly, .int r] st = .ok (itup (rootP p poly r)) st := by
  have hr2 : -(2 ^ 64) < -r ∧ -r < 2 ^ 64 := by constructor <;> omega
  have z1 : (D.int 0 :: poly.map D.int).length ≤ sizeLine := by rw [List.length_cons, List.length_map, sz]; omega
  have z2 : (poly.map D.int ++ [D.int 0]).length ≤ sizeLine := by rw [List.length_append, List.length_map, sz]; simp; omega
  have e1 : D.int 0 :: poly.map D.int = (0 :: poly).map .int := rfl
  have e2 : poly.map D.int ++ [D.int 0] = (poly ++ [0]).map .int := by simp
  have s1 := scaled_is (p := p) (c := -r) (xs := poly ++ [0]) hp hr2 (by simp; omega) (st := st)
  have s2 := added_is (p := p) (xs := 0 :: poly) (ys := scaP p (-r) (poly ++ [0])) hp (by simp; omega) (st := st)
  simp only [itup, ← e2] at s1
  simp only [itup, ← e1] at s2
  simp only [List.length_cons] at z1
  simp only [F_times_root, M_times_root, List.append_nil, z1, z2, s1, s2, q_runF, q_kFin, q_kFinN, q_mC, q_v0, q_v1, q_v2, q_v3, q_v4, q_v5, q_v6, q_v7, q_v8, q_v9, q_v10, q_v11, q_v12, q_v13, q_mOp, q_mTest, q_kB, q_kAnd, q_kOr, q_kNot, q_kNeg, q_kChT, q_kChF, q_mTru, q_tAnd, q_tOr, q_tNot, q_tYes, q_eAnd, q_eOr, q_eNot, q_mIf, q_aNil, q_aCons, q_mTup, q_mLst, q_mB, q_mCall, q_mNeg, q_mChain, q_sNil, q_sSeq, q_sExpr, q_sRet, q_sRetN, q_sBk, q_sCt, q_sIf, q_sAsg, q_kPutN, q_sBox, q_kBox, q_sApp, q_sSetI, q_sAug, q_kAug, q_kAug2, q_sFor, q_mRng1, q_kR1, q_kR2, q_mRng2, q_mIt, q_kItL, q_kItT, q_addI, q_addS, q_addT, q_addL, q_sub, q_mul, q_mod, q_fdv, q_pow, q_lt, q_le, q_gt, q_ge, q_iadd, q_isub, q_isN, q_notN, q_isNon_non, q_isNon_int, q_isNon_tup, q_isNon_lst, q_eqI, q_eqS, q_neI, q_neS, q_ixT, q_ixL, q_ixS, q_ixR0, q_int, q_intb, q_lenT, q_lenC, q_lenL, q_min, q_max, q_tupL, q_tupT, q_listL, q_listT, q_truB, q_truI, q_truT, q_truL, q_truN, q_bind, q_toS, q_nx, q_rt, q_bk, q_ct, q_ofO, q_noex, List.set_cons_zero, List.set_cons_succ, List.getElem?_cons_zero, List.getElem?_cons_succ, Option.map_some, Option.bind_some, List.length_cons, List.length_nil, List.map_cons, List.map_nil, Nat.reduceAdd, Nat.reduceSub, Nat.reduceLeDiff, Nat.reduceEqDiff, List.replicate_succ, List.replicate_zero, List.cons_append, List.nil_append, ↓reduceIte, if_true, if_false, Bool.false_eq_true, decide_true, decide_false, Bool.not_true, Bool.not_false, and_self, and_true, true_and, or_true, true_or, not_true_eq_false, not_false_eq_true, q_v14, q_v15, q_v16, q_v17, q_mEnum, q_kEnum, q_mZip, q_kZip, q_mRev, q_kRev, q_aStar, q_kSt, q_pNone, q_pSome, q_kPart, q_mSl, q_kSl2, q_kSl3, q_kCutT, q_kCutL, q_wkL, q_wkT, q_wkS]
  exact leave_same (by simp [D.lo])
theorem valP_fold (p x : Int) : ∀ cs : List Int, valP p x cs = cs.foldr (fun c t => (t * x + c) % p) 0
  | [] => rfl
  | c :: cs => by rw [valP, List.foldr_cons, valP_fold p x cs]
theorem value_at_is {p x : Int} {poly : List Int} (hp : 0 < p) (hp2 : p < 2 ^ 64) {st : Store} : F_value_at [.int p, itup poly, .int x] st = .ok (.int (valP p x poly)) st := by
  obtain ⟨v', e, _⟩ := forL_fold (t := .nm 4) (body := B_value_at1) (P := Held []) (st := st) trivial D.int (fun t c => (t * x + c) % p) (fun t v => [some (.int p), some (itup poly), some (.int x), some (.int t), v]) (fun _ t => 0 ≤ t ∧ t < p) poly.reverse 0 0 none
    (fun j a s v _ _ _ hs => by
      have hb : -(2 ^ 64) < s ∧ s < 2 ^ 64 := by constructor <;> omega
      refine ⟨_, rfl, ⟨some (.int a), ?_⟩, Int.emod_nonneg _ (by omega), Int.emod_lt_of_pos _ hp⟩
      simp only [B_value_at1, hp, hb, q_runF, q_kFin, q_kFinN, q_mC, q_v0, q_v1, q_v2, q_v3, q_v4, q_v5, q_v6, q_v7, q_v8, q_v9, q_v10, q_v11, q_v12, q_v13, q_mOp, q_mTest, q_kB, q_kAnd, q_kOr, q_kNot, q_kNeg, q_kChT, q_kChF, q_mTru, q_tAnd, q_tOr, q_tNot, q_tYes, q_eAnd, q_eOr, q_eNot, q_mIf, q_aNil, q_aCons, q_mTup, q_mLst, q_mB, q_mCall, q_mNeg, q_mChain, q_sNil, q_sSeq, q_sExpr, q_sRet, q_sRetN, q_sBk, q_sCt, q_sIf, q_sAsg, q_kPutN, q_sBox, q_kBox, q_sApp, q_sSetI, q_sAug, q_kAug, q_kAug2, q_sFor, q_mRng1, q_kR1, q_kR2, q_mRng2, q_mIt, q_kItL, q_kItT, q_addI, q_addS, q_addT, q_addL, q_sub, q_mul, q_mod, q_fdv, q_pow, q_lt, q_le, q_gt, q_ge, q_iadd, q_isub, q_isN, q_notN, q_isNon_non, q_isNon_int, q_isNon_tup, q_isNon_lst, q_eqI, q_eqS, q_neI, q_neS, q_ixT, q_ixL, q_ixS, q_ixR0, q_int, q_intb, q_lenT, q_lenC, q_lenL, q_min, q_max, q_tupL, q_tupT, q_listL, q_listT, q_truB, q_truI, q_truT, q_truL, q_truN, q_bind, q_toS, q_nx, q_rt, q_bk, q_ct, q_ofO, q_noex, List.set_cons_zero, List.set_cons_succ, List.getElem?_cons_zero, List.getElem?_cons_succ, Option.map_some, Option.bind_some, List.length_cons, List.length_nil, List.map_cons, List.map_nil, Nat.reduceAdd, Nat.reduceSub, Nat.reduceLeDiff, Nat.reduceEqDiff, List.replicate_succ, List.replicate_zero, List.cons_append, List.nil_append, ↓reduceIte, if_true, if_false, Bool.false_eq_true, decide_true, decide_false, Bool.not_true, Bool.not_false, and_self, and_true, true_and, or_true, true_or, not_true_eq_false, not_false_eq_true, q_v14, q_v15, q_v16, q_v17, q_mEnum, q_kEnum, q_mZip, q_kZip, q_mRev, q_kRev, q_aStar, q_kSt, q_pNone, q_pSome, q_kPart, q_mSl, q_kSl2, q_kSl3, q_kCutT, q_kCutL, q_wkL, q_wkT, q_wkS]) ⟨Int.le_refl _, hp⟩
  rw [List.foldl_reverse, ← valP_fold, List.map_reverse] at e
  simp only [F_value_at, M_value_at, e, q_runF, q_kFin, q_kFinN, q_mC, q_v0, q_v1, q_v2, q_v3, q_v4, q_v5, q_v6, q_v7, q_v8, q_v9, q_v10, q_v11, q_v12, q_v13, q_mOp, q_mTest, q_kB, q_kAnd, q_kOr, q_kNot, q_kNeg, q_kChT, q_kChF, q_mTru, q_tAnd, q_tOr, q_tNot, q_tYes, q_eAnd, q_eOr, q_eNot, q_mIf, q_aNil, q_aCons, q_mTup, q_mLst, q_mB, q_mCall, q_mNeg, q_mChain, q_sNil, q_sSeq, q_sExpr, q_sRet, q_sRetN, q_sBk, q_sCt, q_sIf, q_sAsg, q_kPutN, q_sBox, q_kBox, q_sApp, q_sSetI, q_sAug, q_kAug, q_kAug2, q_sFor, q_mRng1, q_kR1, q_kR2, q_mRng2, q_mIt, q_kItL, q_kItT, q_addI, q_addS, q_addT, q_addL, q_sub, q_mul, q_mod, q_fdv, q_pow, q_lt, q_le, q_gt, q_ge, q_iadd, q_isub, q_isN, q_notN, q_isNon_non, q_isNon_int, q_isNon_tup, q_isNon_lst, q_eqI, q_eqS, q_neI, q_neS, q_ixT, q_ixL, q_ixS, q_ixR0, q_int, q_intb, q_lenT, q_lenC, q_lenL, q_min, q_max, q_tupL, q_tupT, q_listL, q_listT, q_truB, q_truI, q_truT, q_truL, q_truN, q_bind, q_toS, q_nx, q_rt, q_bk, q_ct, q_ofO, q_noex, List.set_cons_zero, List.set_cons_succ, List.getElem?_cons_zero, List.getElem?_cons_succ, Option.map_some, Option.bind_some, List.length_cons, List.length_nil, List.map_cons, List.map_nil, Nat.reduceAdd, Nat.reduceSub, Nat.reduceLeDiff, Nat.reduceEqDiff, List.replicate_succ, List.replicate_zero, List.cons_append, List.nil_append, ↓reduceIte, if_true, if_false, Bool.false_eq_true, decide_true, decide_false, Bool.not_true, Bool.not_false, and_self, and_true, true_and, or_true, true_or, not_true_eq_false, not_false_eq_true, q_v14, q_v15, q_v16, q_v17, q_mEnum, q_kEnum, q_mZip, q_kZip, q_mRev, q_kRev, q_aStar, q_kSt, q_pNone, q_pSome, q_kPart, q_mSl, q_kSl2, q_kSl3, q_kCutT, q_kCutL, q_wkL, q_wkT, q_wkS]
  exact leave_same (by simp [D.lo])
theorem peak_is {p x : Int} {roots : List Int} (hp : 2 ≤ p) (hp2 : p < 2 ^ 32) (hr : lowP p roots) (hl : roots.length ≤ 1000) {st : Store} : F_peak [.int p, itup roots, .int x] st = .ok (itup (peakP p roots x)) st := by
  have hp0 : 0 < p := by omega
  obtain ⟨v', e, _⟩ := forL_fold (t := .nm 4) (body := B_peak1) (P := Held []) (st := st) trivial D.int (rootP p) (fun q v => [some (.int p), some (itup roots), some (.int x), some (itup q), v]) (fun i q => q.length = i + 1) roots 0 [1] none
    (fun j a s v _ hj ha hs => by
      have hb := hr a ha
      have e1 := times_root_is (p := p) (r := a) (poly := s) hp0 (by constructor <;> omega) (by omega) (st := st)
      refine ⟨_, rfl, ⟨some (.int a), ?_⟩, by rw [root_len, hs]⟩
      simp only [B_peak1, e1, q_runF, q_kFin, q_kFinN, q_mC, q_v0, q_v1, q_v2, q_v3, q_v4, q_v5, q_v6, q_v7, q_v8, q_v9, q_v10, q_v11, q_v12, q_v13, q_mOp, q_mTest, q_kB, q_kAnd, q_kOr, q_kNot, q_kNeg, q_kChT, q_kChF, q_mTru, q_tAnd, q_tOr, q_tNot, q_tYes, q_eAnd, q_eOr, q_eNot, q_mIf, q_aNil, q_aCons, q_mTup, q_mLst, q_mB, q_mCall, q_mNeg, q_mChain, q_sNil, q_sSeq, q_sExpr, q_sRet, q_sRetN, q_sBk, q_sCt, q_sIf, q_sAsg, q_kPutN, q_sBox, q_kBox, q_sApp, q_sSetI, q_sAug, q_kAug, q_kAug2, q_sFor, q_mRng1, q_kR1, q_kR2, q_mRng2, q_mIt, q_kItL, q_kItT, q_addI, q_addS, q_addT, q_addL, q_sub, q_mul, q_mod, q_fdv, q_pow, q_lt, q_le, q_gt, q_ge, q_iadd, q_isub, q_isN, q_notN, q_isNon_non, q_isNon_int, q_isNon_tup, q_isNon_lst, q_eqI, q_eqS, q_neI, q_neS, q_ixT, q_ixL, q_ixS, q_ixR0, q_int, q_intb, q_lenT, q_lenC, q_lenL, q_min, q_max, q_tupL, q_tupT, q_listL, q_listT, q_truB, q_truI, q_truT, q_truL, q_truN, q_bind, q_toS, q_nx, q_rt, q_bk, q_ct, q_ofO, q_noex, List.set_cons_zero, List.set_cons_succ, List.getElem?_cons_zero, List.getElem?_cons_succ, Option.map_some, Option.bind_some, List.length_cons, List.length_nil, List.map_cons, List.map_nil, Nat.reduceAdd, Nat.reduceSub, Nat.reduceLeDiff, Nat.reduceEqDiff, List.replicate_succ, List.replicate_zero, List.cons_append, List.nil_append, ↓reduceIte, if_true, if_false, Bool.false_eq_true, decide_true, decide_false, Bool.not_true, Bool.not_false, and_self, and_true, true_and, or_true, true_or, not_true_eq_false, not_false_eq_true, q_v14, q_v15, q_v16, q_v17, q_mEnum, q_kEnum, q_mZip, q_kZip, q_mRev, q_kRev, q_aStar, q_kSt, q_pNone, q_pSome, q_kPart, q_mSl, q_kSl2, q_kSl3, q_kCutT, q_kCutL, q_wkL, q_wkT, q_wkS]) rfl
  have e2 : D.tup [.int 1] = itup [1] := rfl
  have z1 : 1 ≤ sizeLine := by rw [sz]; omega
  have hlen : (roots.foldl (rootP p) [1]).length = 1 + roots.length := roots_len roots [1]
  have e3 := value_at_is (p := p) (x := x) (poly := roots.foldl (rootP p) [1]) hp0 (by omega) (st := st)
  have hv := valP_nn hp0 x (roots.foldl (rootP p) [1])
  have e4 := inverse_is (p := p) (a := valP p x (roots.foldl (rootP p) [1])) hp hp2 (st := st)
  have i1 := Int.emod_nonneg (valP p x (roots.foldl (rootP p) [1]) ^ (p - 2).toNat) (show p ≠ 0 by omega)
  have i2 := Int.emod_lt_of_pos (valP p x (roots.foldl (rootP p) [1]) ^ (p - 2).toNat) hp0
  have e5 := scaled_is (p := p) (c := invP p (valP p x (roots.foldl (rootP p) [1]))) (xs := roots.foldl (rootP p) [1]) hp0 (by unfold invP; constructor <;> omega) (by rw [hlen]; omega) (st := st)
  unfold invP at e5
  simp only [F_peak, M_peak, z1, e2, e, e3, e4, e5, q_runF, q_kFin, q_kFinN, q_mC, q_v0, q_v1, q_v2, q_v3, q_v4, q_v5, q_v6, q_v7, q_v8, q_v9, q_v10, q_v11, q_v12, q_v13, q_mOp, q_mTest, q_kB, q_kAnd, q_kOr, q_kNot, q_kNeg, q_kChT, q_kChF, q_mTru, q_tAnd, q_tOr, q_tNot, q_tYes, q_eAnd, q_eOr, q_eNot, q_mIf, q_aNil, q_aCons, q_mTup, q_mLst, q_mB, q_mCall, q_mNeg, q_mChain, q_sNil, q_sSeq, q_sExpr, q_sRet, q_sRetN, q_sBk, q_sCt, q_sIf, q_sAsg, q_kPutN, q_sBox, q_kBox, q_sApp, q_sSetI, q_sAug, q_kAug, q_kAug2, q_sFor, q_mRng1, q_kR1, q_kR2, q_mRng2, q_mIt, q_kItL, q_kItT, q_addI, q_addS, q_addT, q_addL, q_sub, q_mul, q_mod, q_fdv, q_pow, q_lt, q_le, q_gt, q_ge, q_iadd, q_isub, q_isN, q_notN, q_isNon_non, q_isNon_int, q_isNon_tup, q_isNon_lst, q_eqI, q_eqS, q_neI, q_neS, q_ixT, q_ixL, q_ixS, q_ixR0, q_int, q_intb, q_lenT, q_lenC, q_lenL, q_min, q_max, q_tupL, q_tupT, q_listL, q_listT, q_truB, q_truI, q_truT, q_truL, q_truN, q_bind, q_toS, q_nx, q_rt, q_bk, q_ct, q_ofO, q_noex, List.set_cons_zero, List.set_cons_succ, List.getElem?_cons_zero, List.getElem?_cons_succ, Option.map_some, Option.bind_some, List.length_cons, List.length_nil, List.map_cons, List.map_nil, Nat.reduceAdd, Nat.reduceSub, Nat.reduceLeDiff, Nat.reduceEqDiff, List.replicate_succ, List.replicate_zero, List.cons_append, List.nil_append, ↓reduceIte, if_true, if_false, Bool.false_eq_true, decide_true, decide_false, Bool.not_true, Bool.not_false, and_self, and_true, true_and, or_true, true_or, not_true_eq_false, not_false_eq_true, q_v14, q_v15, q_v16, q_v17, q_mEnum, q_kEnum, q_mZip, q_kZip, q_mRev, q_kRev, q_aStar, q_kSt, q_pNone, q_pSome, q_kPart, q_mSl, q_kSl2, q_kSl3, q_kCutT, q_kCutL, q_wkL, q_wkT, q_wkS]
  exact leave_same (by simp [D.lo])
def peaksP (p : Int) (pts : List Int) : List (List Int) := pts.zipIdx.map fun q => peakP p (pts.take q.2 ++ pts.drop (q.2 + 1)) q.1
theorem cut_lo (pts : List Int) (k : Nat) : Zv.cutD (pts.map .int) none (some (k : Int)) = (pts.take k).map .int := by
  unfold Zv.cutD
  have h : ¬ (k : Int) < 0 := by omega
  simp only [HT.sIx, h, if_false, Nat.sub_zero, List.drop_zero, Int.toNat_natCast, List.length_map, List.map_take]
  by_cases c : k ≤ pts.length
  · rw [Nat.min_eq_left c]
  · rw [Nat.min_eq_right (by omega), List.take_of_length_le (by simp), List.take_of_length_le (by simp; omega)]
theorem cut_hi (pts : List Int) (k : Nat) : Zv.cutD (pts.map .int) (some ((k : Int) + 1)) none = (pts.drop (k + 1)).map .int := by
  unfold Zv.cutD
  have h : ¬ (k : Int) + 1 < 0 := by omega
  have e : ((k : Int) + 1).toNat = k + 1 := by omega
  simp only [HT.sIx, h, if_false, e, List.length_map, List.map_drop]
  by_cases c : k + 1 ≤ pts.length
  · rw [Nat.min_eq_left c, List.take_of_length_le (by simp)]
  · rw [Nat.min_eq_right (by omega), List.drop_of_length_le (by simp), List.drop_of_length_le (by simp; omega)]
    simp
theorem peaks_is {p : Int} {pts : List Int} (hp : 2 ≤ p) (hp2 : p < 2 ^ 32) (hr : lowP p pts) (hl : pts.length ≤ 1000) {st : Store} : F_peaks [.int p, itup pts] st = .ok (.lst ((peaksP p pts).map itup)) st := by
  have hp0 : 0 < p := by omega
  have e := lcL_map (t := .tp [.nm 2, .nm 3]) (tt := tYes)
    (elt := mCall 3 F_peak (aCons (mVar 0) (aCons (mOp dAdd (mSl (mVar 1) pNone (pSome (mVar 2))) (mSl (mVar 1) (pSome (mOp dAdd (mVar 2) (mC (.int 1)))) pNone)) (aCons (mVar 3) aNil)))) (P := Held []) (es := [some (.int p), some (itup pts), none, none]) (st := st) trivial
    (fun q : Int × Nat => .tup [.int (q.2 : Int), .int q.1]) (fun q => itup (peakP p (pts.take q.2 ++ pts.drop (q.2 + 1)) q.1)) pts.zipIdx
    (fun q _ => by
      have z : ((pts.take q.2).map D.int).length + ((pts.drop (q.2 + 1)).map D.int).length ≤ sizeLine := by rw [List.length_map, List.length_map, List.length_take, List.length_drop, sz]; omega
      have hlow : lowP p (pts.take q.2 ++ pts.drop (q.2 + 1)) := fun y hy => by
        rcases List.mem_append.mp hy with h | h
        · exact hr y (List.mem_of_mem_take h)
        · exact hr y (List.mem_of_mem_drop h)
      have e1 := peak_is (p := p) (x := q.1) (roots := pts.take q.2 ++ pts.drop (q.2 + 1)) hp hp2 hlow (by rw [List.length_append, List.length_take, List.length_drop]; omega) (st := st)
      simp only [itup, List.map_append] at e1
      refine ⟨[some (.int p), some (itup pts), some (.int (q.2 : Int)), some (.int q.1)], rfl, by simp only [q_runF, q_kFin, q_kFinN, q_mC, q_v0, q_v1, q_v2, q_v3, q_v4, q_v5, q_v6, q_v7, q_v8, q_v9, q_v10, q_v11, q_v12, q_v13, q_mOp, q_mTest, q_kB, q_kAnd, q_kOr, q_kNot, q_kNeg, q_kChT, q_kChF, q_mTru, q_tAnd, q_tOr, q_tNot, q_tYes, q_eAnd, q_eOr, q_eNot, q_mIf, q_aNil, q_aCons, q_mTup, q_mLst, q_mB, q_mCall, q_mNeg, q_mChain, q_sNil, q_sSeq, q_sExpr, q_sRet, q_sRetN, q_sBk, q_sCt, q_sIf, q_sAsg, q_kPutN, q_sBox, q_kBox, q_sApp, q_sSetI, q_sAug, q_kAug, q_kAug2, q_sFor, q_mRng1, q_kR1, q_kR2, q_mRng2, q_mIt, q_kItL, q_kItT, q_addI, q_addS, q_addT, q_addL, q_sub, q_mul, q_mod, q_fdv, q_pow, q_lt, q_le, q_gt, q_ge, q_iadd, q_isub, q_isN, q_notN, q_isNon_non, q_isNon_int, q_isNon_tup, q_isNon_lst, q_eqI, q_eqS, q_neI, q_neS, q_ixT, q_ixL, q_ixS, q_ixR0, q_int, q_intb, q_lenT, q_lenC, q_lenL, q_min, q_max, q_tupL, q_tupT, q_listL, q_listT, q_truB, q_truI, q_truT, q_truL, q_truN, q_bind, q_toS, q_nx, q_rt, q_bk, q_ct, q_ofO, q_noex, List.set_cons_zero, List.set_cons_succ, List.getElem?_cons_zero, List.getElem?_cons_succ, Option.map_some, Option.bind_some, List.length_cons, List.length_nil, List.map_cons, List.map_nil, Nat.reduceAdd, Nat.reduceSub, Nat.reduceLeDiff, Nat.reduceEqDiff, List.replicate_succ, List.replicate_zero, List.cons_append, List.nil_append, ↓reduceIte, if_true, if_false, Bool.false_eq_true, decide_true, decide_false, Bool.not_true, Bool.not_false, and_self, and_true, true_and, or_true, true_or, not_true_eq_false, not_false_eq_true, q_v14, q_v15, q_v16, q_v17, q_mEnum, q_kEnum, q_mZip, q_kZip, q_mRev, q_kRev, q_aStar, q_kSt, q_pNone, q_pSome, q_kPart, q_mSl, q_kSl2, q_kSl3, q_kCutT, q_kCutL, q_wkL, q_wkT, q_wkS], ?_⟩
      simp only [cut_lo, cut_hi, z, e1, q_runF, q_kFin, q_kFinN, q_mC, q_v0, q_v1, q_v2, q_v3, q_v4, q_v5, q_v6, q_v7, q_v8, q_v9, q_v10, q_v11, q_v12, q_v13, q_mOp, q_mTest, q_kB, q_kAnd, q_kOr, q_kNot, q_kNeg, q_kChT, q_kChF, q_mTru, q_tAnd, q_tOr, q_tNot, q_tYes, q_eAnd, q_eOr, q_eNot, q_mIf, q_aNil, q_aCons, q_mTup, q_mLst, q_mB, q_mCall, q_mNeg, q_mChain, q_sNil, q_sSeq, q_sExpr, q_sRet, q_sRetN, q_sBk, q_sCt, q_sIf, q_sAsg, q_kPutN, q_sBox, q_kBox, q_sApp, q_sSetI, q_sAug, q_kAug, q_kAug2, q_sFor, q_mRng1, q_kR1, q_kR2, q_mRng2, q_mIt, q_kItL, q_kItT, q_addI, q_addS, q_addT, q_addL, q_sub, q_mul, q_mod, q_fdv, q_pow, q_lt, q_le, q_gt, q_ge, q_iadd, q_isub, q_isN, q_notN, q_isNon_non, q_isNon_int, q_isNon_tup, q_isNon_lst, q_eqI, q_eqS, q_neI, q_neS, q_ixT, q_ixL, q_ixS, q_ixR0, q_int, q_intb, q_lenT, q_lenC, q_lenL, q_min, q_max, q_tupL, q_tupT, q_listL, q_listT, q_truB, q_truI, q_truT, q_truL, q_truN, q_bind, q_toS, q_nx, q_rt, q_bk, q_ct, q_ofO, q_noex, List.set_cons_zero, List.set_cons_succ, List.getElem?_cons_zero, List.getElem?_cons_succ, Option.map_some, Option.bind_some, List.length_cons, List.length_nil, List.map_cons, List.map_nil, Nat.reduceAdd, Nat.reduceSub, Nat.reduceLeDiff, Nat.reduceEqDiff, List.replicate_succ, List.replicate_zero, List.cons_append, List.nil_append, ↓reduceIte, if_true, if_false, Bool.false_eq_true, decide_true, decide_false, Bool.not_true, Bool.not_false, and_self, and_true, true_and, or_true, true_or, not_true_eq_false, not_false_eq_true, q_v14, q_v15, q_v16, q_v17, q_mEnum, q_kEnum, q_mZip, q_kZip, q_mRev, q_kRev, q_aStar, q_kSt, q_pNone, q_pSome, q_kPart, q_mSl, q_kSl2, q_kSl3, q_kCutT, q_kCutL, q_wkL, q_wkT, q_wkS])
  have ez : (pts.zipIdx.map fun q : Int × Nat => D.tup [.int (q.2 : Int), .int q.1]).length ≤ sizeLine := by rw [List.length_map, List.length_zipIdx, sz]; omega
  have ew : wipeD [some (.int p), some (itup pts), none, none] [2, 3] = [some (.int p), some (itup pts), none, none] := rfl
  have em : pts.zipIdx.map (fun q => itup (peakP p (pts.take q.2 ++ pts.drop (q.2 + 1)) q.1)) = (peaksP p pts).map itup := by unfold peaksP; rw [List.map_map]; rfl
  rw [em] at e
  simp only [F_peaks, M_peaks, q_mLC, enum_ints, ez, ew, e, q_runF, q_kFin, q_kFinN, q_mC, q_v0, q_v1, q_v2, q_v3, q_v4, q_v5, q_v6, q_v7, q_v8, q_v9, q_v10, q_v11, q_v12, q_v13, q_mOp, q_mTest, q_kB, q_kAnd, q_kOr, q_kNot, q_kNeg, q_kChT, q_kChF, q_mTru, q_tAnd, q_tOr, q_tNot, q_tYes, q_eAnd, q_eOr, q_eNot, q_mIf, q_aNil, q_aCons, q_mTup, q_mLst, q_mB, q_mCall, q_mNeg, q_mChain, q_sNil, q_sSeq, q_sExpr, q_sRet, q_sRetN, q_sBk, q_sCt, q_sIf, q_sAsg, q_kPutN, q_sBox, q_kBox, q_sApp, q_sSetI, q_sAug, q_kAug, q_kAug2, q_sFor, q_mRng1, q_kR1, q_kR2, q_mRng2, q_mIt, q_kItL, q_kItT, q_addI, q_addS, q_addT, q_addL, q_sub, q_mul, q_mod, q_fdv, q_pow, q_lt, q_le, q_gt, q_ge, q_iadd, q_isub, q_isN, q_notN, q_isNon_non, q_isNon_int, q_isNon_tup, q_isNon_lst, q_eqI, q_eqS, q_neI, q_neS, q_ixT, q_ixL, q_ixS, q_ixR0, q_int, q_intb, q_lenT, q_lenC, q_lenL, q_min, q_max, q_tupL, q_tupT, q_listL, q_listT, q_truB, q_truI, q_truT, q_truL, q_truN, q_bind, q_toS, q_nx, q_rt, q_bk, q_ct, q_ofO, q_noex, List.set_cons_zero, List.set_cons_succ, List.getElem?_cons_zero, List.getElem?_cons_succ, Option.map_some, Option.bind_some, List.length_cons, List.length_nil, List.map_cons, List.map_nil, Nat.reduceAdd, Nat.reduceSub, Nat.reduceLeDiff, Nat.reduceEqDiff, List.replicate_succ, List.replicate_zero, List.cons_append, List.nil_append, ↓reduceIte, if_true, if_false, Bool.false_eq_true, decide_true, decide_false, Bool.not_true, Bool.not_false, and_self, and_true, true_and, or_true, true_or, not_true_eq_false, not_false_eq_true, q_v14, q_v15, q_v16, q_v17, q_mEnum, q_kEnum, q_mZip, q_kZip, q_mRev, q_kRev, q_aStar, q_kSt, q_pNone, q_pSome, q_kPart, q_mSl, q_kSl2, q_kSl3, q_kCutT, q_kCutL, q_wkL, q_wkT, q_wkS]
  exact leave_same (by
    simp only [D.lo]
    rw [los_iff]
    intro d hd
    obtain ⟨f, _, rfl⟩ := List.mem_map.mp hd
    simp [D.lo])
end Zp
namespace Zp
open PySem L2 Zv PyProof.Rows Zn
theorem thruP_fold {p : Int} : ∀ (fs : List (List Int)) (vs poly : List Int), thruP p fs vs poly = (fs.zip vs).foldl (fun poly q => addP p poly (scaP p q.2 q.1)) poly
  | [], _, _ => by simp [thruP]
  | _ :: _, [], _ => by simp [thruP]
  | f :: fs, v :: vs, poly => by rw [thruP, List.zip_cons_cons, List.foldl_cons, thruP_fold fs vs]
theorem zip_polys : ∀ (fs : List (List Int)) (vs : List Int), zipD (fs.map itup) (vs.map .int) = (fs.zip vs).map fun q => .tup [itup q.1, .int q.2]
  | [], _ => by simp [zipD]
  | _ :: _, [] => by simp [zipD]
  | f :: fs, v :: vs => by rw [List.map_cons, List.map_cons, zipD, zip_polys fs vs, List.zip_cons_cons, List.map_cons]
def throughP (p : Int) (pts vs : List Int) : List Int := thruP p (peaksP p pts) vs (List.replicate pts.length 0)
theorem peaks_len {p : Int} (pts : List Int) : (peaksP p pts).length = pts.length := by unfold peaksP; rw [List.length_map, List.length_zipIdx]
theorem peaks_get {p : Int} {pts : List Int} {k : Nat} {f : List Int} (h : (peaksP p pts)[k]? = some f) : ∃ x, pts[k]? = some x ∧ f = peakP p (pts.take k ++ pts.drop (k + 1)) x := by
  unfold peaksP at h
  rw [List.getElem?_map, List.getElem?_zipIdx] at h
  cases hx : pts[k]? with
  | none => rw [hx] at h; cases h
  | some x =>
    rw [hx] at h
    simp only [Option.map_some, Option.some.injEq, Nat.zero_add] at h
    exact ⟨x, rfl, h.symm⟩
theorem peaks_size {p : Int} {pts : List Int} : ∀ f ∈ peaksP p pts, f.length = pts.length := fun f hf => by
  obtain ⟨k, hk, e⟩ := List.getElem_of_mem hf
  obtain ⟨x, h1, h2⟩ := peaks_get (p := p) (pts := pts) (k := k) (f := f) (by rw [← e]; exact List.getElem?_eq_getElem hk)
  have hk2 := (List.getElem?_eq_some_iff.mp h1).1
  rw [h2, peak_len, List.length_append, List.length_take, List.length_drop]
  omega
theorem peaks_low {p : Int} {pts : List Int} (hp : 0 < p) : ∀ f ∈ peaksP p pts, lowP p f := fun f hf => by
  unfold peaksP at hf
  obtain ⟨q, _, rfl⟩ := List.mem_map.mp hf
  exact low_sca hp _ _
theorem thru_sz {p : Int} {n : Nat} : ∀ (as : List ((List Int) × Int)) (poly : List Int), (∀ q ∈ as, q.1.length = n) → poly.length = n → (as.foldl (fun poly q => addP p poly (scaP p q.2 q.1)) poly).length = n
  | [], poly, _, h => h
  | q :: as, poly, h1, h => thru_sz as _ (fun r hr => h1 r (List.mem_cons_of_mem _ hr)) (by rw [addP_len, scaP_len, h, h1 q List.mem_cons_self]; simp)
theorem through_is {p : Int} {pts vs : List Int} (hp : 2 ≤ p) (hp2 : p < 2 ^ 32) (hr : lowP p pts) (h0 : 0 < pts.length) (hl : pts.length ≤ 1000) (hv : lowP p vs) {st : Store} : F_through [.int p, itup pts, itup vs] st = .ok (itup (throughP p pts vs)) st := by
  have hp0 : 0 < p := by omega
  have ek := peaks_is hp hp2 hr hl (st := st)
  have z1 : 1 ≤ sizeLine := by rw [sz]; omega
  have er := q_repT (st := st) (xs := [D.int 0]) (k := (pts.length : Int)) (by simp) (by omega) (by omega) (by simp)
  have ez : (List.replicate ((pts.length : Nat) : Int).toNat [D.int 0]).flatten = (List.replicate pts.length (0 : Int)).map .int := by
    rw [Int.toNat_natCast, List.map_replicate]
    induction pts.length with
    | zero => rfl
    | succ n ih => rw [List.replicate_succ, List.flatten_cons, ih, List.replicate_succ]; rfl
  rw [ez] at er
  obtain ⟨v', e, _⟩ := forL_fold (t := .tp [.nm 4, .nm 5]) (body := B_through1) (P := Held []) (st := st) trivial (fun q : (List Int) × Int => .tup [itup q.1, .int q.2]) (fun poly q => addP p poly (scaP p q.2 q.1)) (fun poly (v : Option D × Option D) => [some (.int p), some (itup pts), some (itup vs), some (itup poly), v.1, v.2]) (fun _ poly => poly.length = pts.length) ((peaksP p pts).zip vs) 0 (List.replicate pts.length 0) (none, none)
    (fun j a s v _ _ ha hs => by
      have hm := List.of_mem_zip (show (a.1, a.2) ∈ (peaksP p pts).zip vs from ha)
      have hf := peaks_size a.1 hm.1
      have hb := hv a.2 hm.2
      have e1 := scaled_is (p := p) (c := a.2) (xs := a.1) hp0 (by constructor <;> omega) (by omega) (st := st)
      have e2 := added_is (p := p) (xs := s) (ys := scaP p a.2 a.1) hp0 (by omega) (st := st)
      refine ⟨[some (.int p), some (itup pts), some (itup vs), some (itup s), some (itup a.1), some (.int a.2)], rfl, ⟨(some (itup a.1), some (.int a.2)), ?_⟩, by rw [addP_len, scaP_len, hs, hf]; simp⟩
      simp only [B_through1, e1, e2, q_runF, q_kFin, q_kFinN, q_mC, q_v0, q_v1, q_v2, q_v3, q_v4, q_v5, q_v6, q_v7, q_v8, q_v9, q_v10, q_v11, q_v12, q_v13, q_mOp, q_mTest, q_kB, q_kAnd, q_kOr, q_kNot, q_kNeg, q_kChT, q_kChF, q_mTru, q_tAnd, q_tOr, q_tNot, q_tYes, q_eAnd, q_eOr, q_eNot, q_mIf, q_aNil, q_aCons, q_mTup, q_mLst, q_mB, q_mCall, q_mNeg, q_mChain, q_sNil, q_sSeq, q_sExpr, q_sRet, q_sRetN, q_sBk, q_sCt, q_sIf, q_sAsg, q_kPutN, q_sBox, q_kBox, q_sApp, q_sSetI, q_sAug, q_kAug, q_kAug2, q_sFor, q_mRng1, q_kR1, q_kR2, q_mRng2, q_mIt, q_kItL, q_kItT, q_addI, q_addS, q_addT, q_addL, q_sub, q_mul, q_mod, q_fdv, q_pow, q_lt, q_le, q_gt, q_ge, q_iadd, q_isub, q_isN, q_notN, q_isNon_non, q_isNon_int, q_isNon_tup, q_isNon_lst, q_eqI, q_eqS, q_neI, q_neS, q_ixT, q_ixL, q_ixS, q_ixR0, q_int, q_intb, q_lenT, q_lenC, q_lenL, q_min, q_max, q_tupL, q_tupT, q_listL, q_listT, q_truB, q_truI, q_truT, q_truL, q_truN, q_bind, q_toS, q_nx, q_rt, q_bk, q_ct, q_ofO, q_noex, List.set_cons_zero, List.set_cons_succ, List.getElem?_cons_zero, List.getElem?_cons_succ, Option.map_some, Option.bind_some, List.length_cons, List.length_nil, List.map_cons, List.map_nil, Nat.reduceAdd, Nat.reduceSub, Nat.reduceLeDiff, Nat.reduceEqDiff, List.replicate_succ, List.replicate_zero, List.cons_append, List.nil_append, ↓reduceIte, if_true, if_false, Bool.false_eq_true, decide_true, decide_false, Bool.not_true, Bool.not_false, and_self, and_true, true_and, or_true, true_or, not_true_eq_false, not_false_eq_true, q_v14, q_v15, q_v16, q_v17, q_mEnum, q_kEnum, q_mZip, q_kZip, q_mRev, q_kRev, q_aStar, q_kSt, q_pNone, q_pSome, q_kPart, q_mSl, q_kSl2, q_kSl3, q_kCutT, q_kCutL, q_wkL, q_wkT, q_wkS]) (by simp)
  rw [← thruP_fold] at e
  have et : thruP p (peaksP p pts) vs (List.replicate pts.length 0) = throughP p pts vs := rfl
  rw [et] at e
  simp only [F_through, M_through, z1, List.length_map, er, ek, zip_polys, e, q_runF, q_kFin, q_kFinN, q_mC, q_v0, q_v1, q_v2, q_v3, q_v4, q_v5, q_v6, q_v7, q_v8, q_v9, q_v10, q_v11, q_v12, q_v13, q_mOp, q_mTest, q_kB, q_kAnd, q_kOr, q_kNot, q_kNeg, q_kChT, q_kChF, q_mTru, q_tAnd, q_tOr, q_tNot, q_tYes, q_eAnd, q_eOr, q_eNot, q_mIf, q_aNil, q_aCons, q_mTup, q_mLst, q_mB, q_mCall, q_mNeg, q_mChain, q_sNil, q_sSeq, q_sExpr, q_sRet, q_sRetN, q_sBk, q_sCt, q_sIf, q_sAsg, q_kPutN, q_sBox, q_kBox, q_sApp, q_sSetI, q_sAug, q_kAug, q_kAug2, q_sFor, q_mRng1, q_kR1, q_kR2, q_mRng2, q_mIt, q_kItL, q_kItT, q_addI, q_addS, q_addT, q_addL, q_sub, q_mul, q_mod, q_fdv, q_pow, q_lt, q_le, q_gt, q_ge, q_iadd, q_isub, q_isN, q_notN, q_isNon_non, q_isNon_int, q_isNon_tup, q_isNon_lst, q_eqI, q_eqS, q_neI, q_neS, q_ixT, q_ixL, q_ixS, q_ixR0, q_int, q_intb, q_lenT, q_lenC, q_lenL, q_min, q_max, q_tupL, q_tupT, q_listL, q_listT, q_truB, q_truI, q_truT, q_truL, q_truN, q_bind, q_toS, q_nx, q_rt, q_bk, q_ct, q_ofO, q_noex, List.set_cons_zero, List.set_cons_succ, List.getElem?_cons_zero, List.getElem?_cons_succ, Option.map_some, Option.bind_some, List.length_cons, List.length_nil, List.map_cons, List.map_nil, Nat.reduceAdd, Nat.reduceSub, Nat.reduceLeDiff, Nat.reduceEqDiff, List.replicate_succ, List.replicate_zero, List.cons_append, List.nil_append, ↓reduceIte, if_true, if_false, Bool.false_eq_true, decide_true, decide_false, Bool.not_true, Bool.not_false, and_self, and_true, true_and, or_true, true_or, not_true_eq_false, not_false_eq_true, q_v14, q_v15, q_v16, q_v17, q_mEnum, q_kEnum, q_mZip, q_kZip, q_mRev, q_kRev, q_aStar, q_kSt, q_pNone, q_pSome, q_kPart, q_mSl, q_kSl2, q_kSl3, q_kCutT, q_kCutL, q_wkL, q_wkT, q_wkS]
  exact leave_same (by simp [D.lo])
def weightsP (p : Int) (pts : List Int) (x : Int) : List Int := (peaksP p pts).map (valP p x)
theorem weights_is {p x : Int} {pts : List Int} (hp : 2 ≤ p) (hp2 : p < 2 ^ 32) (hr : lowP p pts) (hl : pts.length ≤ 1000) {st : Store} : F_weights [.int p, itup pts, .int x] st = .ok (itup (weightsP p pts x)) st := by
  have hp0 : 0 < p := by omega
  have ek := peaks_is hp hp2 hr hl (st := st)
  have e := lcL_map (t := .nm 3) (tt := tYes) (elt := mCall 3 F_value_at (aCons (mVar 0) (aCons (mVar 3) (aCons (mVar 2) aNil)))) (P := Held []) (es := [some (.int p), some (itup pts), some (.int x), none]) (st := st) trivial itup (fun f => .int (valP p x f)) (peaksP p pts)
    (fun f _ => by
      have e1 := value_at_is (p := p) (x := x) (poly := f) hp0 (by omega) (st := st)
      exact ⟨[some (.int p), some (itup pts), some (.int x), some (itup f)], rfl, by simp only [q_runF, q_kFin, q_kFinN, q_mC, q_v0, q_v1, q_v2, q_v3, q_v4, q_v5, q_v6, q_v7, q_v8, q_v9, q_v10, q_v11, q_v12, q_v13, q_mOp, q_mTest, q_kB, q_kAnd, q_kOr, q_kNot, q_kNeg, q_kChT, q_kChF, q_mTru, q_tAnd, q_tOr, q_tNot, q_tYes, q_eAnd, q_eOr, q_eNot, q_mIf, q_aNil, q_aCons, q_mTup, q_mLst, q_mB, q_mCall, q_mNeg, q_mChain, q_sNil, q_sSeq, q_sExpr, q_sRet, q_sRetN, q_sBk, q_sCt, q_sIf, q_sAsg, q_kPutN, q_sBox, q_kBox, q_sApp, q_sSetI, q_sAug, q_kAug, q_kAug2, q_sFor, q_mRng1, q_kR1, q_kR2, q_mRng2, q_mIt, q_kItL, q_kItT, q_addI, q_addS, q_addT, q_addL, q_sub, q_mul, q_mod, q_fdv, q_pow, q_lt, q_le, q_gt, q_ge, q_iadd, q_isub, q_isN, q_notN, q_isNon_non, q_isNon_int, q_isNon_tup, q_isNon_lst, q_eqI, q_eqS, q_neI, q_neS, q_ixT, q_ixL, q_ixS, q_ixR0, q_int, q_intb, q_lenT, q_lenC, q_lenL, q_min, q_max, q_tupL, q_tupT, q_listL, q_listT, q_truB, q_truI, q_truT, q_truL, q_truN, q_bind, q_toS, q_nx, q_rt, q_bk, q_ct, q_ofO, q_noex, List.set_cons_zero, List.set_cons_succ, List.getElem?_cons_zero, List.getElem?_cons_succ, Option.map_some, Option.bind_some, List.length_cons, List.length_nil, List.map_cons, List.map_nil, Nat.reduceAdd, Nat.reduceSub, Nat.reduceLeDiff, Nat.reduceEqDiff, List.replicate_succ, List.replicate_zero, List.cons_append, List.nil_append, ↓reduceIte, if_true, if_false, Bool.false_eq_true, decide_true, decide_false, Bool.not_true, Bool.not_false, and_self, and_true, true_and, or_true, true_or, not_true_eq_false, not_false_eq_true, q_v14, q_v15, q_v16, q_v17, q_mEnum, q_kEnum, q_mZip, q_kZip, q_mRev, q_kRev, q_aStar, q_kSt, q_pNone, q_pSome, q_kPart, q_mSl, q_kSl2, q_kSl3, q_kCutT, q_kCutL, q_wkL, q_wkT, q_wkS], by simp only [e1, q_runF, q_kFin, q_kFinN, q_mC, q_v0, q_v1, q_v2, q_v3, q_v4, q_v5, q_v6, q_v7, q_v8, q_v9, q_v10, q_v11, q_v12, q_v13, q_mOp, q_mTest, q_kB, q_kAnd, q_kOr, q_kNot, q_kNeg, q_kChT, q_kChF, q_mTru, q_tAnd, q_tOr, q_tNot, q_tYes, q_eAnd, q_eOr, q_eNot, q_mIf, q_aNil, q_aCons, q_mTup, q_mLst, q_mB, q_mCall, q_mNeg, q_mChain, q_sNil, q_sSeq, q_sExpr, q_sRet, q_sRetN, q_sBk, q_sCt, q_sIf, q_sAsg, q_kPutN, q_sBox, q_kBox, q_sApp, q_sSetI, q_sAug, q_kAug, q_kAug2, q_sFor, q_mRng1, q_kR1, q_kR2, q_mRng2, q_mIt, q_kItL, q_kItT, q_addI, q_addS, q_addT, q_addL, q_sub, q_mul, q_mod, q_fdv, q_pow, q_lt, q_le, q_gt, q_ge, q_iadd, q_isub, q_isN, q_notN, q_isNon_non, q_isNon_int, q_isNon_tup, q_isNon_lst, q_eqI, q_eqS, q_neI, q_neS, q_ixT, q_ixL, q_ixS, q_ixR0, q_int, q_intb, q_lenT, q_lenC, q_lenL, q_min, q_max, q_tupL, q_tupT, q_listL, q_listT, q_truB, q_truI, q_truT, q_truL, q_truN, q_bind, q_toS, q_nx, q_rt, q_bk, q_ct, q_ofO, q_noex, List.set_cons_zero, List.set_cons_succ, List.getElem?_cons_zero, List.getElem?_cons_succ, Option.map_some, Option.bind_some, List.length_cons, List.length_nil, List.map_cons, List.map_nil, Nat.reduceAdd, Nat.reduceSub, Nat.reduceLeDiff, Nat.reduceEqDiff, List.replicate_succ, List.replicate_zero, List.cons_append, List.nil_append, ↓reduceIte, if_true, if_false, Bool.false_eq_true, decide_true, decide_false, Bool.not_true, Bool.not_false, and_self, and_true, true_and, or_true, true_or, not_true_eq_false, not_false_eq_true, q_v14, q_v15, q_v16, q_v17, q_mEnum, q_kEnum, q_mZip, q_kZip, q_mRev, q_kRev, q_aStar, q_kSt, q_pNone, q_pSome, q_kPart, q_mSl, q_kSl2, q_kSl3, q_kCutT, q_kCutL, q_wkL, q_wkT, q_wkS]⟩)
  have ez : ((peaksP p pts).map itup).length ≤ sizeLine := by rw [List.length_map, peaks_len, sz]; omega
  have ew : wipeD [some (.int p), some (itup pts), some (.int x), none] [3] = [some (.int p), some (itup pts), some (.int x), none] := rfl
  have em : (peaksP p pts).map (fun f => D.int (valP p x f)) = (weightsP p pts x).map .int := by unfold weightsP; rw [List.map_map]; rfl
  rw [em] at e
  simp only [F_weights, M_weights, q_mLC, ek, ez, ew, e, q_runF, q_kFin, q_kFinN, q_mC, q_v0, q_v1, q_v2, q_v3, q_v4, q_v5, q_v6, q_v7, q_v8, q_v9, q_v10, q_v11, q_v12, q_v13, q_mOp, q_mTest, q_kB, q_kAnd, q_kOr, q_kNot, q_kNeg, q_kChT, q_kChF, q_mTru, q_tAnd, q_tOr, q_tNot, q_tYes, q_eAnd, q_eOr, q_eNot, q_mIf, q_aNil, q_aCons, q_mTup, q_mLst, q_mB, q_mCall, q_mNeg, q_mChain, q_sNil, q_sSeq, q_sExpr, q_sRet, q_sRetN, q_sBk, q_sCt, q_sIf, q_sAsg, q_kPutN, q_sBox, q_kBox, q_sApp, q_sSetI, q_sAug, q_kAug, q_kAug2, q_sFor, q_mRng1, q_kR1, q_kR2, q_mRng2, q_mIt, q_kItL, q_kItT, q_addI, q_addS, q_addT, q_addL, q_sub, q_mul, q_mod, q_fdv, q_pow, q_lt, q_le, q_gt, q_ge, q_iadd, q_isub, q_isN, q_notN, q_isNon_non, q_isNon_int, q_isNon_tup, q_isNon_lst, q_eqI, q_eqS, q_neI, q_neS, q_ixT, q_ixL, q_ixS, q_ixR0, q_int, q_intb, q_lenT, q_lenC, q_lenL, q_min, q_max, q_tupL, q_tupT, q_listL, q_listT, q_truB, q_truI, q_truT, q_truL, q_truN, q_bind, q_toS, q_nx, q_rt, q_bk, q_ct, q_ofO, q_noex, List.set_cons_zero, List.set_cons_succ, List.getElem?_cons_zero, List.getElem?_cons_succ, Option.map_some, Option.bind_some, List.length_cons, List.length_nil, List.map_cons, List.map_nil, Nat.reduceAdd, Nat.reduceSub, Nat.reduceLeDiff, Nat.reduceEqDiff, List.replicate_succ, List.replicate_zero, List.cons_append, List.nil_append, ↓reduceIte, if_true, if_false, Bool.false_eq_true, decide_true, decide_false, Bool.not_true, Bool.not_false, and_self, and_true, true_and, or_true, true_or, not_true_eq_false, not_false_eq_true, q_v14, q_v15, q_v16, q_v17, q_mEnum, q_kEnum, q_mZip, q_kZip, q_mRev, q_kRev, q_aStar, q_kSt, q_pNone, q_pSome, q_kPart, q_mSl, q_kSl2, q_kSl3, q_kCutT, q_kCutL, q_wkL, q_wkT, q_wkS]
  exact leave_same (by simp [D.lo])
theorem veil_is {p : Int} {pts : List Int} (hp : 2 ≤ p) (hp2 : p < 2 ^ 32) (hr : lowP p pts) (hl : pts.length ≤ 1000) {st : Store} : F_veil [.int p, itup pts] st = .ok (itup (peakP p pts 0)) st := by
  have e := peak_is (p := p) (x := 0) (roots := pts) hp hp2 hr hl (st := st)
  simp only [F_veil, M_veil, e, q_runF, q_kFin, q_kFinN, q_mC, q_v0, q_v1, q_v2, q_v3, q_v4, q_v5, q_v6, q_v7, q_v8, q_v9, q_v10, q_v11, q_v12, q_v13, q_mOp, q_mTest, q_kB, q_kAnd, q_kOr, q_kNot, q_kNeg, q_kChT, q_kChF, q_mTru, q_tAnd, q_tOr, q_tNot, q_tYes, q_eAnd, q_eOr, q_eNot, q_mIf, q_aNil, q_aCons, q_mTup, q_mLst, q_mB, q_mCall, q_mNeg, q_mChain, q_sNil, q_sSeq, q_sExpr, q_sRet, q_sRetN, q_sBk, q_sCt, q_sIf, q_sAsg, q_kPutN, q_sBox, q_kBox, q_sApp, q_sSetI, q_sAug, q_kAug, q_kAug2, q_sFor, q_mRng1, q_kR1, q_kR2, q_mRng2, q_mIt, q_kItL, q_kItT, q_addI, q_addS, q_addT, q_addL, q_sub, q_mul, q_mod, q_fdv, q_pow, q_lt, q_le, q_gt, q_ge, q_iadd, q_isub, q_isN, q_notN, q_isNon_non, q_isNon_int, q_isNon_tup, q_isNon_lst, q_eqI, q_eqS, q_neI, q_neS, q_ixT, q_ixL, q_ixS, q_ixR0, q_int, q_intb, q_lenT, q_lenC, q_lenL, q_min, q_max, q_tupL, q_tupT, q_listL, q_listT, q_truB, q_truI, q_truT, q_truL, q_truN, q_bind, q_toS, q_nx, q_rt, q_bk, q_ct, q_ofO, q_noex, List.set_cons_zero, List.set_cons_succ, List.getElem?_cons_zero, List.getElem?_cons_succ, Option.map_some, Option.bind_some, List.length_cons, List.length_nil, List.map_cons, List.map_nil, Nat.reduceAdd, Nat.reduceSub, Nat.reduceLeDiff, Nat.reduceEqDiff, List.replicate_succ, List.replicate_zero, List.cons_append, List.nil_append, ↓reduceIte, if_true, if_false, Bool.false_eq_true, decide_true, decide_false, Bool.not_true, Bool.not_false, and_self, and_true, true_and, or_true, true_or, not_true_eq_false, not_false_eq_true, q_v14, q_v15, q_v16, q_v17, q_mEnum, q_kEnum, q_mZip, q_kZip, q_mRev, q_kRev, q_aStar, q_kSt, q_pNone, q_pSome, q_kPart, q_mSl, q_kSl2, q_kSl3, q_kCutT, q_kCutL, q_wkL, q_wkT, q_wkS]
  exact leave_same (by simp [D.lo])
/-! ## the law's own helpers -/
theorem lat_fold {p x : Int} (hp : 0 < p) : ∀ (cs : List Int) (t w : Int), 0 ≤ t → t < p → E p (cs.foldl (fun (s : Int × Int) c => ((s.1 + c * s.2) % p, s.2 * x % p)) (t, w)).1 (t + w * ev x cs) ∧ 0 ≤ (cs.foldl (fun (s : Int × Int) c => ((s.1 + c * s.2) % p, s.2 * x % p)) (t, w)).1 ∧ (cs.foldl (fun (s : Int × Int) c => ((s.1 + c * s.2) % p, s.2 * x % p)) (t, w)).1 < p
  | [], t, w, h1, h2 => ⟨E.of_eq (by simp [ev]), h1, h2⟩
  | c :: cs, t, w, h1, h2 => by
    obtain ⟨a, b, d⟩ := lat_fold hp cs ((t + c * w) % p) (w * x % p) (Int.emod_nonneg _ (by omega)) (Int.emod_lt_of_pos _ hp)
    refine ⟨?_, b, d⟩
    refine a.trans ((E.add E.md (E.mul E.md E.rfl')).trans (E.of_eq ?_))
    rw [ev, Int.mul_add, Int.mul_comm c w, Int.mul_assoc w x, Int.mul_comm x]
    omega
theorem lat_is {p x : Int} {poly : List Int} (hp : 2 ≤ p) (hp2 : p < 2 ^ 64) {st : Store} : F__law_at [.int p, itup poly, .int x] st = .ok (.int (ev x poly % p)) st := by
  have hp0 : 0 < p := by omega
  obtain ⟨v', e, _⟩ := forL_fold (t := .nm 5) (body := B__law_at1) (P := Held []) (st := st) trivial D.int (fun (s : Int × Int) c => ((s.1 + c * s.2) % p, s.2 * x % p)) (fun s v => [some (.int p), some (itup poly), some (.int x), some (.int s.1), some (.int s.2), v]) (fun _ s => 0 ≤ s.2 ∧ s.2 < p) poly 0 (0, 1) none
    (fun j a s v _ _ _ hs => by
      have hb : -(2 ^ 64) < s.2 ∧ s.2 < 2 ^ 64 := by constructor <;> omega
      refine ⟨_, rfl, ⟨some (.int a), ?_⟩, Int.emod_nonneg _ (by omega), Int.emod_lt_of_pos _ hp0⟩
      simp only [B__law_at1, hp0, hb, q_runF, q_kFin, q_kFinN, q_mC, q_v0, q_v1, q_v2, q_v3, q_v4, q_v5, q_v6, q_v7, q_v8, q_v9, q_v10, q_v11, q_v12, q_v13, q_mOp, q_mTest, q_kB, q_kAnd, q_kOr, q_kNot, q_kNeg, q_kChT, q_kChF, q_mTru, q_tAnd, q_tOr, q_tNot, q_tYes, q_eAnd, q_eOr, q_eNot, q_mIf, q_aNil, q_aCons, q_mTup, q_mLst, q_mB, q_mCall, q_mNeg, q_mChain, q_sNil, q_sSeq, q_sExpr, q_sRet, q_sRetN, q_sBk, q_sCt, q_sIf, q_sAsg, q_kPutN, q_sBox, q_kBox, q_sApp, q_sSetI, q_sAug, q_kAug, q_kAug2, q_sFor, q_mRng1, q_kR1, q_kR2, q_mRng2, q_mIt, q_kItL, q_kItT, q_addI, q_addS, q_addT, q_addL, q_sub, q_mul, q_mod, q_fdv, q_pow, q_lt, q_le, q_gt, q_ge, q_iadd, q_isub, q_isN, q_notN, q_isNon_non, q_isNon_int, q_isNon_tup, q_isNon_lst, q_eqI, q_eqS, q_neI, q_neS, q_ixT, q_ixL, q_ixS, q_ixR0, q_int, q_intb, q_lenT, q_lenC, q_lenL, q_min, q_max, q_tupL, q_tupT, q_listL, q_listT, q_truB, q_truI, q_truT, q_truL, q_truN, q_bind, q_toS, q_nx, q_rt, q_bk, q_ct, q_ofO, q_noex, List.set_cons_zero, List.set_cons_succ, List.getElem?_cons_zero, List.getElem?_cons_succ, Option.map_some, Option.bind_some, List.length_cons, List.length_nil, List.map_cons, List.map_nil, Nat.reduceAdd, Nat.reduceSub, Nat.reduceLeDiff, Nat.reduceEqDiff, List.replicate_succ, List.replicate_zero, List.cons_append, List.nil_append, ↓reduceIte, if_true, if_false, Bool.false_eq_true, decide_true, decide_false, Bool.not_true, Bool.not_false, and_self, and_true, true_and, or_true, true_or, not_true_eq_false, not_false_eq_true, q_v14, q_v15, q_v16, q_v17, q_mEnum, q_kEnum, q_mZip, q_kZip, q_mRev, q_kRev, q_aStar, q_kSt, q_pNone, q_pSome, q_kPart, q_mSl, q_kSl2, q_kSl3, q_kCutT, q_kCutL, q_wkL, q_wkT, q_wkS]) ⟨by show (0 : Int) ≤ 1; decide, by show (1 : Int) < p; omega⟩
  obtain ⟨h1, h2, h3⟩ := lat_fold (p := p) (x := x) hp0 poly 0 1 (Int.le_refl _) hp0
  have h4 : (poly.foldl (fun (s : Int × Int) c => ((s.1 + c * s.2) % p, s.2 * x % p)) (0, 1)).1 = ev x poly % p := by
    refine E.eq (h1.trans ((E.of_eq (by rw [Int.one_mul, Int.zero_add])).trans E.md.symm)) h2 h3 (Int.emod_nonneg _ (by omega)) (Int.emod_lt_of_pos _ hp0)
  rw [h4] at e
  simp only [F__law_at, M__law_at, e, q_runF, q_kFin, q_kFinN, q_mC, q_v0, q_v1, q_v2, q_v3, q_v4, q_v5, q_v6, q_v7, q_v8, q_v9, q_v10, q_v11, q_v12, q_v13, q_mOp, q_mTest, q_kB, q_kAnd, q_kOr, q_kNot, q_kNeg, q_kChT, q_kChF, q_mTru, q_tAnd, q_tOr, q_tNot, q_tYes, q_eAnd, q_eOr, q_eNot, q_mIf, q_aNil, q_aCons, q_mTup, q_mLst, q_mB, q_mCall, q_mNeg, q_mChain, q_sNil, q_sSeq, q_sExpr, q_sRet, q_sRetN, q_sBk, q_sCt, q_sIf, q_sAsg, q_kPutN, q_sBox, q_kBox, q_sApp, q_sSetI, q_sAug, q_kAug, q_kAug2, q_sFor, q_mRng1, q_kR1, q_kR2, q_mRng2, q_mIt, q_kItL, q_kItT, q_addI, q_addS, q_addT, q_addL, q_sub, q_mul, q_mod, q_fdv, q_pow, q_lt, q_le, q_gt, q_ge, q_iadd, q_isub, q_isN, q_notN, q_isNon_non, q_isNon_int, q_isNon_tup, q_isNon_lst, q_eqI, q_eqS, q_neI, q_neS, q_ixT, q_ixL, q_ixS, q_ixR0, q_int, q_intb, q_lenT, q_lenC, q_lenL, q_min, q_max, q_tupL, q_tupT, q_listL, q_listT, q_truB, q_truI, q_truT, q_truL, q_truN, q_bind, q_toS, q_nx, q_rt, q_bk, q_ct, q_ofO, q_noex, List.set_cons_zero, List.set_cons_succ, List.getElem?_cons_zero, List.getElem?_cons_succ, Option.map_some, Option.bind_some, List.length_cons, List.length_nil, List.map_cons, List.map_nil, Nat.reduceAdd, Nat.reduceSub, Nat.reduceLeDiff, Nat.reduceEqDiff, List.replicate_succ, List.replicate_zero, List.cons_append, List.nil_append, ↓reduceIte, if_true, if_false, Bool.false_eq_true, decide_true, decide_false, Bool.not_true, Bool.not_false, and_self, and_true, true_and, or_true, true_or, not_true_eq_false, not_false_eq_true, q_v14, q_v15, q_v16, q_v17, q_mEnum, q_kEnum, q_mZip, q_kZip, q_mRev, q_kRev, q_aStar, q_kSt, q_pNone, q_pSome, q_kPart, q_mSl, q_kSl2, q_kSl3, q_kCutT, q_kCutL, q_wkL, q_wkT, q_wkS]
  exact leave_same (by simp [D.lo])
theorem linv_is {p a : Int} (hp : 2 ≤ p) (hp2 : p < 2 ^ 32) {st : Store} : F__law_inverse [.int p, .int a] st = .ok (.int (invP p (a % p))) st := by
  have hp0 : 0 < p := by omega
  have e : p - 2 = (((p - 2).toNat : Nat) : Int) := by rw [Int.toNat_of_nonneg (by omega)]
  have h := raised_is (p := p) (a := a % p) (k := (p - 2).toNat) hp hp2 (Int.emod_nonneg _ (by omega)) (Int.emod_lt_of_pos _ hp0) (by omega) (st := st)
  rw [← e] at h
  simp only [F__law_inverse, M__law_inverse, hp0, h, q_runF, q_kFin, q_kFinN, q_mC, q_v0, q_v1, q_v2, q_v3, q_v4, q_v5, q_v6, q_v7, q_v8, q_v9, q_v10, q_v11, q_v12, q_v13, q_mOp, q_mTest, q_kB, q_kAnd, q_kOr, q_kNot, q_kNeg, q_kChT, q_kChF, q_mTru, q_tAnd, q_tOr, q_tNot, q_tYes, q_eAnd, q_eOr, q_eNot, q_mIf, q_aNil, q_aCons, q_mTup, q_mLst, q_mB, q_mCall, q_mNeg, q_mChain, q_sNil, q_sSeq, q_sExpr, q_sRet, q_sRetN, q_sBk, q_sCt, q_sIf, q_sAsg, q_kPutN, q_sBox, q_kBox, q_sApp, q_sSetI, q_sAug, q_kAug, q_kAug2, q_sFor, q_mRng1, q_kR1, q_kR2, q_mRng2, q_mIt, q_kItL, q_kItT, q_addI, q_addS, q_addT, q_addL, q_sub, q_mul, q_mod, q_fdv, q_pow, q_lt, q_le, q_gt, q_ge, q_iadd, q_isub, q_isN, q_notN, q_isNon_non, q_isNon_int, q_isNon_tup, q_isNon_lst, q_eqI, q_eqS, q_neI, q_neS, q_ixT, q_ixL, q_ixS, q_ixR0, q_int, q_intb, q_lenT, q_lenC, q_lenL, q_min, q_max, q_tupL, q_tupT, q_listL, q_listT, q_truB, q_truI, q_truT, q_truL, q_truN, q_bind, q_toS, q_nx, q_rt, q_bk, q_ct, q_ofO, q_noex, List.set_cons_zero, List.set_cons_succ, List.getElem?_cons_zero, List.getElem?_cons_succ, Option.map_some, Option.bind_some, List.length_cons, List.length_nil, List.map_cons, List.map_nil, Nat.reduceAdd, Nat.reduceSub, Nat.reduceLeDiff, Nat.reduceEqDiff, List.replicate_succ, List.replicate_zero, List.cons_append, List.nil_append, ↓reduceIte, if_true, if_false, Bool.false_eq_true, decide_true, decide_false, Bool.not_true, Bool.not_false, and_self, and_true, true_and, or_true, true_or, not_true_eq_false, not_false_eq_true, q_v14, q_v15, q_v16, q_v17, q_mEnum, q_kEnum, q_mZip, q_kZip, q_mRev, q_kRev, q_aStar, q_kSt, q_pNone, q_pSome, q_kPart, q_mSl, q_kSl2, q_kSl3, q_kCutT, q_kCutL, q_wkL, q_wkT, q_wkS]
  exact leave_same (by simp [D.lo])
def stepW (p x one : Int) (s : Int × Int) (o : Int) : Int × Int := if o = one then s else (s.1 * (x - o) % p, s.2 * (one - o) % p)
theorem stepW_fold {p x one : Int} (hp : 0 < p) : ∀ (os : List Int) (s : Int × Int), 0 ≤ s.1 → s.1 < p → 0 ≤ s.2 → s.2 < p → E p (os.foldl (stepW p x one) s).1 (s.1 * dif x (os.filter fun o => decide (o ≠ one))) ∧ E p (os.foldl (stepW p x one) s).2 (s.2 * dif one (os.filter fun o => decide (o ≠ one))) ∧
    0 ≤ (os.foldl (stepW p x one) s).1 ∧ (os.foldl (stepW p x one) s).1 < p ∧ 0 ≤ (os.foldl (stepW p x one) s).2 ∧ (os.foldl (stepW p x one) s).2 < p
  | [], s, a, b, c, d => ⟨E.of_eq (by simp [dif]), E.of_eq (by simp [dif]), a, b, c, d⟩
  | o :: os, s, a, b, c, d => by
    by_cases h : o = one
    · have e1 : stepW p x one s o = s := if_pos h
      rw [List.foldl_cons, e1]
      have e2 : (o :: os).filter (fun o => decide (o ≠ one)) = os.filter fun o => decide (o ≠ one) := by simp [List.filter_cons, h]
      rw [e2]
      exact stepW_fold hp os s a b c d
    · have e1 : stepW p x one s o = (s.1 * (x - o) % p, s.2 * (one - o) % p) := if_neg h
      rw [List.foldl_cons, e1]
      have e2 : (o :: os).filter (fun o => decide (o ≠ one)) = o :: os.filter fun o => decide (o ≠ one) := by simp [List.filter_cons, h]
      rw [e2]
      obtain ⟨q1, q2, q3⟩ := stepW_fold hp os (s.1 * (x - o) % p, s.2 * (one - o) % p) (Int.emod_nonneg _ (by omega)) (Int.emod_lt_of_pos _ hp) (Int.emod_nonneg _ (by omega)) (Int.emod_lt_of_pos _ hp)
      refine ⟨q1.trans ((E.mul E.md E.rfl').trans (E.of_eq ?_)), q2.trans ((E.mul E.md E.rfl').trans (E.of_eq ?_)), q3⟩
      · rw [dif, Int.mul_assoc]
      · rw [dif, Int.mul_assoc]
def lweight (p x : Int) (pts : List Int) (one : Int) : Int := dif x (pts.filter fun o => decide (o ≠ one)) * invP p (dif one (pts.filter fun o => decide (o ≠ one)) % p) % p
end Zp
namespace Zp
open PySem L2 Zv PyProof.Rows Zn
theorem at_app {st more : Store} {n : Nat} {c : Cell} (h : st[n]? = some c) : (st ++ more)[n]? = some c := by
  rw [List.getElem?_append_left (List.getElem?_eq_some_iff.mp h).1]
  exact h
theorem lweights_is {p x : Int} {pts : List Int} {n : Nat} (hp : 2 ≤ p) (hp2 : p < 2 ^ 32) (hl : pts.length ≤ 1000) {st : Store} (h : st[n]? = some (.lst (pts.map .int))) :
    F__law_weights [.int p, .ref n, .int x] st = .ok (.lst ((pts.map (lweight p x pts)).map .int)) st := by
  have hp0 : 0 < p := by omega
  obtain ⟨es', st', e, o4, o5, o6, o7, rfl, rfl⟩ := forL_rule (t := .nm 4) (body := B__law_weights2) (P := Held [(n, pts.map .int)])
    (fun i es s => ∃ (o4 o5 o6 o7 : Option D), es = [some (.int p), some (.ref n), some (.int x), some (.ref st.length), o4, o5, o6, o7] ∧ s = st ++ [.lst (((pts.take i).map (lweight p x pts)).map .int)])
    (pts.map .int) 0 [some (.int p), some (.ref n), some (.int x), some (.ref st.length), none, none, none, none] (st ++ [.lst []]) (by
      rintro j d es s hj ⟨o4, o5, o6, o7, rfl, rfl⟩
      rw [Nat.zero_add]
      rw [List.getElem?_map] at hj
      obtain ⟨one, h1, rfl⟩ := Option.map_eq_some_iff.mp hj
      have hn := at_app (more := [.lst (((pts.take j).map (lweight p x pts)).map .int)]) h
      have hh : Held [(n, pts.map D.int)] (st ++ [.lst (((pts.take j).map (lweight p x pts)).map .int)]) := ⟨hn, trivial⟩
      refine ⟨hh, _, rfl, ?_⟩
      obtain ⟨v', e1, _⟩ := forL_fold (t := .nm 7) (body := B__law_weights1) (P := Held [(n, pts.map .int)]) (st := st ++ [.lst (((pts.take j).map (lweight p x pts)).map .int)]) hh D.int (stepW p x one) (fun s v => [some (.int p), some (.ref n), some (.int x), some (.ref st.length), some (.int one), some (.int s.1), some (.int s.2), v]) (fun _ s => (0 ≤ s.1 ∧ s.1 < p) ∧ 0 ≤ s.2 ∧ s.2 < p) pts 0 (1, 1) o7
        (fun j' a s v _ _ _ hs => by
          have b1 : -(2 ^ 64) < s.1 ∧ s.1 < 2 ^ 64 := by constructor <;> omega
          have b2 : -(2 ^ 64) < s.2 ∧ s.2 < 2 ^ 64 := by constructor <;> omega
          by_cases hq : a = one
          · have e0 : stepW p x one s a = s := if_pos hq
            have hq' : (a = one) = True := eq_true hq
            refine ⟨_, rfl, ⟨some (.int a), ?_⟩, by rw [e0]; exact hs⟩
            rw [e0]
            simp only [B__law_weights1, hq', q_runF, q_kFin, q_kFinN, q_mC, q_v0, q_v1, q_v2, q_v3, q_v4, q_v5, q_v6, q_v7, q_v8, q_v9, q_v10, q_v11, q_v12, q_v13, q_mOp, q_mTest, q_kB, q_kAnd, q_kOr, q_kNot, q_kNeg, q_kChT, q_kChF, q_mTru, q_tAnd, q_tOr, q_tNot, q_tYes, q_eAnd, q_eOr, q_eNot, q_mIf, q_aNil, q_aCons, q_mTup, q_mLst, q_mB, q_mCall, q_mNeg, q_mChain, q_sNil, q_sSeq, q_sExpr, q_sRet, q_sRetN, q_sBk, q_sCt, q_sIf, q_sAsg, q_kPutN, q_sBox, q_kBox, q_sApp, q_sSetI, q_sAug, q_kAug, q_kAug2, q_sFor, q_mRng1, q_kR1, q_kR2, q_mRng2, q_mIt, q_kItL, q_kItT, q_addI, q_addS, q_addT, q_addL, q_sub, q_mul, q_mod, q_fdv, q_pow, q_lt, q_le, q_gt, q_ge, q_iadd, q_isub, q_isN, q_notN, q_isNon_non, q_isNon_int, q_isNon_tup, q_isNon_lst, q_eqI, q_eqS, q_neI, q_neS, q_ixT, q_ixL, q_ixS, q_ixR0, q_int, q_intb, q_lenT, q_lenC, q_lenL, q_min, q_max, q_tupL, q_tupT, q_listL, q_listT, q_truB, q_truI, q_truT, q_truL, q_truN, q_bind, q_toS, q_nx, q_rt, q_bk, q_ct, q_ofO, q_noex, List.set_cons_zero, List.set_cons_succ, List.getElem?_cons_zero, List.getElem?_cons_succ, Option.map_some, Option.bind_some, List.length_cons, List.length_nil, List.map_cons, List.map_nil, Nat.reduceAdd, Nat.reduceSub, Nat.reduceLeDiff, Nat.reduceEqDiff, List.replicate_succ, List.replicate_zero, List.cons_append, List.nil_append, ↓reduceIte, if_true, if_false, Bool.false_eq_true, decide_true, decide_false, Bool.not_true, Bool.not_false, and_self, and_true, true_and, or_true, true_or, not_true_eq_false, not_false_eq_true, q_v14, q_v15, q_v16, q_v17, q_mEnum, q_kEnum, q_mZip, q_kZip, q_mRev, q_kRev, q_aStar, q_kSt, q_pNone, q_pSome, q_kPart, q_mSl, q_kSl2, q_kSl3, q_kCutT, q_kCutL, q_wkL, q_wkT, q_wkS]
          · have e0 : stepW p x one s a = (s.1 * (x - a) % p, s.2 * (one - a) % p) := if_neg hq
            refine ⟨_, rfl, ⟨some (.int a), ?_⟩, by rw [e0]; exact ⟨⟨Int.emod_nonneg _ (by omega), Int.emod_lt_of_pos _ hp0⟩, Int.emod_nonneg _ (by omega), Int.emod_lt_of_pos _ hp0⟩⟩
            rw [e0]
            simp only [B__law_weights1, hq, hp0, b1, b2, q_runF, q_kFin, q_kFinN, q_mC, q_v0, q_v1, q_v2, q_v3, q_v4, q_v5, q_v6, q_v7, q_v8, q_v9, q_v10, q_v11, q_v12, q_v13, q_mOp, q_mTest, q_kB, q_kAnd, q_kOr, q_kNot, q_kNeg, q_kChT, q_kChF, q_mTru, q_tAnd, q_tOr, q_tNot, q_tYes, q_eAnd, q_eOr, q_eNot, q_mIf, q_aNil, q_aCons, q_mTup, q_mLst, q_mB, q_mCall, q_mNeg, q_mChain, q_sNil, q_sSeq, q_sExpr, q_sRet, q_sRetN, q_sBk, q_sCt, q_sIf, q_sAsg, q_kPutN, q_sBox, q_kBox, q_sApp, q_sSetI, q_sAug, q_kAug, q_kAug2, q_sFor, q_mRng1, q_kR1, q_kR2, q_mRng2, q_mIt, q_kItL, q_kItT, q_addI, q_addS, q_addT, q_addL, q_sub, q_mul, q_mod, q_fdv, q_pow, q_lt, q_le, q_gt, q_ge, q_iadd, q_isub, q_isN, q_notN, q_isNon_non, q_isNon_int, q_isNon_tup, q_isNon_lst, q_eqI, q_eqS, q_neI, q_neS, q_ixT, q_ixL, q_ixS, q_ixR0, q_int, q_intb, q_lenT, q_lenC, q_lenL, q_min, q_max, q_tupL, q_tupT, q_listL, q_listT, q_truB, q_truI, q_truT, q_truL, q_truN, q_bind, q_toS, q_nx, q_rt, q_bk, q_ct, q_ofO, q_noex, List.set_cons_zero, List.set_cons_succ, List.getElem?_cons_zero, List.getElem?_cons_succ, Option.map_some, Option.bind_some, List.length_cons, List.length_nil, List.map_cons, List.map_nil, Nat.reduceAdd, Nat.reduceSub, Nat.reduceLeDiff, Nat.reduceEqDiff, List.replicate_succ, List.replicate_zero, List.cons_append, List.nil_append, ↓reduceIte, if_true, if_false, Bool.false_eq_true, decide_true, decide_false, Bool.not_true, Bool.not_false, and_self, and_true, true_and, or_true, true_or, not_true_eq_false, not_false_eq_true, q_v14, q_v15, q_v16, q_v17, q_mEnum, q_kEnum, q_mZip, q_kZip, q_mRev, q_kRev, q_aStar, q_kSt, q_pNone, q_pSome, q_kPart, q_mSl, q_kSl2, q_kSl3, q_kCutT, q_kCutL, q_wkL, q_wkT, q_wkS]) ⟨⟨by show (0 : Int) ≤ 1; decide, by show (1 : Int) < p; omega⟩, by show (0 : Int) ≤ 1; decide, by show (1 : Int) < p; omega⟩
      obtain ⟨q1, q2, q3, q4, q5, q6⟩ := stepW_fold (p := p) (x := x) (one := one) hp0 pts (1, 1) (by show (0 : Int) ≤ 1; decide) (by show (1 : Int) < p; omega) (by show (0 : Int) ≤ 1; decide) (by show (1 : Int) < p; omega)
      obtain ⟨S, hS⟩ : ∃ S, pts.foldl (stepW p x one) (1, 1) = S := ⟨_, rfl⟩
      rw [hS] at e1 q1 q2 q3 q4 q5 q6
      have e2 := linv_is (p := p) (a := S.2) hp hp2 (st := st ++ [.lst (((pts.take j).map (lweight p x pts)).map .int)])
      have b3 : -(2 ^ 64) < S.1 ∧ S.1 < 2 ^ 64 := by constructor <;> omega
      have ew : S.1 * invP p (S.2 % p) % p = lweight p x pts one := by
        unfold lweight
        have a1 : E p S.1 (dif x (pts.filter fun o => decide (o ≠ one))) := q1.trans (E.of_eq (Int.one_mul _))
        have a2 : S.2 % p = dif one (pts.filter fun o => decide (o ≠ one)) % p := q2.trans (E.of_eq (Int.one_mul _))
        rw [a2]
        exact E.mul a1 E.rfl'
      have hz : (((pts.take j).map (lweight p x pts)).map D.int).length < sizeLine := by rw [List.length_map, List.length_map, List.length_take, sz]; omega
      have hj2 := (List.getElem?_eq_some_iff.mp h1).1
      have et : ((pts.take j).map (lweight p x pts)).map D.int ++ [D.int (lweight p x pts one)] = ((pts.take (j + 1)).map (lweight p x pts)).map .int := by
        rw [List.take_add_one, h1]
        simp
      refine ⟨_, _, .inl (?_ : B__law_weights2 _ _ = .ok .nx [some (.int p), some (.ref n), some (.int x), some (.ref st.length), some (.int one), some (.int S.1), some (.int S.2), v'] (st ++ [.lst (((pts.take (j + 1)).map (lweight p x pts)).map .int)])), _, _, _, _, rfl, rfl⟩
      simp only [List.set_cons_zero, List.set_cons_succ]
      simp only [B__law_weights2, q_kItR hn, e1, e2, b3, ew, hp0, q_kApp (at_last _ _), q_kApp2 (at_last _ _) hz, set_last, et, q_runF, q_kFin, q_kFinN, q_mC, q_v0, q_v1, q_v2, q_v3, q_v4, q_v5, q_v6, q_v7, q_v8, q_v9, q_v10, q_v11, q_v12, q_v13, q_mOp, q_mTest, q_kB, q_kAnd, q_kOr, q_kNot, q_kNeg, q_kChT, q_kChF, q_mTru, q_tAnd, q_tOr, q_tNot, q_tYes, q_eAnd, q_eOr, q_eNot, q_mIf, q_aNil, q_aCons, q_mTup, q_mLst, q_mB, q_mCall, q_mNeg, q_mChain, q_sNil, q_sSeq, q_sExpr, q_sRet, q_sRetN, q_sBk, q_sCt, q_sIf, q_sAsg, q_kPutN, q_sBox, q_kBox, q_sApp, q_sSetI, q_sAug, q_kAug, q_kAug2, q_sFor, q_mRng1, q_kR1, q_kR2, q_mRng2, q_mIt, q_kItL, q_kItT, q_addI, q_addS, q_addT, q_addL, q_sub, q_mul, q_mod, q_fdv, q_pow, q_lt, q_le, q_gt, q_ge, q_iadd, q_isub, q_isN, q_notN, q_isNon_non, q_isNon_int, q_isNon_tup, q_isNon_lst, q_eqI, q_eqS, q_neI, q_neS, q_ixT, q_ixL, q_ixS, q_ixR0, q_int, q_intb, q_lenT, q_lenC, q_lenL, q_min, q_max, q_tupL, q_tupT, q_listL, q_listT, q_truB, q_truI, q_truT, q_truL, q_truN, q_bind, q_toS, q_nx, q_rt, q_bk, q_ct, q_ofO, q_noex, List.set_cons_zero, List.set_cons_succ, List.getElem?_cons_zero, List.getElem?_cons_succ, Option.map_some, Option.bind_some, List.length_cons, List.length_nil, List.map_cons, List.map_nil, Nat.reduceAdd, Nat.reduceSub, Nat.reduceLeDiff, Nat.reduceEqDiff, List.replicate_succ, List.replicate_zero, List.cons_append, List.nil_append, ↓reduceIte, if_true, if_false, Bool.false_eq_true, decide_true, decide_false, Bool.not_true, Bool.not_false, and_self, and_true, true_and, or_true, true_or, not_true_eq_false, not_false_eq_true, q_v14, q_v15, q_v16, q_v17, q_mEnum, q_kEnum, q_mZip, q_kZip, q_mRev, q_kRev, q_aStar, q_kSt, q_pNone, q_pSome, q_kPart, q_mSl, q_kSl2, q_kSl3, q_kCutT, q_kCutL, q_wkL, q_wkT, q_wkS])
    (fun es s hI => by
      obtain ⟨o4, o5, o6, o7, rfl, rfl⟩ := hI
      exact ⟨at_app h, trivial⟩) ⟨_, _, _, _, rfl, by simp⟩
  have z0 : 0 ≤ sizeLine := Nat.zero_le _
  have hn := at_app (more := [.lst []]) h
  rw [Nat.zero_add, List.length_map, List.take_length] at e
  simp only [F__law_weights, M__law_weights, z0, q_kItR hn, e, q_runF, q_kFin, q_kFinN, q_mC, q_v0, q_v1, q_v2, q_v3, q_v4, q_v5, q_v6, q_v7, q_v8, q_v9, q_v10, q_v11, q_v12, q_v13, q_mOp, q_mTest, q_kB, q_kAnd, q_kOr, q_kNot, q_kNeg, q_kChT, q_kChF, q_mTru, q_tAnd, q_tOr, q_tNot, q_tYes, q_eAnd, q_eOr, q_eNot, q_mIf, q_aNil, q_aCons, q_mTup, q_mLst, q_mB, q_mCall, q_mNeg, q_mChain, q_sNil, q_sSeq, q_sExpr, q_sRet, q_sRetN, q_sBk, q_sCt, q_sIf, q_sAsg, q_kPutN, q_sBox, q_kBox, q_sApp, q_sSetI, q_sAug, q_kAug, q_kAug2, q_sFor, q_mRng1, q_kR1, q_kR2, q_mRng2, q_mIt, q_kItL, q_kItT, q_addI, q_addS, q_addT, q_addL, q_sub, q_mul, q_mod, q_fdv, q_pow, q_lt, q_le, q_gt, q_ge, q_iadd, q_isub, q_isN, q_notN, q_isNon_non, q_isNon_int, q_isNon_tup, q_isNon_lst, q_eqI, q_eqS, q_neI, q_neS, q_ixT, q_ixL, q_ixS, q_ixR0, q_int, q_intb, q_lenT, q_lenC, q_lenL, q_min, q_max, q_tupL, q_tupT, q_listL, q_listT, q_truB, q_truI, q_truT, q_truL, q_truN, q_bind, q_toS, q_nx, q_rt, q_bk, q_ct, q_ofO, q_noex, List.set_cons_zero, List.set_cons_succ, List.getElem?_cons_zero, List.getElem?_cons_succ, Option.map_some, Option.bind_some, List.length_cons, List.length_nil, List.map_cons, List.map_nil, Nat.reduceAdd, Nat.reduceSub, Nat.reduceLeDiff, Nat.reduceEqDiff, List.replicate_succ, List.replicate_zero, List.cons_append, List.nil_append, ↓reduceIte, if_true, if_false, Bool.false_eq_true, decide_true, decide_false, Bool.not_true, Bool.not_false, and_self, and_true, true_and, or_true, true_or, not_true_eq_false, not_false_eq_true, q_v14, q_v15, q_v16, q_v17, q_mEnum, q_kEnum, q_mZip, q_kZip, q_mRev, q_kRev, q_aStar, q_kSt, q_pNone, q_pSome, q_kPart, q_mSl, q_kSl2, q_kSl3, q_kCutT, q_kCutL, q_wkL, q_wkT, q_wkS]
  exact leave_new (more := []) (los_ints _ _)
theorem numbers_is {p : Int} {ds : List Int} {n many : Nat} (hp : 0 < p) (hm : many ≤ 1000) {st : Store} : ∃ vs : List Int, vs.length = many ∧ lowP p vs ∧ F__law_numbers [.ref 0, .int p, .int (many : Int)] (Box ds n :: st) = .ok (itup vs) (Box ds (n + 2 * many) :: st) := by
  have w : -(2 ^ 62) ≤ (many : Int) ∧ (many : Int) < 2 ^ 62 := by constructor <;> omega
  obtain ⟨ys, h1, h2, h3⟩ := lcL_run (t := .nm 3) (tt := tYes) (elt := mCall 2 F__law_number (aCons (mVar 0) (aCons (mVar 1) aNil))) (P := Held []) (es := [some (.ref 0), some (.int p), some (.int (many : Int)), none]) (fun i : Nat => D.int (0 + (i : Int))) (fun j _ => .int (num ds (n + 2 * j) p)) (fun j => Box ds (n + 2 * j) :: st) (List.range many) 0
    (fun _ _ => trivial) (fun j a _ => by
      have e1 := number_is (ds := ds) (n := n + 2 * j) (p := p) (st := st) hp
      refine ⟨[some (.ref 0), some (.int p), some (.int (many : Int)), some (.int (0 + (a : Int)))], rfl, by simp only [q_runF, q_kFin, q_kFinN, q_mC, q_v0, q_v1, q_v2, q_v3, q_v4, q_v5, q_v6, q_v7, q_v8, q_v9, q_v10, q_v11, q_v12, q_v13, q_mOp, q_mTest, q_kB, q_kAnd, q_kOr, q_kNot, q_kNeg, q_kChT, q_kChF, q_mTru, q_tAnd, q_tOr, q_tNot, q_tYes, q_eAnd, q_eOr, q_eNot, q_mIf, q_aNil, q_aCons, q_mTup, q_mLst, q_mB, q_mCall, q_mNeg, q_mChain, q_sNil, q_sSeq, q_sExpr, q_sRet, q_sRetN, q_sBk, q_sCt, q_sIf, q_sAsg, q_kPutN, q_sBox, q_kBox, q_sApp, q_sSetI, q_sAug, q_kAug, q_kAug2, q_sFor, q_mRng1, q_kR1, q_kR2, q_mRng2, q_mIt, q_kItL, q_kItT, q_addI, q_addS, q_addT, q_addL, q_sub, q_mul, q_mod, q_fdv, q_pow, q_lt, q_le, q_gt, q_ge, q_iadd, q_isub, q_isN, q_notN, q_isNon_non, q_isNon_int, q_isNon_tup, q_isNon_lst, q_eqI, q_eqS, q_neI, q_neS, q_ixT, q_ixL, q_ixS, q_ixR0, q_int, q_intb, q_lenT, q_lenC, q_lenL, q_min, q_max, q_tupL, q_tupT, q_listL, q_listT, q_truB, q_truI, q_truT, q_truL, q_truN, q_bind, q_toS, q_nx, q_rt, q_bk, q_ct, q_ofO, q_noex, List.set_cons_zero, List.set_cons_succ, List.getElem?_cons_zero, List.getElem?_cons_succ, Option.map_some, Option.bind_some, List.length_cons, List.length_nil, List.map_cons, List.map_nil, Nat.reduceAdd, Nat.reduceSub, Nat.reduceLeDiff, Nat.reduceEqDiff, List.replicate_succ, List.replicate_zero, List.cons_append, List.nil_append, ↓reduceIte, if_true, if_false, Bool.false_eq_true, decide_true, decide_false, Bool.not_true, Bool.not_false, and_self, and_true, true_and, or_true, true_or, not_true_eq_false, not_false_eq_true, q_v14, q_v15, q_v16, q_v17, q_mEnum, q_kEnum, q_mZip, q_kZip, q_mRev, q_kRev, q_aStar, q_kSt, q_pNone, q_pSome, q_kPart, q_mSl, q_kSl2, q_kSl3, q_kCutT, q_kCutL, q_wkL, q_wkT, q_wkS], ?_⟩
      have e2 : n + 2 * (j + 1) = n + 2 * j + 2 := by omega
      rw [e2]
      simp only [e1, q_runF, q_kFin, q_kFinN, q_mC, q_v0, q_v1, q_v2, q_v3, q_v4, q_v5, q_v6, q_v7, q_v8, q_v9, q_v10, q_v11, q_v12, q_v13, q_mOp, q_mTest, q_kB, q_kAnd, q_kOr, q_kNot, q_kNeg, q_kChT, q_kChF, q_mTru, q_tAnd, q_tOr, q_tNot, q_tYes, q_eAnd, q_eOr, q_eNot, q_mIf, q_aNil, q_aCons, q_mTup, q_mLst, q_mB, q_mCall, q_mNeg, q_mChain, q_sNil, q_sSeq, q_sExpr, q_sRet, q_sRetN, q_sBk, q_sCt, q_sIf, q_sAsg, q_kPutN, q_sBox, q_kBox, q_sApp, q_sSetI, q_sAug, q_kAug, q_kAug2, q_sFor, q_mRng1, q_kR1, q_kR2, q_mRng2, q_mIt, q_kItL, q_kItT, q_addI, q_addS, q_addT, q_addL, q_sub, q_mul, q_mod, q_fdv, q_pow, q_lt, q_le, q_gt, q_ge, q_iadd, q_isub, q_isN, q_notN, q_isNon_non, q_isNon_int, q_isNon_tup, q_isNon_lst, q_eqI, q_eqS, q_neI, q_neS, q_ixT, q_ixL, q_ixS, q_ixR0, q_int, q_intb, q_lenT, q_lenC, q_lenL, q_min, q_max, q_tupL, q_tupT, q_listL, q_listT, q_truB, q_truI, q_truT, q_truL, q_truN, q_bind, q_toS, q_nx, q_rt, q_bk, q_ct, q_ofO, q_noex, List.set_cons_zero, List.set_cons_succ, List.getElem?_cons_zero, List.getElem?_cons_succ, Option.map_some, Option.bind_some, List.length_cons, List.length_nil, List.map_cons, List.map_nil, Nat.reduceAdd, Nat.reduceSub, Nat.reduceLeDiff, Nat.reduceEqDiff, List.replicate_succ, List.replicate_zero, List.cons_append, List.nil_append, ↓reduceIte, if_true, if_false, Bool.false_eq_true, decide_true, decide_false, Bool.not_true, Bool.not_false, and_self, and_true, true_and, or_true, true_or, not_true_eq_false, not_false_eq_true, q_v14, q_v15, q_v16, q_v17, q_mEnum, q_kEnum, q_mZip, q_kZip, q_mRev, q_kRev, q_aStar, q_kSt, q_pNone, q_pSome, q_kPart, q_mSl, q_kSl2, q_kSl3, q_kCutT, q_kCutL, q_wkL, q_wkT, q_wkS])
  have ey : ys = ((List.range many).map fun k => num ds (n + 2 * k) p).map .int := by
    apply List.ext_getElem?
    intro k
    by_cases c : k < many
    · rw [h2 k k (List.getElem?_range c), List.getElem?_map, List.getElem?_map, List.getElem?_range c, Nat.zero_add]
      rfl
    · rw [List.getElem?_eq_none (by rw [h1, List.length_range]; omega), List.getElem?_eq_none (by simp; omega)]
  subst ey
  refine ⟨(List.range many).map fun k => num ds (n + 2 * k) p, by simp, fun y hy => ?_, ?_⟩
  · obtain ⟨k, _, rfl⟩ := List.mem_map.mp hy
    exact ⟨num_nn hp, num_lt hp⟩
  · have er : rngD 0 ((many : Int)).toNat = (List.range many).map fun (i : Nat) => D.int (0 + (i : Int)) := by rw [Int.toNat_natCast]; rfl
    have ez : ((List.range many).map fun (i : Nat) => D.int (0 + (i : Int))).length ≤ sizeLine := by rw [List.length_map, List.length_range, sz]; omega
    have ew : wipeD [some (.ref 0), some (.int p), some (.int (many : Int)), none] [3] = [some (.ref 0), some (.int p), some (.int (many : Int)), none] := rfl
    rw [Nat.zero_add, List.length_range, Nat.mul_zero, Nat.add_zero] at h3
    simp only [F__law_numbers, M__law_numbers, q_mLC, w, er, ez, ew, h3, q_runF, q_kFin, q_kFinN, q_mC, q_v0, q_v1, q_v2, q_v3, q_v4, q_v5, q_v6, q_v7, q_v8, q_v9, q_v10, q_v11, q_v12, q_v13, q_mOp, q_mTest, q_kB, q_kAnd, q_kOr, q_kNot, q_kNeg, q_kChT, q_kChF, q_mTru, q_tAnd, q_tOr, q_tNot, q_tYes, q_eAnd, q_eOr, q_eNot, q_mIf, q_aNil, q_aCons, q_mTup, q_mLst, q_mB, q_mCall, q_mNeg, q_mChain, q_sNil, q_sSeq, q_sExpr, q_sRet, q_sRetN, q_sBk, q_sCt, q_sIf, q_sAsg, q_kPutN, q_sBox, q_kBox, q_sApp, q_sSetI, q_sAug, q_kAug, q_kAug2, q_sFor, q_mRng1, q_kR1, q_kR2, q_mRng2, q_mIt, q_kItL, q_kItT, q_addI, q_addS, q_addT, q_addL, q_sub, q_mul, q_mod, q_fdv, q_pow, q_lt, q_le, q_gt, q_ge, q_iadd, q_isub, q_isN, q_notN, q_isNon_non, q_isNon_int, q_isNon_tup, q_isNon_lst, q_eqI, q_eqS, q_neI, q_neS, q_ixT, q_ixL, q_ixS, q_ixR0, q_int, q_intb, q_lenT, q_lenC, q_lenL, q_min, q_max, q_tupL, q_tupT, q_listL, q_listT, q_truB, q_truI, q_truT, q_truL, q_truN, q_bind, q_toS, q_nx, q_rt, q_bk, q_ct, q_ofO, q_noex, List.set_cons_zero, List.set_cons_succ, List.getElem?_cons_zero, List.getElem?_cons_succ, Option.map_some, Option.bind_some, List.length_cons, List.length_nil, List.map_cons, List.map_nil, Nat.reduceAdd, Nat.reduceSub, Nat.reduceLeDiff, Nat.reduceEqDiff, List.replicate_succ, List.replicate_zero, List.cons_append, List.nil_append, ↓reduceIte, if_true, if_false, Bool.false_eq_true, decide_true, decide_false, Bool.not_true, Bool.not_false, and_self, and_true, true_and, or_true, true_or, not_true_eq_false, not_false_eq_true, q_v14, q_v15, q_v16, q_v17, q_mEnum, q_kEnum, q_mZip, q_kZip, q_mRev, q_kRev, q_aStar, q_kSt, q_pNone, q_pSome, q_kPart, q_mSl, q_kSl2, q_kSl3, q_kCutT, q_kCutL, q_wkL, q_wkT, q_wkS]
    exact leave_head (box_lo _ _ _) (by simp only [D.lo]; exact los_ints _ _)
end Zp
namespace Zp
open PySem L2 Zv PyProof.Rows Zn
theorem pickI {ds : List Int} {n : Nat} {is : List Int} {st : Store} (h : 0 < is.length) : ∃ i ∈ is, F__law_pick [.ref 0, .lst (is.map .int)] (Box ds n :: st) = .ok (.int i) (Box ds (n + 1) :: st) := by
  have h' : 0 < (is.map D.int).length := by simpa using h
  have e := pick_is (ds := ds) (n := n) (st := st) h' (los_ints _ _)
  rw [List.getElem_map] at e
  exact ⟨_, List.getElem_mem _, e⟩
theorem pickD {ds : List Int} {n : Nat} {xs : List D} {st : Store} (h : 0 < xs.length) (hlo : D.los (st.length + 1) xs = true) : ∃ x ∈ xs, F__law_pick [.ref 0, .lst xs] (Box ds n :: st) = .ok x (Box ds (n + 1) :: st) :=
  ⟨_, List.getElem_mem _, pick_is h hlo⟩
/-! ## what through, weights and veil come to -/
theorem nodup_ne {pts : List Int} (hn : pts.Nodup) {i j : Nat} {x y : Int} (hi : pts[i]? = some x) (hj : pts[j]? = some y) (h : i ≠ j) : x ≠ y := by
  obtain ⟨h1, e1⟩ := List.getElem?_eq_some_iff.mp hi
  obtain ⟨h2, e2⟩ := List.getElem?_eq_some_iff.mp hj
  have hp := List.pairwise_iff_getElem.mp hn
  rcases Nat.lt_or_gt_of_ne h with c | c
  · have := hp i j h1 h2 c; rw [e1, e2] at this; exact this
  · have := hp j i h2 h1 c; rw [e1, e2] at this; exact fun z => this z.symm
theorem mem_but {pts : List Int} {k : Nat} {r : Int} (h : r ∈ pts.take k ++ pts.drop (k + 1)) : ∃ j : Nat, j ≠ k ∧ pts[j]? = some r := by
  rcases List.mem_append.mp h with h | h
  · obtain ⟨j, hj⟩ := List.mem_iff_getElem?.mp h
    have hlt : j < k := by have := (List.getElem?_eq_some_iff.mp hj).1; rw [List.length_take] at this; omega
    rw [List.getElem?_take_of_lt hlt] at hj
    exact ⟨j, by omega, hj⟩
  · obtain ⟨j, hj⟩ := List.mem_iff_getElem?.mp h
    rw [List.getElem?_drop] at hj
    exact ⟨k + 1 + j, by omega, hj⟩
theorem but_mem {pts : List Int} {k j : Nat} {r : Int} (hjk : j ≠ k) (hj : pts[j]? = some r) : r ∈ pts.take k ++ pts.drop (k + 1) := by
  rcases Nat.lt_or_gt_of_ne hjk with c | c
  · refine List.mem_append.mpr (.inl (List.mem_iff_getElem?.mpr ⟨j, ?_⟩))
    rw [List.getElem?_take_of_lt c]
    exact hj
  · refine List.mem_append.mpr (.inr (List.mem_iff_getElem?.mpr ⟨j - (k + 1), ?_⟩))
    rw [List.getElem?_drop, show k + 1 + (j - (k + 1)) = j by omega]
    exact hj
theorem ev_zeros (x : Int) : ∀ n : Nat, ev x (List.replicate n 0) = 0
  | 0 => rfl
  | n + 1 => by rw [List.replicate_succ, ev, ev_zeros x n]; omega
theorem ev_through {p : Int} (x : Int) (pts vs : List Int) : E p (ev x (throughP p pts vs)) (dot x (peaksP p pts) vs) ∧ (throughP p pts vs).length = pts.length := by
  obtain ⟨a, b⟩ := ev_thru (p := p) x pts.length (peaksP p pts) vs (List.replicate pts.length 0) peaks_size (by simp)
  exact ⟨a.trans (E.of_eq (by rw [ev_zeros, Int.zero_add])), b⟩
theorem low_through {p : Int} (hp : 0 < p) (pts vs : List Int) : lowP p (throughP p pts vs) := low_thru hp _ _ _ fun x hx => by
  rw [List.eq_of_mem_replicate hx]
  exact ⟨Int.le_refl _, hp⟩
theorem through_at {p : Int} (hp : prm p) {pts vs : List Int} (hn : pts.Nodup) (hl : lowP p pts) (hv : lowP p vs) (hlen : vs.length = pts.length) : pts.map (fun x => ev x (throughP p pts vs) % p) = vs := by
  have hp0 : 0 < p := by have := hp.1; omega
  apply List.ext_getElem?
  intro j
  rw [List.getElem?_map]
  cases hx : pts[j]? with
  | none =>
    have := List.getElem?_eq_none_iff.mp hx
    rw [List.getElem?_eq_none (by omega)]
    rfl
  | some x =>
    have hj := (List.getElem?_eq_some_iff.mp hx).1
    have hv' : vs[j]? = some vs[j] := List.getElem?_eq_getElem (by omega)
    rw [hv']
    have hxl := hl x (List.mem_of_getElem? hx)
    have hvl := hv vs[j] (List.getElem_mem _)
    have hd := dot_at (p := p) (x := x) (peaksP p pts) vs j vs[j] hv' (by rw [peaks_len, hlen]) fun i f hf => by
      obtain ⟨y, h1, h2⟩ := peaks_get hf
      subst h2
      by_cases c : i = j
      · rw [if_pos c]
        subst c
        rw [hx] at h1
        cases h1
        exact peak_self hp hxl.1 hxl.2 fun r hr => by
          obtain ⟨k, hk, hk2⟩ := mem_but hr
          have h3 := hl r (List.mem_of_getElem? hk2)
          exact ⟨h3.1, h3.2, nodup_ne hn hx hk2 (Ne.symm hk)⟩
      · rw [if_neg c]
        exact peak_zero hp0 (but_mem (Ne.symm c) hx)
    have := (ev_through (p := p) x pts vs).1.trans hd
    have e : ev x (throughP p pts vs) % p = vs[j] := by
      have h4 : ev x (throughP p pts vs) % p = vs[j] % p := this
      rw [h4, Int.emod_eq_of_lt hvl.1 hvl.2]
    rw [Option.map_some, e]
theorem filter_but : ∀ {pts : List Int} (hn : pts.Nodup) {k : Nat} {x : Int}, pts[k]? = some x → (pts.filter fun o => decide (o ≠ x)) = pts.take k ++ pts.drop (k + 1)
  | [], _, _, _, h => by simp at h
  | y :: ys, hn, 0, x, h => by
    have e : y = x := by simpa using h
    subst e
    have h1 := (List.nodup_cons.mp hn).1
    rw [List.filter_cons, if_neg (by simp), List.take_zero, List.nil_append, List.drop_succ_cons, List.drop_zero, List.filter_eq_self]
    intro z hz
    simp only [decide_eq_true_eq]
    exact fun q => h1 (q ▸ hz)
  | y :: ys, hn, k + 1, x, h => by
    have h2 := List.nodup_cons.mp hn
    have hx : ys[k]? = some x := by simpa using h
    have hyx : y ≠ x := fun q => h2.1 (q ▸ List.mem_of_getElem? hx)
    rw [List.filter_cons, if_pos (by simpa using hyx), filter_but h2.2 hx, List.take_succ_cons, List.drop_succ_cons, List.cons_append]
theorem weights_same {p : Int} (hp : 0 < p) {pts : List Int} (hn : pts.Nodup) (x : Int) : weightsP p pts x = pts.map (lweight p x pts) := by
  apply List.ext_getElem?
  intro k
  unfold weightsP
  rw [List.getElem?_map, List.getElem?_map]
  cases hx : pts[k]? with
  | none =>
    have := List.getElem?_eq_none_iff.mp hx
    rw [List.getElem?_eq_none (by rw [peaks_len]; omega)]
    rfl
  | some one =>
    have hk := (List.getElem?_eq_some_iff.mp hx).1
    have hf : (peaksP p pts)[k]? = some ((peaksP p pts)[k]'(by rw [peaks_len]; exact hk)) := List.getElem?_eq_getElem _
    obtain ⟨y, h1, h2⟩ := peaks_get hf
    rw [hx] at h1
    cases h1
    rw [hf, h2, Option.map_some, Option.map_some, valP_ev hp]
    congr 1
    unfold lweight
    rw [filter_but hn hx]
    exact (ev_peak hp _ _ _).trans (E.of_eq (Int.mul_comm ..))
theorem sum_dot {p x : Int} (hp : 0 < p) : ∀ (fs : List (List Int)) (vs : List Int), E p (List.zipWith (fun a b => a * b) (fs.map (valP p x)) vs).sum (dot x fs vs)
  | [], _ => E.of_eq (by simp [dot])
  | _ :: _, [] => E.of_eq (by simp [dot])
  | f :: fs, v :: vs => by
    rw [List.map_cons, List.zipWith_cons_cons, List.sum_cons, dot]
    refine E.add ?_ (sum_dot hp fs vs)
    rw [valP_ev hp]
    exact (E.mul E.md E.rfl').trans (E.of_eq (Int.mul_comm ..))
theorem veil_ok {p : Int} (hp : prm p) {roots : List Int} (hr : lowP p roots) (h0 : ∀ r ∈ roots, r ≠ 0) : (peakP p roots 0).length = roots.length + 1 ∧ (peakP p roots 0)[0]? = some 1 ∧ ∀ r ∈ roots, ev r (peakP p roots 0) % p = 0 := by
  have hp2 := hp.1
  have hp0 : 0 < p := by omega
  refine ⟨peak_len _ _, ?_, fun r h => ?_⟩
  · have h1 := peak_self hp (x := 0) (roots := roots) (Int.le_refl _) hp0 fun r h => ⟨(hr r h).1, (hr r h).2, fun q => h0 r h q.symm⟩
    have hl : 0 < (peakP p roots 0).length := by rw [peak_len]; omega
    have hlow : lowP p (peakP p roots 0) := low_sca hp0 _ _
    obtain ⟨c, cs, e⟩ := List.exists_cons_of_length_pos hl
    rw [e] at h1 hlow ⊢
    rw [ev, Int.mul_zero, Int.zero_add] at h1
    have hc := hlow c List.mem_cons_self
    have : c = 1 := E.eq h1 hc.1 hc.2 (by decide) (by omega)
    rw [this]
    rfl
  · have : ev r (peakP p roots 0) % p = 0 % p := peak_zero hp0 h
    rw [this]
    exact Int.zero_emod p
end Zp
namespace Zv
open PySem PySem.Spec L2
/-! ## x in a list or a tuple of ints, of texts -/
def strsOf : List D → Option (List Str)
  | [] => some []
  | .str s :: ds => (strsOf ds).map fun ss => s :: ss
  | _ => none
theorem strsOf_map : ∀ {ds : List D} {ss : List Str}, strsOf ds = some ss → ds = ss.map .str
  | [], ss, h => by cases h; rfl
  | .str s :: ds, ss, h => by
    obtain ⟨ts, e, rfl⟩ := Option.map_eq_some_iff.mp h
    rw [strsOf_map e]
    rfl
  | .non :: _, _, h => nomatch h
  | .bl _ :: _, _, h => nomatch h
  | .int _ :: _, _, h => nomatch h
  | .tup _ :: _, _, h => nomatch h
  | .lst _ :: _, _, h => nomatch h
  | .ref _ :: _, _, h => nomatch h
  | .scr _ :: _, _, h => nomatch h
theorem strsOf_strs : ∀ ss : List Str, strsOf (ss.map .str) = some ss
  | [] => rfl
  | s :: ss => by show (strsOf (ss.map .str)).map _ = _; rw [strsOf_strs ss]; rfl
theorem reps_of_strs {K : PySem.W.Frag} {H : Hp} {μ : Mp} : ∀ {ss : List Str} {vs : List V}, Reps K H μ (ss.map .str) vs → vs = ss.map V.str
  | [], _, h => by cases h; rfl
  | n :: ns, _, h => by
    cases h with
    | cons h1 h2 => cases h1; rw [reps_of_strs h2]; rfl
def bolsOf : List D → Option (List Bool)
  | [] => some []
  | .bl b :: ds => (bolsOf ds).map fun bs => b :: bs
  | _ => none
theorem bolsOf_map : ∀ {ds : List D} {bs : List Bool}, bolsOf ds = some bs → ds = bs.map .bl
  | [], ss, h => by cases h; rfl
  | .bl s :: ds, ss, h => by
    obtain ⟨ts, e, rfl⟩ := Option.map_eq_some_iff.mp h
    rw [bolsOf_map e]
    rfl
  | .non :: _, _, h => nomatch h
  | .int _ :: _, _, h => nomatch h
  | .str _ :: _, _, h => nomatch h
  | .tup _ :: _, _, h => nomatch h
  | .lst _ :: _, _, h => nomatch h
  | .ref _ :: _, _, h => nomatch h
  | .scr _ :: _, _, h => nomatch h
theorem bolsOf_bols : ∀ bs : List Bool, bolsOf (bs.map .bl) = some bs
  | [] => rfl
  | s :: ss => by show (bolsOf (ss.map .bl)).map _ = _; rw [bolsOf_bols ss]; rfl
theorem reps_of_bols {K : PySem.W.Frag} {H : Hp} {μ : Mp} : ∀ {bs : List Bool} {vs : List V}, Reps K H μ (bs.map .bl) vs → vs = bs.map V.bl
  | [], _, h => by cases h; rfl
  | n :: ns, _, h => by
    cases h with
    | cons h1 h2 => cases h1; rw [reps_of_bols h2]; rfl
def dInF (neg : Bool) : F2 := fun st x y => (y.walk st).bind fun p => match x with
  | .int i => (intsOf p.1).map fun ns => .bl (if neg then !decide (i ∈ ns) else decide (i ∈ ns))
  | .str s => (strsOf p.1).map fun ss => .bl (if neg then !decide (s ∈ ss) else decide (s ∈ ss))
  | _ => none
theorem inV_ints (i : Int) : ∀ ns : List Int, inV (.int i) (ns.map V.int) = decide (i ∈ ns)
  | [] => by simp [inV]
  | n :: ns => by
    have ih := inV_ints i ns
    unfold inV at ih ⊢
    rw [List.map_cons, List.any_cons, ih, eqV]
    by_cases h : i = n
    · subst h; simp
    · have : (n == i) = false := beq_eq_false_iff_ne.mpr fun z => h z.symm
      rw [this]; simp [h]
theorem inV_strs (i : Str) : ∀ ns : List Str, inV (.str i) (ns.map V.str) = decide (i ∈ ns)
  | [] => by simp [inV]
  | n :: ns => by
    have ih := inV_strs i ns
    unfold inV at ih ⊢
    rw [List.map_cons, List.any_cons, ih, eqV]
    by_cases h : i = n
    · subst h; simp
    · have : (n == i) = false := beq_eq_false_iff_ne.mpr fun z => h z.symm
      rw [this]; simp [h]
theorem flat_ints : ∀ ns : List Int, (ns.map V.int).all flatV = true
  | [] => rfl
  | _ :: ns => by rw [List.map_cons, List.all_cons, flat_ints ns]; rfl
theorem flat_strs : ∀ ns : List Str, (ns.map V.str).all flatV = true
  | [] => rfl
  | _ :: ns => by rw [List.map_cons, List.all_cons, flat_strs ns]; rfl
section
variable {Y : Cx} {cl : Str → Option Addr}
theorem inF_of {neg : Bool} {x y : V} {H : Hp} {Q : VK} (h : rZ Y.K cl (dInF neg) x y H Q) : rIn Y.K neg x y H Q := by
  obtain ⟨μ, st, dx, dy, d, rx, ry, ok, e, q⟩ := h
  unfold dInF at e
  simp only [Option.bind_eq_some_iff] at e
  obtain ⟨p, e1, e2⟩ := e
  obtain ⟨t, a, vs, S⟩ := walk_src ok ry e1
  have sq : SqL Y.K H a vs ∨ SqT Y.K H a vs := by
    have := S.sq
    cases t
    · exact .inl this
    · exact .inr this
  split at e2
  · rename_i i
    obtain ⟨ns, e3, rfl⟩ := Option.map_eq_some_iff.mp e2
    have hr := S.rs
    rw [intsOf_map e3] at hr
    have hv := reps_of_ints hr
    subst hv
    cases rx
    refine ⟨a, _, S.is, sq, rfl, flat_ints ns, ?_⟩
    rw [inV_ints]
    exact q _ H (Step.refl _ _) ok (.bl _)
  · rename_i s
    obtain ⟨ns, e3, rfl⟩ := Option.map_eq_some_iff.mp e2
    have hr := S.rs
    rw [strsOf_map e3] at hr
    have hv := reps_of_strs hr
    subst hv
    cases rx
    refine ⟨a, _, S.is, sq, rfl, flat_strs ns, ?_⟩
    rw [inV_strs]
    exact q _ H (Step.refl _ _) ok (.bl _)
  · cases e2
theorem zo_inF : OpR Y (compareOp .In) (rZ Y.K cl (dInF false)) := OpR.imp op_in_seq fun x y H Q h => inF_of h
theorem zo_notinF : OpR Y (compareOp .NotIn) (rZ Y.K cl (dInF true)) := OpR.imp op_notIn_seq fun x y H Q h => inF_of h
/-! ## all, any of a list of truths -/
def bAll : Fn := fun ds st => match ds with
  | [d] => (d.items st).bind fun xs => (bolsOf xs).map fun bs => .bl (bs.all id)
  | _ => none
def bAny : Fn := fun ds st => match ds with
  | [d] => (d.items st).bind fun xs => (bolsOf xs).map fun bs => .bl (bs.any id)
  | _ => none
theorem zb_all (hc : Y.calm = true) : CallR Y (.builtin "all") (rCZ Y.K cl bAll) := CallR.imp (cr_all hc) fun xs H Q h => by
  obtain ⟨μ, st, ds, d, r, ok, e, q⟩ := h
  unfold bAll at e
  split at e
  · simp only [Option.bind_eq_some_iff, Option.map_eq_some_iff] at e
    obtain ⟨ys, e1, bs, e2, rfl⟩ := e
    cases r with
    | cons r1 r2 =>
      cases r2
      obtain ⟨a, vs, rfl, ea, ra⟩ := items_at ok r1 e1
      rw [bolsOf_map e2] at ra
      rw [reps_of_bols ra] at ea
      exact ⟨a, bs, rfl, .inl (.inl ea), q _ H (Step.refl _ _) ok (.bl _)⟩
  · cases e
theorem zb_any (hc : Y.calm = true) : CallR Y (.builtin "any") (rCZ Y.K cl bAny) := CallR.imp (cr_any hc) fun xs H Q h => by
  obtain ⟨μ, st, ds, d, r, ok, e, q⟩ := h
  unfold bAny at e
  split at e
  · simp only [Option.bind_eq_some_iff, Option.map_eq_some_iff] at e
    obtain ⟨ys, e1, bs, e2, rfl⟩ := e
    cases r with
    | cons r1 r2 =>
      cases r2
      obtain ⟨a, vs, rfl, ea, ra⟩ := items_at ok r1 e1
      rw [bolsOf_map e2] at ra
      rw [reps_of_bols ra] at ea
      exact ⟨a, bs, rfl, .inl (.inl ea), q _ H (Step.refl _ _) ok (.bl _)⟩
  · cases e
theorem bo_all : bootBuiltins "all" = some (.builtin "all") := by decide +kernel
theorem bo_any : bootBuiltins "any" = some (.builtin "any") := by decide +kernel
end
/-! ## tuple(range(..)), list(range(..)) -/
def kRgT (i j : Int) (st : Store) : R D := if -(2 ^ 62) ≤ i ∧ i < 2 ^ 62 ∧ -(2 ^ 62) ≤ j ∧ j < 2 ^ 62 ∧ (j - i).toNat ≤ 2 ^ 24 then .ok (.tup (rngD i (j - i).toNat)) st else .no
def kRgL (i j : Int) (st : Store) : R D := if -(2 ^ 62) ≤ i ∧ i < 2 ^ 62 ∧ -(2 ^ 62) ≤ j ∧ j < 2 ^ 62 ∧ (j - i).toNat ≤ 2 ^ 24 then .ok (.lst (rngD i (j - i).toNat)) st else .no
def kRgB (f : Int → Int → Store → R D) (x : D) (y : D) (st : Store) : R D := match x, y with
  | .int i, .int j => f i j st
  | _, _ => .no
def kRgA (f : Int → Int → Store → R D) (mb : EM) (es : Sl) (x : D) (st : Store) : R D := (mb es st).bind (kRgB f x)
def mRgT2 (ma mb : EM) (es : Sl) (st : Store) : R D := (ma es st).bind (kRgA kRgT mb es)
def mRgL2 (ma mb : EM) (es : Sl) (st : Store) : R D := (ma es st).bind (kRgA kRgL mb es)
def mRgT1 (ma : EM) (es : Sl) (st : Store) : R D := (ma es st).bind (kRgB kRgT (.int 0))
def mRgL1 (ma : EM) (es : Sl) (st : Store) : R D := (ma es st).bind (kRgB kRgL (.int 0))
theorem reps_rg {K : PySem.W.Frag} {H : Hp} {μ : Mp} (a b : Int) : Reps K H μ (rngD a (b - a).toNat) (rgV a b) := by
  have e : rngD a (b - a).toNat = ((List.range (b - a).toNat).map fun (i : Nat) => a + (i : Int)).map D.int := by unfold rngD; rw [List.map_map]; rfl
  have e2 : rgV a b = ((List.range (b - a).toNat).map fun (i : Nat) => a + (i : Int)).map V.int := by unfold rgV; rw [List.map_map]; rfl
  rw [e, e2]
  exact reps_ints _
section
variable {X : Cx} {k : Pk} {pos p pos2 p2 : Pos} {a b : Expr} {ma mb : EM}
theorem zrgT2 (hc : X.calm = true) (hg : Gl X "tuple") (hm : X.mg "tuple" = none) (hg2 : Gl X "range") (hm2 : X.mg "range" = none) (ha : PE X a (lE X.K k ma)) (hb : PE X b (lE X.K k mb)) (na : starEach [a, b] X.env = (false, eval a X.env) :: starEach [b] X.env := by rfl)
    (nb : starEach [b] X.env = (false, eval b X.env) :: starEach [] X.env := by rfl) (hp : (backTo pos2 (starEach [b] X.env)).any (·.1) = false := by rfl)
    (nc : starEach [.Call (.Name "range" p2) [a, b] [] pos2] X.env = (false, eval (.Call (.Name "range" p2) [a, b] [] pos2) X.env) :: starEach [] X.env := by rfl) :
    PE X (.Call (.Name "tuple" p) [.Call (.Name "range" p2) [a, b] [] pos2] [] pos) (lE X.K k (mRgT2 ma mb)) :=
  PE.imp (pe_tupRg hc hg hm (prg_2 hg2 hm2 ha hb na nb hp) nc) fun σ H Q ⟨μ, st, es, so, ok, h⟩ => ⟨μ, st, es, so, ok, Aft.mono (Aft.bind h) (fun x st1 μ1 H1 p1 ok1 h1 v rv =>
    ⟨μ1, st1, es, so.step p1, ok1, Aft.mono (Aft.bind h1) (fun y st2 μ2 H2 p2 ok2 h2 u ru => by
      have rv2 := p2.rep _ _ rv
      unfold kRgB at h2
      split at h2
      · rename_i i j
        cases rv2
        cases ru
        unfold kRgT at h2
        split at h2
        · rename_i hw
          refine ⟨i, j, rfl, rfl, hw, fun q hq => ?_⟩
          obtain ⟨y1, y2, y3⟩ := zmadeT ok2 (reps_rg i j) hq
          exact h2 _ _ y1 y2 _ y3
        · exact h2.elim
      · exact h2.elim) fun _ _ _ z => z⟩) fun _ _ _ z => z⟩
theorem zrgL2 (hc : X.calm = true) (hg : Gl X "list") (hm : X.mg "list" = none) (hg2 : Gl X "range") (hm2 : X.mg "range" = none) (ha : PE X a (lE X.K k ma)) (hb : PE X b (lE X.K k mb)) (na : starEach [a, b] X.env = (false, eval a X.env) :: starEach [b] X.env := by rfl)
    (nb : starEach [b] X.env = (false, eval b X.env) :: starEach [] X.env := by rfl) (hp : (backTo pos2 (starEach [b] X.env)).any (·.1) = false := by rfl)
    (nc : starEach [.Call (.Name "range" p2) [a, b] [] pos2] X.env = (false, eval (.Call (.Name "range" p2) [a, b] [] pos2) X.env) :: starEach [] X.env := by rfl) :
    PE X (.Call (.Name "list" p) [.Call (.Name "range" p2) [a, b] [] pos2] [] pos) (lE X.K k (mRgL2 ma mb)) :=
  PE.imp (pe_listRg hc hg hm (prg_2 hg2 hm2 ha hb na nb hp) nc) fun σ H Q ⟨μ, st, es, so, ok, h⟩ => ⟨μ, st, es, so, ok, Aft.mono (Aft.bind h) (fun x st1 μ1 H1 p1 ok1 h1 v rv =>
    ⟨μ1, st1, es, so.step p1, ok1, Aft.mono (Aft.bind h1) (fun y st2 μ2 H2 p2 ok2 h2 u ru => by
      have rv2 := p2.rep _ _ rv
      unfold kRgB at h2
      split at h2
      · rename_i i j
        cases rv2
        cases ru
        unfold kRgL at h2
        split at h2
        · rename_i hw
          refine ⟨i, j, rfl, rfl, hw, fun q hq => ?_⟩
          obtain ⟨y1, y2, y3⟩ := zmadeL ok2 (reps_rg i j) hq
          exact h2 _ _ y1 y2 _ y3
        · exact h2.elim
      · exact h2.elim) fun _ _ _ z => z⟩) fun _ _ _ z => z⟩
theorem zrgT1 (hc : X.calm = true) (hg : Gl X "tuple") (hm : X.mg "tuple" = none) (hg2 : Gl X "range") (hm2 : X.mg "range" = none) (ha : PE X a (lE X.K k ma)) (na : starEach [a] X.env = (false, eval a X.env) :: starEach [] X.env := by rfl)
    (nc : starEach [.Call (.Name "range" p2) [a] [] pos2] X.env = (false, eval (.Call (.Name "range" p2) [a] [] pos2) X.env) :: starEach [] X.env := by rfl) :
    PE X (.Call (.Name "tuple" p) [.Call (.Name "range" p2) [a] [] pos2] [] pos) (lE X.K k (mRgT1 ma)) :=
  PE.imp (pe_tupRg hc hg hm (prg_1 hg2 hm2 ha na) nc) fun σ H Q ⟨μ, st, es, so, ok, h⟩ => ⟨μ, st, es, so, ok, Aft.mono (Aft.bind h) (fun y st2 μ2 H2 p2 ok2 h2 u ru => by
      unfold kRgB at h2
      split at h2
      · rename_i i j e1
        cases e1
        cases ru
        unfold kRgT at h2
        split at h2
        · rename_i hw
          refine ⟨j, rfl, hw, fun q hq => ?_⟩
          obtain ⟨y1, y2, y3⟩ := zmadeT ok2 (reps_rg 0 j) hq
          exact h2 _ _ y1 y2 _ y3
        · exact h2.elim
      · exact h2.elim) fun _ _ _ z => z⟩
theorem zrgL1 (hc : X.calm = true) (hg : Gl X "list") (hm : X.mg "list" = none) (hg2 : Gl X "range") (hm2 : X.mg "range" = none) (ha : PE X a (lE X.K k ma)) (na : starEach [a] X.env = (false, eval a X.env) :: starEach [] X.env := by rfl)
    (nc : starEach [.Call (.Name "range" p2) [a] [] pos2] X.env = (false, eval (.Call (.Name "range" p2) [a] [] pos2) X.env) :: starEach [] X.env := by rfl) :
    PE X (.Call (.Name "list" p) [.Call (.Name "range" p2) [a] [] pos2] [] pos) (lE X.K k (mRgL1 ma)) :=
  PE.imp (pe_listRg hc hg hm (prg_1 hg2 hm2 ha na) nc) fun σ H Q ⟨μ, st, es, so, ok, h⟩ => ⟨μ, st, es, so, ok, Aft.mono (Aft.bind h) (fun y st2 μ2 H2 p2 ok2 h2 u ru => by
      unfold kRgB at h2
      split at h2
      · rename_i i j e1
        cases e1
        cases ru
        unfold kRgL at h2
        split at h2
        · rename_i hw
          refine ⟨j, rfl, hw, fun q hq => ?_⟩
          obtain ⟨y1, y2, y3⟩ := zmadeL ok2 (reps_rg 0 j) hq
          exact h2 _ _ y1 y2 _ y3
        · exact h2.elim
      · exact h2.elim) fun _ _ _ z => z⟩
end
/-! ## equations -/
section
variable {ma mb : EM} {es : Sl} {st : Store} {i j : Int} {s : Str} {ns : List Int} {ss : List Str} {bs : List Bool} {x : D} {neg : Bool}
theorem q_mRgT2 : mRgT2 ma mb es st = (ma es st).bind (kRgA kRgT mb es) := by unfold mRgT2; rfl
theorem q_mRgL2 : mRgL2 ma mb es st = (ma es st).bind (kRgA kRgL mb es) := by unfold mRgL2; rfl
theorem q_mRgT1 : mRgT1 ma es st = (ma es st).bind (kRgB kRgT (.int 0)) := by unfold mRgT1; rfl
theorem q_mRgL1 : mRgL1 ma es st = (ma es st).bind (kRgB kRgL (.int 0)) := by unfold mRgL1; rfl
theorem q_kRgA {f : Int → Int → Store → R D} : kRgA f mb es x st = (mb es st).bind (kRgB f x) := by unfold kRgA; rfl
theorem q_kRgB {f : Int → Int → Store → R D} : kRgB f (.int i) (.int j) st = f i j st := by rw [kRgB]
theorem q_kRgT : kRgT i j st = if -(2 ^ 62) ≤ i ∧ i < 2 ^ 62 ∧ -(2 ^ 62) ≤ j ∧ j < 2 ^ 62 ∧ (j - i).toNat ≤ 2 ^ 24 then .ok (.tup (rngD i (j - i).toNat)) st else .no := by rw [kRgT]
theorem q_kRgL : kRgL i j st = if -(2 ^ 62) ≤ i ∧ i < 2 ^ 62 ∧ -(2 ^ 62) ≤ j ∧ j < 2 ^ 62 ∧ (j - i).toNat ≤ 2 ^ 24 then .ok (.lst (rngD i (j - i).toNat)) st else .no := by rw [kRgL]
theorem q_allL : bAll [.lst (bs.map .bl)] st = some (.bl (bs.all id)) := by
  unfold bAll
  simp only [D.items, Option.bind_some, bolsOf_bols, Option.map_some]
theorem q_anyL : bAny [.lst (bs.map .bl)] st = some (.bl (bs.any id)) := by
  unfold bAny
  simp only [D.items, Option.bind_some, bolsOf_bols, Option.map_some]
theorem q_inFI : dInF neg st (.int i) (.tup (ns.map .int)) = some (.bl (if neg then !decide (i ∈ ns) else decide (i ∈ ns))) := by
  unfold dInF
  simp only [D.walk, Option.bind_some, intsOf_ints, Option.map_some]
theorem q_inFS : dInF neg st (.str s) (.tup (ss.map .str)) = some (.bl (if neg then !decide (s ∈ ss) else decide (s ∈ ss))) := by
  unfold dInF
  simp only [D.walk, Option.bind_some, strsOf_strs, Option.map_some]
end
end Zv
namespace Zv
open PySem PySem.Spec PyProof.Rows L2
/-! ## xs.index(x), x in a list of ints or of texts -/
theorem eqs_ints {A : Around} {s : Shared} {x : Value} {i : Int} (rx : RelV (.int i) x) : ∀ {ns : List Int} {us : List Value}, Vals (ns.map V.int) us → SeqAt.ItemsEq A s us ns x i
  | [], _, r => by cases r; exact ⟨rfl, fun j h1 _ => absurd h1 (Nat.not_lt_zero j)⟩
  | n :: ns, _, r => by
    cases r with
    | cons r1 r2 =>
      obtain ⟨hl, ih⟩ := eqs_ints (A := A) (s := s) rx r2
      refine ⟨by simp [hl], fun j h1 h2 => ?_⟩
      cases j with
      | zero =>
        have := eqAt_V (A := A) (s := s) r1 rx rfl rfl
        have e : eqV (.int n) (.int i) = decide (n = i) := by rw [eqV]; exact Bool.beq_eq_decide_eq ..
        rw [e] at this
        exact this
      | succ j => exact ih j (Nat.lt_of_succ_lt_succ h1) (Nat.lt_of_succ_lt_succ h2)
theorem eqs_strs {A : Around} {s : Shared} {x : Value} {i : Str} (rx : RelV (.str i) x) : ∀ {ns : List Str} {us : List Value}, Vals (ns.map V.str) us → SeqAt.ItemsEq A s us ns x i
  | [], _, r => by cases r; exact ⟨rfl, fun j h1 _ => absurd h1 (Nat.not_lt_zero j)⟩
  | n :: ns, _, r => by
    cases r with
    | cons r1 r2 =>
      obtain ⟨hl, ih⟩ := eqs_strs (A := A) (s := s) rx r2
      refine ⟨by simp [hl], fun j h1 h2 => ?_⟩
      cases j with
      | zero =>
        have := eqAt_V (A := A) (s := s) r1 rx rfl rfl
        have e : eqV (.str n) (.str i) = decide (n = i) := by
          rw [eqV]
          by_cases h : n = i
          · subst h; simp
          · rw [decide_eq_false h]; exact beq_eq_false_iff_ne.mpr h
        rw [e] at this
        exact this
      | succ j => exact ih j (Nat.lt_of_succ_lt_succ h1) (Nat.lt_of_succ_lt_succ h2)
section
variable {X : Cx} {o e : Expr} {apos cpos : Pos} {td ty : TE} {k : Pk} {mo me : EM}
def tLIx (K : PySem.W.Frag) (td ty : TE) : TE := fun σ H Q => td σ H fun x H1 => ∃ a xs, x = .ref a ∧ SqL K H1 a xs ∧ ty σ H1 fun y H2 =>
  (∃ (ns : List Int) (i : Int), SqL K H2 a (ns.map V.int) ∧ y = .int i ∧ i ∈ ns ∧ Q (.int (ns.idxOf i : Nat)) H2) ∨ ∃ (ns : List Str) (i : Str), SqL K H2 a (ns.map V.str) ∧ y = .str i ∧ i ∈ ns ∧ Q (.int (ns.idxOf i : Nat)) H2
theorem pe_lix (ho : PE X o td) (he : PE X e ty) (m : M1 X o "index" apos e cpos) : PE X (.Call (.Attribute o "index" apos) [e] [] cpos) (tLIx X.K td ty) := by
  constructor
  intro pins s σ H Q I h
  refine wpAny_Call_method m.base m.few m.line PySem.F.plainAttrs_list PySem.F.slot_list_index PySem.F.type_list_index (thn (ho.run pins s σ H _ I h) ?_)
  rintro u s1 ⟨x, H1, I1, rx, a, xs, rfl, hq, q1⟩
  obtain rfl : u = Value.ref a := rx
  obtain ⟨its, rv, pl, hz⟩ := I1.list hq
  have pl' := pl
  obtain ⟨ob, n, g1, g2, g3, g4⟩ := pl'
  refine ⟨pl.isList.typeIs, fun b z => by cases z; exact ⟨ob, g1, g3⟩, ?_⟩
  rw [m.trees]
  refine Calls.callWith_builtin rfl (Calls.evalArgs_plain (Calls.spliced_cons (thn (he.run pins s1 σ H1 _ I1 q1) ?_)))
  rintro v s2 ⟨y, H2, I2, ry, q2⟩
  refine Calls.spliced_nil ?_
  rcases q2 with ⟨ns, i, hq2, rfl, hi, q3⟩ | ⟨ns, i, hq2, rfl, hi, q3⟩
  · obtain ⟨its2, rv2, pl2, hz2⟩ := I2.list hq2
    exact SeqAt.call_list_index pl2.isList (eqs_ints ry rv2) (by simpa using hz2) hi ⟨.int (ns.idxOf i : Nat), H2, I2.tok _, ⟨_, rfl⟩, q3⟩
  · obtain ⟨its2, rv2, pl2, hz2⟩ := I2.list hq2
    exact SeqAt.call_list_index pl2.isList (eqs_strs ry rv2) (by simpa using hz2) hi ⟨.int (ns.idxOf i : Nat), H2, I2.tok _, ⟨_, rfl⟩, q3⟩
def dIndex (st : Store) (x y : D) : Option D := (x.items st).bind fun xs => match y with
  | .int i => (intsOf xs).bind fun ns => if i ∈ ns then some (.int (ns.idxOf i : Nat)) else none
  | .str i => (strsOf xs).bind fun ns => if i ∈ ns then some (.int (ns.idxOf i : Nat)) else none
  | _ => none
def isLst (st : Store) (x : D) : Bool := (x.items st).isSome
def kIxA (me : EM) (es : Sl) (x : D) (st : Store) : R D := if isLst st x then (me es st).bind fun y st2 => R.ofO (dIndex st2 x y) st2 else .no
def mIndex (mo me : EM) (es : Sl) (st : Store) : R D := (mo es st).bind (kIxA me es)
theorem zindex (ho : PE X o (lE X.K k mo)) (he : PE X e (lE X.K k me)) (m : M1 X o "index" apos e cpos) : PE X (.Call (.Attribute o "index" apos) [e] [] cpos) (lE X.K k (mIndex mo me)) :=
  PE.imp (pe_lix ho he m) fun σ H Q ⟨μ, st, es, so, ok, h⟩ => ⟨μ, st, es, so, ok, Aft.mono (Aft.bind h) (fun d st1 μ1 H1 p1 ok1 h1 v rv => by
    unfold kIxA at h1
    split at h1
    · rename_i hl
      unfold isLst at hl
      obtain ⟨xs, ex⟩ := Option.isSome_iff_exists.mp hl
      obtain ⟨a, vs, rfl, ea, ra⟩ := items_at ok1 rv ex
      refine ⟨a, vs, rfl, .inl (.inl ea), ⟨μ1, st1, es, so.step p1, ok1, Aft.mono (Aft.bind h1) (fun y st2 μ2 H2 p2 ok2 h2 u ru => ?_) fun _ _ _ z => z⟩⟩
      cases hd : dIndex st2 d y with
      | none => rw [hd] at h2; exact h2.elim
      | some w =>
        rw [hd] at h2
        unfold dIndex at hd
        simp only [Option.bind_eq_some_iff] at hd
        obtain ⟨ys, ey, hd⟩ := hd
        obtain ⟨b, ws, eb, eb2, rb⟩ := items_at ok2 (p2.rep _ _ rv) ey
        cases eb
        split at hd
        · simp only [Option.bind_eq_some_iff] at hd
          obtain ⟨ns, en, hd⟩ := hd
          split at hd
          · rename_i i hi
            cases hd
            rw [intsOf_map en] at rb
            rw [reps_of_ints rb] at eb2
            cases ru
            exact .inl ⟨ns, _, .inl (.inl eb2), rfl, hi, h2 μ2 H2 (Step.refl _ _) ok2 _ (.int _)⟩
          · cases hd
        · simp only [Option.bind_eq_some_iff] at hd
          obtain ⟨ns, en, hd⟩ := hd
          split at hd
          · rename_i i hi
            cases hd
            rw [strsOf_map en] at rb
            rw [reps_of_strs rb] at eb2
            cases ru
            exact .inr ⟨ns, _, .inl (.inl eb2), rfl, hi, h2 μ2 H2 (Step.refl _ _) ok2 _ (.int _)⟩
          · cases hd
        · cases hd
    · exact h1.elim) fun _ _ _ z => z⟩
end
end Zv
namespace Zv
open PySem PySem.Spec PyProof.Rows L2
/-! ## isinstance(x, T), T a built-in type -/
def D.ty (st : Store) : D → Option String
  | .non => some "NoneType"
  | .bl _ => some "bool"
  | .int _ => some "int"
  | .str _ => some "str"
  | .tup _ => some "tuple"
  | .lst _ => some "list"
  | .scr _ => some "list"
  | .dct _ _ => none
  | .dcu _ _ => none
  | .ref n => match st[n]? with
    | some (.lst _) => some "list"
    | _ => none
def isD (T t : String) : Bool := t == T || (t == "bool" && T == "int")
theorem rd_tup {K : PySem.W.Frag} {H : Hp} {μ : Mp} {a : Addr} {vs : List V} (h : TupAt K H μ a vs) : TyX K H (.ref a) (.type "tuple") := by
  rcases h with ⟨h | ⟨o, h⟩, _⟩ | ⟨o, its, n, h1, h2, _⟩
  · exact .base (.tup h)
  · exact .fTuple h
  · exact .kTuple h1 h2
theorem rd_scr {K : PySem.W.Frag} {H : Hp} {μ : Mp} {a : Addr} {vs : List V} (h : ScrAt K H μ a vs) : TyX K H (.ref a) (.type "list") := by
  rcases h with ⟨h | ⟨o, h⟩, _⟩ | ⟨o, its, n, h1, h2, _⟩
  · exact .base (.lst h)
  · exact .base (.frz h)
  · exact .kList h1 h2
theorem ty_of {K : PySem.W.Frag} {cl : Str → Option Addr} {H : Hp} {μ : Mp} {st : Store} {d : D} {v : V} {t : String} (ok : StOk K cl H μ st) (r : Rep K H μ d v) (e : d.ty st = some t) : TyX K H v (.type t) := by
  cases d with
  | non => cases e; cases r; exact .base .non
  | bl b => cases e; cases r; exact .base (.bl _)
  | int b => cases e; cases r; exact .base (.int _)
  | str b => cases e; cases r; exact .base (.str _)
  | tup b =>
    cases e
    cases r with
    | tup h1 h2 => exact rd_tup h1
  | lst b =>
    cases e
    cases r with
    | lst h1 h2 => exact .base (.lst h1.1)
  | scr b =>
    cases e
    cases r with
    | scr h1 => exact rd_scr h1
  | dct _ _ => cases e
  | dcu _ _ => cases e
  | ref n =>
    unfold D.ty at e
    simp only at e
    split at e
    · rename_i ds e0
      cases e
      obtain ⟨a, vs, rfl, e1, e2, r2⟩ := cellAt ok r e0
      exact .base (.lst e2)
    · cases e
theorem ty_in {st : Store} {d : D} {t : String} (e : d.ty st = some t) : t ∈ ["NoneType", "bool", "int", "str", "tuple", "list"] := by
  cases d with
  | ref n =>
    unfold D.ty at e
    simp only at e
    split at e
    · cases e; decide
    · cases e
  | _ => first | (cases e; decide) | cases e
/-- the kit's word for a type: ours, for the types that data have -/
def KitOk (K : PySem.W.Frag) (T : String) : Prop := ∀ t ∈ ["NoneType", "bool", "int", "str", "tuple", "list"], PySem.W.kitOne K (.type t) (.type T) = some (isD T t)
theorem kit_int (K : PySem.W.Frag) : KitOk K "int" := fun t ht => by
  simp only [List.mem_cons, List.not_mem_nil, or_false] at ht
  rcases ht with rfl | rfl | rfl | rfl | rfl | rfl <;> rfl
theorem kit_bool (K : PySem.W.Frag) : KitOk K "bool" := fun t ht => by
  simp only [List.mem_cons, List.not_mem_nil, or_false] at ht
  rcases ht with rfl | rfl | rfl | rfl | rfl | rfl <;> rfl
theorem kit_tuple (K : PySem.W.Frag) : KitOk K "tuple" := fun t ht => by
  simp only [List.mem_cons, List.not_mem_nil, or_false] at ht
  rcases ht with rfl | rfl | rfl | rfl | rfl | rfl <;> rfl
theorem kit_str (K : PySem.W.Frag) : KitOk K "str" := fun t ht => by
  simp only [List.mem_cons, List.not_mem_nil, or_false] at ht
  rcases ht with rfl | rfl | rfl | rfl | rfl | rfl <;> rfl
theorem kit_list (K : PySem.W.Frag) : KitOk K "list" := fun t ht => by
  simp only [List.mem_cons, List.not_mem_nil, or_false] at ht
  rcases ht with rfl | rfl | rfl | rfl | rfl | rfl <;> rfl
def kIsi (T : String) (d : D) (st : Store) : R D := match d.ty st with
  | some t => .ok (.bl (isD T t)) st
  | none => .no
def mIsi (T : String) (ma : EM) (es : Sl) (st : Store) : R D := (ma es st).bind (kIsi T)
section
variable {X : Cx} {k : Pk} {pos p p2 : Pos} {a : Expr} {ma : EM}
theorem zisi {T : String} {N : Str} (kt : KitOk X.K T) (hg : Gl X "isinstance") (hm : X.mg "isinstance" = none) (hv : bootBuiltins "isinstance" = some (.builtin "isinstance")) (hg2 : Gl X N) (hm2 : X.mg N = none) (hv2 : bootBuiltins N = some (.type T)) (ha : PE X a (lE X.K k ma))
    (hn : N ≠ "__name__" := by decide) (hd : (N == ("__debug__" : Str)) = false := by decide) (hs : starEach [a, .Name N p2] X.env = (false, eval a X.env) :: starEach [.Name N p2] X.env := by rfl) (hs2 : starEach [.Name N p2] X.env = (false, eval (.Name N p2) X.env) :: starEach [] X.env := by rfl) (hpl : (backTo pos (starEach [.Name N p2] X.env)).any (·.1) = false := by rfl) :
    PE X (.Call (.Name "isinstance" p) [a, .Name N p2] [] pos) (lE X.K k (mIsi T ma)) :=
  PE.imp (pe_callB call_isi hg hm hv (pa_cons ha (pa_cons (pe_bltn (v := .ty T) hg2 hm2 hv2 rfl hn hd) pa_nil hs2) hs) (he := hs) (hpl := hpl)) fun σ H Q ⟨μ, st, es, so, ok, h⟩ => ⟨μ, st, es, so, ok, Aft.mono (Aft.bind h) (fun d st1 μ1 H1 p1 ok1 h1 v rv => by
    unfold kIsi at h1
    split at h1
    · rename_i t et
      exact ⟨v, .ty T, .type t, .type T, isD T t, rfl, .ty T, ty_of ok1 rv et, kt t (ty_in et), h1 μ1 H1 (Step.refl _ _) ok1 _ (.bl _)⟩
    · exact h1.elim) fun _ _ _ z => z⟩
end
theorem bo_isi : bootBuiltins "isinstance" = some (.builtin "isinstance") := by decide +kernel
end Zv
namespace Zv
open PySem PySem.Spec PyProof.Rows L2
/-! ## {'a': .., 'b': ..}.get(x, y): a display of texts asked at once -/
def aPrs : List (Str × EM) → Sl → Store → R (List (Str × D))
  | [], _, st => .ok [] st
  | (s, m) :: r, es, st => (m es st).bind fun d st1 => (aPrs r es st1).bind fun ps st2 => .ok ((s, d) :: ps) st2
def findS : List (Str × D) → Str → Option D
  | [], _ => none
  | (k, d) :: r, s => if k = s then some d else findS r s
def kGetB (ps : List (Str × D)) (x : D) (y : D) (st : Store) : R D := match x with
  | .str s => .ok ((findS ps s).getD y) st
  | _ => .no
def kGetA (md : EM) (es : Sl) (ps : List (Str × D)) (x : D) (st : Store) : R D := (md es st).bind (kGetB ps x)
def kGet (mk md : EM) (es : Sl) (ps : List (Str × D)) (st : Store) : R D := (mk es st).bind (kGetA md es ps)
def mDGet (kms : List (Str × EM)) (mk md : EM) (es : Sl) (st : Store) : R D := ((aPrs kms es st).noex).bind (kGet mk md es)
def keyS (ps : List (Str × V)) : List (Key × V) := ps.map fun q => (.inr q.1, q.2)
inductive PRep (K : PySem.W.Frag) (H : Hp) (μ : Mp) : List (Str × D) → List (Str × V) → Prop
  | nil : PRep K H μ [] []
  | cons {s : Str} {d : D} {v : V} {ps : List (Str × D)} {qs : List (Str × V)} : Rep K H μ d v → PRep K H μ ps qs → PRep K H μ ((s, d) :: ps) ((s, v) :: qs)
theorem PRep.of {K : PySem.W.Frag} {H H' : Hp} {μ μ' : Mp} (h : ∀ d v, Rep K H μ d v → Rep K H' μ' d v) : ∀ {ps : List (Str × D)} {qs : List (Str × V)}, PRep K H μ ps qs → PRep K H' μ' ps qs
  | _, _, .nil => .nil
  | _, _, .cons r t => .cons (h _ _ r) (PRep.of h t)
theorem PRep.keys {K : PySem.W.Frag} {H : Hp} {μ : Mp} : ∀ {ps : List (Str × D)} {qs : List (Str × V)}, PRep K H μ ps qs → qs.map (·.1) = ps.map (·.1)
  | _, _, .nil => rfl
  | _, _, .cons r t => by rw [List.map_cons, List.map_cons, t.keys]
theorem PRep.find {K : PySem.W.Frag} {H : Hp} {μ : Mp} (s : Str) : ∀ {ps : List (Str × D)} {qs : List (Str × V)}, PRep K H μ ps qs → (findS ps s = none ∧ valV (keyS qs) (.inr s) = none) ∨ ∃ d v, findS ps s = some d ∧ valV (keyS qs) (.inr s) = some v ∧ Rep K H μ d v
  | _, _, .nil => .inl ⟨rfl, rfl⟩
  | _, _, @PRep.cons _ _ _ k d v ps qs r t => by
    by_cases h : k = s
    · refine .inr ⟨d, v, by rw [findS, if_pos h], ?_, r⟩
      show valV ((Sum.inr k, v) :: keyS qs) (Sum.inr s) = some v
      exact valV_pos (by rw [h])
    · have e1 : findS ((k, d) :: ps) s = findS ps s := by rw [findS, if_neg h]
      have e2 : valV (keyS ((k, v) :: qs)) (Sum.inr s) = valV (keyS qs) (Sum.inr s) := valV_neg (p := (Sum.inr k, v)) (r := keyS qs) fun z => h (Sum.inr.inj z)
      rw [e1, e2]
      exact t.find s
theorem merge_app : ∀ (more acc : List (Key × V)), (acc ++ more).map (·.1) |>.Nodup → mergeK acc more = acc ++ more
  | [], acc, _ => by simp [mergeK]
  | q :: more, acc, h => by
    have hq : (acc.any fun kv => decide (kv.1 = q.1)) = false := by
      rw [List.any_eq_false]
      intro kv hkv z
      rw [List.map_append, List.nodup_append] at h
      exact h.2.2 kv.1 (List.mem_map_of_mem hkv) q.1 (by simp) (of_decide_eq_true z)
    have e : putK acc q.1 q.2 = acc ++ [q] := by unfold putK; rw [hq]; rfl
    show mergeK (putK acc q.1 q.2) more = _
    rw [e, merge_app more (acc ++ [q]) (by rw [List.append_assoc]; exact h), List.append_assoc]
    rfl
theorem keyS_nodup {qs : List (Str × V)} (h : (qs.map (·.1)).Nodup) : ((keyS qs).map (·.1)).Nodup := by
  unfold keyS
  rw [List.map_map, List.Nodup, List.pairwise_map]
  rw [List.Nodup, List.pairwise_map] at h
  exact h.imp fun {a b} hab z => hab (Sum.inr.inj z)
section
variable {X : Cx} {k : Pk}
def trsOf (K : PySem.W.Frag) (k : Pk) (kms : List (Str × EM)) : List (TE × TE) := kms.map fun q => (tC (.str q.1), lE K k q.2)
theorem prs_walk {p : Addr} {es : Sl} {σ : L2.St} : ∀ (kms : List (Str × EM)) (μ : Mp) (H : Hp) (st : Store) (Q : List (V × V) → Hp → Prop), p ∈ μ.av → H p = some (.dK []) → SlOk X.K H μ es σ → StOk X.K k.cl H μ st →
    (∃ ps st', aPrs kms es st = .ok ps st' ∧ ∀ μ' H' qs, Step μ μ' H H' → StOk X.K k.cl H' μ' st' → PRep X.K H' μ' ps qs → Q (qs.map fun q => (V.str q.1, q.2)) H') → tPairs (trsOf X.K k kms) σ H Q
  | [], μ, H, st, Q, hp, he, so, ok, ⟨ps, st', e, h⟩ => by
    cases e
    exact h μ H [] (Step.refl _ _) ok .nil
  | (s, m) :: r, μ, H, st, Q, hp, he, so, ok, ⟨ps, st', e, h⟩ => by
    show lE X.K k m σ H _
    refine ⟨μ, st, es, so, ok, ?_⟩
    rw [aPrs] at e
    cases hm : m es st with
    | no => rw [hm] at e; cases e
    | ex x s1 => rw [hm] at e; cases e
    | ok d st1 =>
      rw [hm] at e
      simp only [R.bind_ok] at e
      cases hr : aPrs r es st1 with
      | no => rw [hr] at e; cases e
      | ex x s1 => rw [hr] at e; cases e
      | ok ps1 st2 =>
        rw [hr] at e
        cases e
        intro μ1 H1 p1 ok1 v rv
        have hp1 : p ∈ μ1.av := by rw [p1.av]; exact hp
        have nc : p ∉ μ.cs := fun z => by
          obtain ⟨i, hi, e⟩ := List.getElem_of_mem z
          have hi2 : i < st.length := by rw [← ok.len]; exact hi
          obtain ⟨a, e2, c⟩ := ok.cell i st[i] (List.getElem?_eq_getElem hi2)
          rw [List.getElem?_eq_getElem hi, e] at e2
          cases e2
          cases hc : st[i] with
          | lst ds => rw [hc] at c; obtain ⟨vs, q, _⟩ := c; rw [he] at q; cases q
          | obj n fs => rw [hc] at c; obtain ⟨C, dx, gs, _, q, _⟩ := c; rw [he] at q; cases q
        have he1 := p1.fr _ _ he nc
        refine prs_walk r μ1 H1 st1 _ hp1 he1 (so.step p1) ok1 ⟨ps1, _, hr, fun μ2 H2 qs p2 ok2 rq => ?_⟩
        exact h μ2 H2 ((s, v) :: qs) (p1.trans p2) ok2 (.cons (p2.rep _ _ rv) rq)
theorem zdget {pos apos cpos : Pos} {keys : List (Option Expr)} {values : List Expr} {a b : Expr} {mk md : EM} {kms : List (Str × EM)} (hu : X.A.units + 1 < cLine) (hnd : (kms.map (·.1)).Nodup) (h15 : kms.length ≤ 15)
    (hp : PPs X pos keys values (trsOf X.K k kms)) (hall : keys.all (·.isSome) = true) (hl : keys.length = values.length) (h0 : keys ≠ []) (hk15 : keys.length ≤ 15) (ha : PE X a (lE X.K k mk)) (hb : PE X b (lE X.K k md))
    (m : M2 X (.Dict keys values pos) "get" apos a b cpos) : PE X (.Call (.Attribute (.Dict keys values pos) "get" apos) [a, b] [] cpos) (lE X.K k (mDGet kms mk md)) :=
  PE.imp (pe_dget2 hu (pe_disp hp hall hl h0 hk15) ha hb m) fun σ H Q ⟨μ, st, es, so, ok, h⟩ => by
    intro p hpn
    have nc := ok.notin hpn
    have na := ok.notav hpn
    cases hr : aPrs kms es st with
    | no => unfold mDGet at h; rw [hr] at h; exact h.elim
    | ex x s1 => unfold mDGet at h; rw [hr] at h; exact h.elim
    | ok ps st1 =>
      unfold mDGet at h
      rw [hr] at h
      simp only [R.noex_ok, R.bind_ok] at h
      have hlen : ps.length = kms.length ∧ ps.map (·.1) = kms.map (·.1) := by
        have : ∀ (kms : List (Str × EM)) (st : Store) (ps : List (Str × D)) (st1 : Store), aPrs kms es st = .ok ps st1 → ps.length = kms.length ∧ ps.map (·.1) = kms.map (·.1) := by
          intro kms
          induction kms with
          | nil => intro st ps st1 e; cases e; exact ⟨rfl, rfl⟩
          | cons q r ih =>
            intro st ps st1 e
            obtain ⟨s, m⟩ := q
            rw [aPrs] at e
            cases hm : m es st with
            | no => rw [hm] at e; cases e
            | ex x s1 => rw [hm] at e; cases e
            | ok d s2 =>
              rw [hm] at e
              simp only [R.bind_ok] at e
              cases hq : aPrs r es s2 with
              | no => rw [hq] at e; cases e
              | ex x s1 => rw [hq] at e; cases e
              | ok ps1 s3 =>
                rw [hq] at e
                cases e
                obtain ⟨a1, a2⟩ := ih s2 ps1 _ hq
                exact ⟨by rw [List.length_cons, List.length_cons, a1], by rw [List.map_cons, List.map_cons, a2]⟩
        exact this kms st ps st1 hr
      refine prs_walk (p := p) kms ⟨μ.cs, p :: μ.av⟩ _ st _ List.mem_cons_self upd_same (sl_of (fun d v r => avoid_rep hpn r) so) (ok.of rfl (fun d v r => avoid_rep hpn r) (fun a ha => upd_ne (fun z => nc (z ▸ ha))) fun a ha => ?_) ⟨ps, st1, hr, fun μ1 H1 qs p1 ok1 rq => ?_⟩
      · by_cases q : a = p
        · subst q; rw [upd_same]; exact fun z => nomatch z
        · rw [upd_ne q]; exact ok.av a ((List.mem_cons.mp ha).resolve_left q)
      · obtain ⟨t1, e1, f1⟩ := p1.ext
        have e1' : μ1 = ⟨μ.cs ++ t1, p :: μ.av⟩ := e1
        subst e1'
        have he1 : H1 p = some (.dK []) := p1.fr _ _ upd_same nc
        have hk : mergeK [] (keyS qs) = keyS qs := merge_app (keyS qs) [] (by rw [List.nil_append]; exact keyS_nodup (by rw [rq.keys, hlen.2]; exact hnd))
        have hql : qs.length ≤ 15 := by
          have := congrArg List.length rq.keys
          rw [List.length_map, List.length_map] at this
          omega
        refine ⟨he1, keyS qs, by unfold keyS; rw [List.map_map]; rfl, by unfold keyS; rw [List.length_map]; exact hql, ?_⟩
        rw [hk]
        -- the dict stands
        have nc1 : p ∉ μ.cs ++ t1 := p1.notin upd_same nc
        have mem : p ∈ (⟨μ.cs ++ t1, p :: μ.av⟩ : Mp).av := List.mem_cons_self
        have ok2 : StOk X.K k.cl (upd H1 p (.dK (keyS qs))) ⟨μ.cs ++ t1, p :: μ.av⟩ st1 := by
          refine ok1.of rfl (fun d v r => apart_rep mem r) (fun a ha => upd_ne (fun z => nc1 (z ▸ ha))) fun a ha => ?_
          by_cases q : a = p
          · subst q; rw [upd_same]; exact fun z => nomatch z
          · rw [upd_ne q]; exact ok1.av a ha
        have ok3 : StOk X.K k.cl (upd H1 p (.dK (keyS qs))) ⟨μ.cs ++ t1, μ.av⟩ st1 := ok2.of rfl (fun d v r => unavoid_rep r) (fun _ _ => rfl) fun a ha => ok2.av a (List.mem_cons_of_mem _ ha)
        have s1 : Step μ ⟨μ.cs ++ t1, μ.av⟩ H (upd H1 p (.dK (keyS qs))) := by
          refine ⟨⟨t1, rfl, fun a ha => ?_⟩, fun a o ea hn => ?_, fun a ea => ?_⟩
          · have := f1 a ha
            by_cases q : a = p
            · rw [q]; exact hpn
            · rwa [upd_ne q] at this
          · rw [upd_ne (ne_of_none ea hpn)]
            exact p1.fr a o (by rw [upd_ne (ne_of_none ea hpn)]; exact ea) hn
          · by_cases q : a = p
            · rw [q]; exact hpn
            · rw [upd_ne q] at ea
              have := p1.dom a ea
              rwa [upd_ne q] at this
        have rq3 : PRep X.K (upd H1 p (.dK (keyS qs))) ⟨μ.cs ++ t1, μ.av⟩ ps qs := rq.of fun d v r => unavoid_rep (apart_rep mem r)
        have hd : (upd H1 p (.dK (keyS qs))) p = some (.dK (keyS qs)) := upd_same
        have h3 := Aft.step s1 h
        refine ⟨p, rfl, .inl ⟨keyS qs, .inl hd⟩, ⟨⟨μ.cs ++ t1, μ.av⟩, st1, es, so.step s1, ok3, Aft.mono (Aft.bind h3) (fun x st2 μ2 H2 p2 ok4 h4 v rv => ?_) fun _ _ _ z => z⟩⟩
        refine ⟨μ2, st2, es, (so.step s1).step p2, ok4, Aft.mono (Aft.bind h4) (fun y st3 μ3 H3 p3 ok5 h5 u ru => ?_) fun _ _ _ z => z⟩
        have rv3 := p3.rep _ _ rv
        have hd2 := p2.fr _ _ hd nc1
        have nc2 := p2.notin hd nc1
        have hd3 := p3.fr _ _ hd2 nc2
        have rq5 : PRep X.K H3 μ3 ps qs := rq3.of fun d v r => p3.rep _ _ (p2.rep _ _ r)
        unfold kGetB at h5
        split at h5
        · rename_i s
          cases rv3
          rcases rq5.find s with ⟨f1, f2⟩ | ⟨d, w, f1, f2, f3⟩
          · refine ⟨none, .inl ⟨keyS qs, .inr s, .inl hd3, rfl, f2.symm⟩, ?_⟩
            rw [f1] at h5
            exact h5 μ3 H3 (Step.refl _ _) ok5 _ ru
          · refine ⟨some w, .inl ⟨keyS qs, .inr s, .inl hd3, rfl, f2.symm⟩, ?_⟩
            rw [f1] at h5
            exact h5 μ3 H3 (Step.refl _ _) ok5 _ f3
        · exact h5.elim
theorem zprs_nil {pos : Pos} : PPs X pos [] [] (trsOf X.K k []) := pps_nil
theorem zprs_cons {pos kp : Pos} {j : Nat} {s : Str} {v : Expr} {ks : List (Option Expr)} {vs : List Expr} {mv : EM} {kms : List (Str × EM)} (hv : PE X v (lE X.K k mv)) (hr : PPs X pos ks vs (trsOf X.K k kms)) : PPs X pos (some (.Constant (.str s) j kp) :: ks) (v :: vs) (trsOf X.K k ((s, mv) :: kms)) :=
  pps_cons pe_str hv hr
end
end Zv
namespace Zv
open PySem PySem.Spec L2
/-! ## data of small ints, truths and None, nested: shown -/
mutual
def D.small : D → Bool
  | .non => true
  | .bl _ => true
  | .int i => decide (i.natAbs < 2 ^ 64)
  | .tup xs => D.smalls xs
  | .lst xs => D.smalls xs
  | _ => false
def D.smalls : List D → Bool
  | [] => true
  | x :: xs => x.small && D.smalls xs
end
mutual
def D.dep : D → Nat
  | .tup xs => D.deps xs + 1
  | .lst xs => D.deps xs + 1
  | _ => 0
def D.deps : List D → Nat
  | [] => 0
  | x :: xs => max x.dep (D.deps xs)
end
mutual
def D.wei : D → Nat
  | .int _ => 65
  | .tup xs => D.weis xs
  | .lst xs => D.weis xs
  | _ => 0
def D.weis : List D → Nat
  | [] => 0
  | x :: xs => x.wei + 1 + D.weis xs
end
structure Shw (p : PyData) (dep wei : Nat) : Prop where
  sh : p.showable = true
  lay : p.canLay0 = true
  le : p.leavesShort 24 = true
  dp : p.depth ≤ dep
  we : p.weight ≤ wei
structure Shws (ps : List PyData) (dep wei : Nat) : Prop where
  sh : PyData.showableAll ps = true
  lay : PyData.canLayAll0 ps = true
  le : PyData.leavesShortAll 24 ps = true
  dp : PyData.depthAll ps ≤ dep
  we : PyData.weightAll ps ≤ wei
theorem shw_int {i : Int} (h : i.natAbs < 2 ^ 64) : Shw (.int i) 0 65 := by
  have a := showable_ints [i] fun x hx => by rw [List.mem_singleton.mp hx]; exact h
  have b := short_ints [i] fun x hx => by rw [List.mem_singleton.mp hx]; exact h
  have c := weight_ints [i] fun x hx => by rw [List.mem_singleton.mp hx]; exact h
  simp only [List.map_cons, List.map_nil, PyData.showableAll, PyData.leavesShortAll, PyData.weightAll, Bool.and_true, List.length_cons, List.length_nil] at a b c
  exact ⟨a, by rw [PyData.canLay0], b, by rw [PyData.depth]; exact Nat.le_refl _, by omega⟩
mutual
theorem small_py : ∀ d : D, d.small = true → ∃ p, d.py = some p ∧ Shw p d.dep d.wei
  | .non, _ => ⟨.none, by rw [D.py], by rw [PyData.showable], by rw [PyData.canLay0], by rw [PyData.leavesShort], by rw [PyData.depth]; exact Nat.zero_le _, by rw [PyData.weight]; exact Nat.zero_le _⟩
  | .bl b, _ => ⟨.bool b, by rw [D.py], by rw [PyData.showable], by rw [PyData.canLay0], by rw [PyData.leavesShort], by rw [PyData.depth]; exact Nat.zero_le _, by rw [PyData.weight]; exact Nat.zero_le _⟩
  | .int i, h => by
    rw [D.small] at h
    rw [D.dep, D.wei]
    · exact ⟨.int i, by rw [D.py], shw_int (of_decide_eq_true h)⟩
    all_goals (intro _ e; cases e)
  | .tup xs, h => by
    rw [D.small] at h
    obtain ⟨ps, e, s⟩ := smalls_py xs h
    refine ⟨.tuple ps, by rw [D.py, e]; rfl, ?_⟩
    rw [D.dep, D.wei]
    exact ⟨by rw [PyData.showable]; exact s.sh, by rw [PyData.canLay0]; exact s.lay, by rw [PyData.leavesShort]; exact s.le, by rw [PyData.depth]; exact Nat.succ_le_succ s.dp, by rw [PyData.weight]; exact s.we⟩
  | .lst xs, h => by
    rw [D.small] at h
    obtain ⟨ps, e, s⟩ := smalls_py xs h
    refine ⟨.list ps, by rw [D.py, e]; rfl, ?_⟩
    rw [D.dep, D.wei]
    exact ⟨by rw [PyData.showable]; exact s.sh, by rw [PyData.canLay0]; exact s.lay, by rw [PyData.leavesShort]; exact s.le, by rw [PyData.depth]; exact Nat.succ_le_succ s.dp, by rw [PyData.weight]; exact s.we⟩
  | .str _, h => nomatch h
  | .ref _, h => nomatch h
  | .scr _, h => nomatch h
theorem smalls_py : ∀ ds : List D, D.smalls ds = true → ∃ ps, D.pys ds = some ps ∧ Shws ps (D.deps ds) (D.weis ds)
  | [], _ => ⟨[], by rw [D.pys], by rw [PyData.showableAll], by rw [PyData.canLayAll0], by rw [PyData.leavesShortAll], by rw [PyData.depthAll]; exact Nat.zero_le _, by rw [PyData.weightAll]; exact Nat.zero_le _⟩
  | d :: ds, h => by
    rw [D.smalls, Bool.and_eq_true] at h
    obtain ⟨p, e, s⟩ := small_py d h.1
    obtain ⟨ps, e2, s2⟩ := smalls_py ds h.2
    refine ⟨p :: ps, by rw [D.pys, e, e2]; rfl, ?_⟩
    rw [D.deps, D.weis]
    refine ⟨by rw [PyData.showableAll, s.sh, s2.sh]; rfl, by rw [PyData.canLayAll0, s.lay, s2.lay]; rfl, by rw [PyData.leavesShortAll, s.le, s2.le]; rfl, ?_, ?_⟩
    · rw [PyData.depthAll]
      have := s.dp
      have := s2.dp
      omega
    · rw [PyData.weightAll]
      have := s.we
      have := s2.we
      omega
end
theorem repr_small {d : D} {st : Store} (hn : ∀ n, d ≠ .ref n) (h : d.small = true) (hd : d.dep ≤ 64) (hw : d.wei ≤ 600000) : ∃ s : Str, bRepr [d] st = some (.str s) := by
  obtain ⟨p, e, s⟩ := small_py d h
  have e' : d.pyS st = some p := by
    cases d with
    | ref n => exact absurd rfl (hn n)
    | _ => exact e
  have l := PyData.shown_le 24 (by decide) p s.le
  have hs : sizeLine = 16777216 := rfl
  have w := s.we
  have dd := s.dp
  refine ⟨p.shown, ?_⟩
  unfold bRepr
  simp only [e', Option.bind_some]
  rw [if_pos ⟨s.sh, PyData.hasDict_of_canLay _ s.lay, by omega, by omega⟩]
end Zv
namespace Zp
open PySem L2 Zv PyProof.Rows

/-! _law_setting: box p n -/
noncomputable def M__law_setting : SM :=
    (sSeq (sAsg (.nm 1) (mCall 2 F__law_pick (aCons (mVar 0) (aCons (mLst (aCons (mC (.int 2)) (aCons (mC (.int 3)) (aCons (mC (.int 5)) (aCons (mC (.int 5)) (aCons (mC (.int 7)) (aCons (mC (.int 7)) (aCons (mC (.int 11)) (aCons (mC (.int 13)) (aCons (mC (.int 101)) (aCons (mC (.int 10007)) aNil))))))))))) aNil))))
    (sSeq (sAsg (.nm 2) (mOp dAdd (mC (.int 1)) (mCall 2 F__law_draw (aCons (mVar 0) (aCons (mB bMin (aCons (mC (.int 9)) (aCons (mOp dSub (mVar 1) (mC (.int 1))) aNil))) aNil)))))
    (sRet (mTup (aCons (mC (.str "setting")) (aCons (mVar 1) (aCons (mVar 2) (aCons (mCall 2 F__law_draw (aCons (mVar 0) (aCons (mOp dFdv (mOp dAdd (mVar 2) (mC (.int 1))) (mC (.int 2))) aNil))) aNil))))))))
noncomputable def F__law_setting : FM := runF 3 M__law_setting

/-! _law_program: box setting most turns p n t rows wires before k kind row a b -/
noncomputable def B__law_program1 : SM :=
    (sSeq (sAsg (.nm 11) (mCall 2 F__law_draw (aCons (mVar 0) (aCons (mC (.int 13)) aNil))))
    (sSeq (sAsg (.nm 12) (mTup (aCons (mC (.str "in")) (aCons (mOp dAdd (mC (.int 1)) (mCall 2 F__law_draw (aCons (mVar 0) (aCons (mVar 5) aNil)))) aNil))))
    (sSeq (sIf (mTest (mOp dEq (mVar 11) (mC (.int 3))))
    (sAsg (.nm 12) (mTup (aCons (mC (.str "const")) (aCons (mCall 2 F__law_number (aCons (mVar 0) (aCons (mVar 4) aNil))) aNil))))
    sNil)
    (sSeq (sIf (Zv.tAnd (mTest (mOp dNe (mVar 9) (mLst aNil))) (mTest (mOp (dInF false) (mVar 11) (mTup (aCons (mC (.int 4)) (aCons (mC (.int 5)) (aCons (mC (.int 12)) aNil)))))))
    (sAsg (.nm 12) (mTup (aCons (mC (.str "kept")) (aCons (mCall 2 F__law_pick (aCons (mVar 0) (aCons (mVar 9) aNil))) aNil))))
    (sIf (mTest (mOp dNe (mVar 8) (mLst aNil)))
    (sSeq (sAsg (.nm 13) (mCall 2 F__law_pick (aCons (mVar 0) (aCons (mVar 8) aNil))))
    (sSeq (sAsg (.nm 14) (mCall 2 F__law_pick (aCons (mVar 0) (aCons (mVar 8) aNil))))
    (sSeq (sIf (mTest (mOp (dInF false) (mVar 11) (mTup (aCons (mC (.int 4)) (aCons (mC (.int 5)) (aCons (mC (.int 6)) aNil))))))
    (sAsg (.nm 12) (mTup (aCons (mC (.str "product")) (aCons (mVar 13) (aCons (mVar 14) aNil)))))
    sNil)
    (sSeq (sIf (mTest (mOp dEq (mVar 11) (mC (.int 7))))
    (sAsg (.nm 12) (mTup (aCons (mC (.str "sum")) (aCons (mVar 13) (aCons (mVar 14) aNil)))))
    sNil)
    (sSeq (sIf (mTest (mOp dEq (mVar 11) (mC (.int 8))))
    (sAsg (.nm 12) (mTup (aCons (mC (.str "less")) (aCons (mVar 13) (aCons (mVar 14) aNil)))))
    sNil)
    (sSeq (sIf (mTest (mOp dEq (mVar 11) (mC (.int 9))))
    (sAsg (.nm 12) (mTup (aCons (mC (.str "times")) (aCons (mCall 2 F__law_number (aCons (mVar 0) (aCons (mVar 4) aNil))) (aCons (mVar 13) aNil)))))
    sNil)
    (sIf (mTest (mOp dEq (mVar 11) (mC (.int 10))))
    (sAsg (.nm 12) (mTup (aCons (mC (.str "out")) (aCons (mVar 13) (aCons (mOp dAdd (mC (.int 1)) (mCall 2 F__law_draw (aCons (mVar 0) (aCons (mVar 5) aNil)))) aNil)))))
    sNil)))))))
    sNil))
    (sSeq (sIf (Zv.tAnd (mTest (mOp dEq (mVar 11) (mC (.int 11)))) (mTest (mOp dGt (mVar 3) (mC (.int 0)))))
    (sSeq (sAsg (.nm 12) (mTup (aCons (mC (.str "next")) aNil)))
    (sSeq (sAsg (.nm 3) (mOp dSub (mVar 3) (mC (.int 1))))
    (sSeq (sAsg (.nm 9) (mVar 8))
    (sAsg (.nm 8) (mLst aNil)))))
    (sIf (mTest (mOp dNe (mOp dIx (mVar 12) (mC (.int 0))) (mC (.str "out"))))
    (sAsg (.nm 8) (mOp dAdd (mVar 8) (mLst (aCons (mVar 10) aNil))))
    sNil))
    (sApp (mVar 7) (mVar 12)))))))
noncomputable def M__law_program : SM :=
    (sSeq (sAsg (.tp [(.nm 4), (.nm 5), (.nm 6)]) (mSl (mVar 1) (pSome (mC (.int 1))) pNone))
    (sSeq (sBox 7 (mLst aNil))
    (sSeq (sAsg (.nm 8) (mLst aNil))
    (sSeq (sAsg (.nm 9) (mLst aNil))
    (sSeq (sFor (mRng1 (aCons (mOp dAdd (mC (.int 1)) (mCall 2 F__law_draw (aCons (mVar 0) (aCons (mVar 2) aNil)))) aNil)) (.nm 10) B__law_program1)
    (sRet (mTup (aCons (mC (.str "program")) (aCons (mB bTuple (aCons (mVar 7) aNil)) aNil)))))))))
noncomputable def F__law_program : FM := runF 15 M__law_program

/-! _law_inputs: box setting program row -/
noncomputable def M__law_inputs : SM :=
    (sRet (mCall 3 F__law_numbers (aCons (mVar 0) (aCons (mOp dIx (mVar 1) (mC (.int 1))) (aCons (mB bLen (aCons (mLC [3] (mIt (mOp dIx (mVar 2) (mC (.int 1)))) (.nm 3) (mTest (mOp dEq (mOp dIx (mVar 3) (mC (.int 0))) (mC (.str "in")))) (mVar 3)) aNil)) aNil)))))
noncomputable def F__law_inputs : FM := runF 4 M__law_inputs

end Zp
namespace Zp
open PySem L2 Zv PyProof.Rows Zn
theorem prm_2 : prm 2 := by
  refine ⟨by decide, fun d h1 h2 _ => ?_⟩
  have h3 := Nat.mul_le_mul h1 h1
  have h4 : ((d * d : Nat) : Int) ≤ 2 := by rw [Int.natCast_mul]; exact h2
  omega
/-- a right setting -/
structure Sett (p n t : Int) : Prop where
  pr : prm p
  le : p ≤ 10007
  n1 : 1 ≤ n
  n9 : n ≤ 9
  np : n < p
  t0 : 0 ≤ t
  tn : 2 * t + 1 ≤ n
abbrev settD (p n t : Int) : D := .tup [.str "setting", .int p, .int n, .int t]
theorem setting_is {ds : List Int} {m : Nat} {st : Store} : ∃ p n t : Int, Sett p n t ∧ F__law_setting [.ref 0] (Box ds m :: st) = .ok (settD p n t) (Box ds (m + 3) :: st) := by
  obtain ⟨p, hp, ep⟩ := pickI (ds := ds) (n := m) (st := st) (is := [2, 3, 5, 5, 7, 7, 11, 13, 101, 10007]) (by simp)
  have hpr : prm p := by
    simp only [List.mem_cons, List.not_mem_nil, or_false] at hp
    rcases hp with rfl | rfl | rfl | rfl | rfl | rfl | rfl | rfl | rfl | rfl
    · exact prm_2
    · exact prm_of (n := 3) (k := 0) (by decide) (by decide) (by decide)
    · exact prm_of (n := 5) (k := 1) (by decide) (by decide) (by decide)
    · exact prm_of (n := 5) (k := 1) (by decide) (by decide) (by decide)
    · exact prm_of (n := 7) (k := 2) (by decide) (by decide) (by decide)
    · exact prm_of (n := 7) (k := 2) (by decide) (by decide) (by decide)
    · exact prm_of (n := 11) (k := 2) (by decide) (by decide) (by decide)
    · exact prm_of (n := 13) (k := 2) (by decide) (by decide) (by decide)
    · exact prm_of (n := 101) (k := 4) (by decide) (by decide) (by decide)
    · exact prm_of (n := 10007) (k := 7) (by decide) (by decide +kernel) (by decide)
  have hp3 : p ≤ 10007 := by
    simp only [List.mem_cons, List.not_mem_nil, or_false] at hp
    omega
  have hp2 := hpr.1
  obtain ⟨q, hq⟩ : ∃ q : Int, (if p - 1 < 9 then p - 1 else 9) = q := ⟨_, rfl⟩
  have hq1 : 0 < q ∧ q ≤ 9 ∧ q ≤ p - 1 := by rw [← hq]; split <;> omega
  have e1 := draw_is (ds := ds) (n := m + 1) (many := q) (st := st) hq1.1
  have a1 := drw_nn (ds := ds) (n := m + 1) hq1.1
  have a2 := drw_lt (ds := ds) (n := m + 1) hq1.1
  obtain ⟨n, hn⟩ : ∃ n : Int, 1 + drw ds (m + 1) q = n := ⟨_, rfl⟩
  have h2 : 0 < (n + 1) / 2 := by omega
  have e2 := draw_is (ds := ds) (n := m + 1 + 1) (many := (n + 1) / 2) (st := st) h2
  have b1 := drw_nn (ds := ds) (n := m + 1 + 1) h2
  have b2 := drw_lt (ds := ds) (n := m + 1 + 1) h2
  obtain ⟨t, ht⟩ : ∃ t : Int, drw ds (m + 1 + 1) ((n + 1) / 2) = t := ⟨_, rfl⟩
  rw [ht] at e2 b1 b2
  have z4 : 4 ≤ sizeLine := by rw [sz]; omega
  have z10 : 10 ≤ sizeLine := by rw [sz]; omega
  have w2 : (0 : Int) < 2 ∧ (2 : Int) < 1073741824 := by decide
  simp only [List.map_cons, List.map_nil] at ep
  refine ⟨p, n, t, ⟨hpr, hp3, by omega, by omega, by omega, b1, by omega⟩, ?_⟩
  simp only [F__law_setting, M__law_setting, z4, z10, ep, hq, e1, hn, w2, e2, q_runF, q_kFin, q_kFinN, q_mC, q_v0, q_v1, q_v2, q_v3, q_v4, q_v5, q_v6, q_v7, q_v8, q_v9, q_v10, q_v11, q_v12, q_v13, q_mOp, q_mTest, q_kB, q_kAnd, q_kOr, q_kNot, q_kNeg, q_kChT, q_kChF, q_mTru, q_tAnd, q_tOr, q_tNot, q_tYes, q_eAnd, q_eOr, q_eNot, q_mIf, q_aNil, q_aCons, q_mTup, q_mLst, q_mB, q_mCall, q_mNeg, q_mChain, q_sNil, q_sSeq, q_sExpr, q_sRet, q_sRetN, q_sBk, q_sCt, q_sIf, q_sAsg, q_kPutN, q_sBox, q_kBox, q_sApp, q_sSetI, q_sAug, q_kAug, q_kAug2, q_sFor, q_mRng1, q_kR1, q_kR2, q_mRng2, q_mIt, q_kItL, q_kItT, q_addI, q_addS, q_addT, q_addL, q_sub, q_mul, q_mod, q_fdv, q_pow, q_lt, q_le, q_gt, q_ge, q_iadd, q_isub, q_isN, q_notN, q_isNon_non, q_isNon_int, q_isNon_tup, q_isNon_lst, q_eqI, q_eqS, q_neI, q_neS, q_ixT, q_ixL, q_ixS, q_ixR0, q_int, q_intb, q_lenT, q_lenC, q_lenL, q_min, q_max, q_tupL, q_tupT, q_listL, q_listT, q_truB, q_truI, q_truT, q_truL, q_truN, q_bind, q_toS, q_nx, q_rt, q_bk, q_ct, q_ofO, q_noex, List.set_cons_zero, List.set_cons_succ, List.getElem?_cons_zero, List.getElem?_cons_succ, Option.map_some, Option.bind_some, List.length_cons, List.length_nil, List.map_cons, List.map_nil, Nat.reduceAdd, Nat.reduceSub, Nat.reduceLeDiff, Nat.reduceEqDiff, List.replicate_succ, List.replicate_zero, List.cons_append, List.nil_append, ↓reduceIte, if_true, if_false, Bool.false_eq_true, decide_true, decide_false, Bool.not_true, Bool.not_false, and_self, and_true, true_and, or_true, true_or, not_true_eq_false, not_false_eq_true, q_v14, q_v15, q_v16, q_v17, q_mEnum, q_kEnum, q_mZip, q_kZip, q_mRev, q_kRev, q_aStar, q_kSt, q_pNone, q_pSome, q_kPart, q_mSl, q_kSl2, q_kSl3, q_kCutT, q_kCutL, q_wkL, q_wkT, q_wkS]
  exact leave_head (box_lo _ _ _) (by simp [D.lo, D.los])
end Zp
namespace Zp
open PySem L2 Zv PyProof.Rows Zn
/-- the rows of a program -/
inductive Rw where
  | inp (q : Int)
  | con (c : Int)
  | kep (a : Nat)
  | pro (a b : Nat)
  | sm (a b : Nat)
  | les (a b : Nat)
  | tim (c : Int) (a : Nat)
  | out (a : Nat) (q : Int)
  | nxt
def Rw.d : Rw → D
  | .inp q => .tup [.str "in", .int q]
  | .con c => .tup [.str "const", .int c]
  | .kep a => .tup [.str "kept", .int (a : Int)]
  | .pro a b => .tup [.str "product", .int (a : Int), .int (b : Int)]
  | .sm a b => .tup [.str "sum", .int (a : Int), .int (b : Int)]
  | .les a b => .tup [.str "less", .int (a : Int), .int (b : Int)]
  | .tim c a => .tup [.str "times", .int c, .int (a : Int)]
  | .out a q => .tup [.str "out", .int (a : Int), .int q]
  | .nxt => .tup [.str "next"]
/-- a row that gives a wire, right for the wires w of its epoch and b of the one ahead -/
def Rw.gives (p n : Int) (w b : List Nat) : Rw → Prop
  | .inp q => 1 ≤ q ∧ q ≤ n
  | .con c => 0 ≤ c ∧ c < p
  | .kep a => a ∈ b
  | .pro a c => a ∈ w ∧ c ∈ w
  | .sm a c => a ∈ w ∧ c ∈ w
  | .les a c => a ∈ w ∧ c ∈ w
  | .tim c a => (0 ≤ c ∧ c < p) ∧ a ∈ w
  | .out _ _ => False
  | .nxt => False
/-- rows that a program may have: with the wires of the last epoch and of the one ahead of it -/
inductive Pg (p n : Int) : List Rw → List Nat → List Nat → Prop
  | nil : Pg p n [] [] []
  | row {rs : List Rw} {w b : List Nat} {r : Rw} : Pg p n rs w b → r.gives p n w b → Pg p n (rs ++ [r]) (w ++ [rs.length]) b
  | out {rs : List Rw} {w b : List Nat} {a : Nat} {q : Int} : Pg p n rs w b → a ∈ w → 1 ≤ q → q ≤ n → Pg p n (rs ++ [.out a q]) w b
  | nxt {rs : List Rw} {w b : List Nat} : Pg p n rs w b → Pg p n (rs ++ [.nxt]) [] w
theorem Pg.wlen {p n : Int} {rs : List Rw} {w b : List Nat} (h : Pg p n rs w b) : w.length ≤ rs.length := by
  induction h with
  | nil => exact Nat.le_refl _
  | row _ _ ih => simp; exact ih
  | out _ _ _ _ ih => simp; omega
  | nxt _ ih => simp
abbrev natD (w : List Nat) : D := .lst ((w.map fun (j : Nat) => (j : Int)).map .int)
theorem ne_nil {st : Store} {ns : List Int} : dNe st (.lst (ns.map .int)) (.lst []) = some (.bl (!decide (ns = []))) := by
  cases ns with
  | nil => exact ne_li (ns := []) (ms := []) rfl
  | cons x xs =>
    show (dEqP st (.lst ((x :: xs).map .int)) (.lst (([] : List Int).map .int))).map _ = _
    unfold dEqP
    rw [py_li, py_li]
    simp only [Option.bind_some, shaped_li, and_self, if_true]
    simp [PyData.eqv, PyData.eqvAll]
theorem pickW {ds : List Int} {n : Nat} {w : List Nat} {st : Store} (h : w ≠ []) : ∃ a ∈ w, F__law_pick [.ref 0, natD w] (Box ds n :: st) = .ok (.int (a : Int)) (Box ds (n + 1) :: st) := by
  obtain ⟨i, hi, e⟩ := pickI (ds := ds) (n := n) (st := st) (is := w.map fun (j : Nat) => (j : Int)) (by rw [List.length_map]; exact List.length_pos_iff.mpr h)
  obtain ⟨a, ha, rfl⟩ := List.mem_map.mp hi
  exact ⟨a, ha, e⟩
theorem prog_turn {ds : List Int} {m : Nat} {st : Store} {x1 x2 x6 o11 o12 o13 o14 : Option D} {p n turns : Int} {rs : List Rw} {w b : List Nat} (hp : 0 < p) (hn : 1 ≤ n) (hz : rs.length ≤ 1000) (hpg : Pg p n rs w b) :
    ∃ (r : Rw) (turns' : Int) (w' b' : List Nat) (m' : Nat) (o11' o12' o13' o14' : Option D), B__law_program1 [some (.ref 0), x1, x2, some (.int turns), some (.int p), some (.int n), x6, some (.ref (st.length + 1)), some (natD w), some (natD b), some (.int (rs.length : Int)), o11, o12, o13, o14] (Box ds m :: (st ++ [.lst (rs.map Rw.d)])) =
      .ok .nx [some (.ref 0), x1, x2, some (.int turns'), some (.int p), some (.int n), x6, some (.ref (st.length + 1)), some (natD w'), some (natD b'), some (.int (rs.length : Int)), o11', o12', o13', o14'] (Box ds m' :: (st ++ [.lst ((rs ++ [r]).map Rw.d)])) ∧ Pg p n (rs ++ [r]) w' b' := by
  have v13 : (0 : Int) < 13 := by decide
  have hn0 : 0 < n := by omega
  have dd : ∀ (q : Nat) (many : Int) (h : 0 < many), F__law_draw [.ref 0, .int many] (Box ds q :: (st ++ [.lst (rs.map Rw.d)])) = .ok (.int (drw ds q many)) (Box ds (q + 1) :: (st ++ [.lst (rs.map Rw.d)])) := fun q many h => draw_is h
  have nn : ∀ q : Nat, F__law_number [.ref 0, .int p] (Box ds q :: (st ++ [.lst (rs.map Rw.d)])) = .ok (.int (num ds q p)) (Box ds (q + 2) :: (st ++ [.lst (rs.map Rw.d)])) := fun q => number_is hp
  have k0 := drw_nn (ds := ds) (n := m) v13
  have k1 := drw_lt (ds := ds) (n := m) v13
  obtain ⟨κ, hκ⟩ : ∃ κ, drw ds m 13 = κ := ⟨_, rfl⟩
  rw [hκ] at k0 k1
  have q0 := drw_nn (ds := ds) (n := m + 1) hn0
  have q1 := drw_lt (ds := ds) (n := m + 1) hn0
  obtain ⟨q, hq⟩ : ∃ q, 1 + drw ds (m + 1) n = q := ⟨_, rfl⟩
  have hqq : 1 ≤ q ∧ q ≤ n := by omega
  have z1 : 1 ≤ sizeLine := by rw [sz]; omega
  have z0 : 0 ≤ sizeLine := Nat.zero_le _
  have z2 : 2 ≤ sizeLine := by rw [sz]; omega
  have z3 : 3 ≤ sizeLine := by rw [sz]; omega
  have gn : Rw.gives p n w b (.inp q) := hqq
  have i1 : ∀ s, dInF false s (.int κ) (.tup [.int 4, .int 5, .int 12]) = some (.bl (decide (κ ∈ [4, 5, 12]))) := fun s => q_inFI (ns := [4, 5, 12]) (neg := false)
  have i2 : ∀ s, dInF false s (.int κ) (.tup [.int 4, .int 5, .int 6]) = some (.bl (decide (κ ∈ [4, 5, 6]))) := fun s => q_inFI (ns := [4, 5, 6]) (neg := false)
  have nb : ∀ s, dNe s (natD b) (.lst []) = some (.bl (!decide ((b.map fun (j : Nat) => (j : Int)) = []))) := fun s => ne_nil
  have nw : ∀ s, dNe s (natD w) (.lst []) = some (.bl (!decide ((w.map fun (j : Nat) => (j : Int)) = []))) := fun s => ne_nil
  have lz : (rs.map Rw.d).length < sizeLine := by rw [List.length_map, sz]; omega
  have ap : ∀ (me : EM) (es : Sl) (k : Nat), kApp me es (.ref (st.length + 1)) (Box ds k :: (st ++ [.lst (rs.map Rw.d)])) = (me es (Box ds k :: (st ++ [.lst (rs.map Rw.d)]))).toS es (kApp2 (st.length + 1) es) := fun me es k => q_kApp (xs := rs.map Rw.d) (by rw [List.getElem?_cons_succ]; exact at_last _ _)
  have ap2 : ∀ (r : Rw) (es : Sl) (k : Nat), kApp2 (st.length + 1) es r.d (Box ds k :: (st ++ [.lst (rs.map Rw.d)])) = .ok .nx es (Box ds k :: (st ++ [.lst ((rs ++ [r]).map Rw.d)])) := fun r es k => by
    rw [q_kApp2 (xs := rs.map Rw.d) (by rw [List.getElem?_cons_succ]; exact at_last _ _) lz, List.set_cons_succ, set_last, List.map_append]
    rfl
  have wl : w.length + 1 ≤ sizeLine := by have := hpg.wlen; rw [sz]; omega
  have wa : ((w.map fun (j : Nat) => (j : Int)).map D.int) ++ [D.int (rs.length : Int)] = ((w ++ [rs.length]).map fun (j : Nat) => (j : Int)).map .int := by simp
  have s1 : (("kept" : Str) = "out") = False := eq_false (by decide)
  have s2 : (("in" : Str) = "out") = False := eq_false (by decide)
  have s3 : (("const" : Str) = "out") = False := eq_false (by decide)
  have s4 : (("product" : Str) = "out") = False := eq_false (by decide)
  have s5 : (("sum" : Str) = "out") = False := eq_false (by decide)
  have s6 : (("less" : Str) = "out") = False := eq_false (by decide)
  have s7 : (("times" : Str) = "out") = False := eq_false (by decide)
  by_cases hA : ¬ b = [] ∧ κ ∈ [(4 : Int), 5, 12]
  · obtain ⟨a, ha, ea⟩ := pickW (ds := ds) (n := m + 1 + 1) (w := b) (st := st ++ [.lst (rs.map Rw.d)]) hA.1
    have c1 : (κ = 3) = False := by have := hA.2; simp at this; exact eq_false (by omega)
    have c2 : (κ = 11) = False := by have := hA.2; simp at this; exact eq_false (by omega)
    have c3 : (κ ∈ [(4 : Int), 5, 12]) = True := eq_true hA.2
    have c4 : ((b.map fun (j : Nat) => (j : Int)) = []) = False := eq_false (by simpa using hA.1)
    have ar := ap2 (.kep a)
    simp only [Rw.d] at ar
    refine ⟨.kep a, turns, w ++ [rs.length], b, m + 1 + 1 + 1, some (.int κ), some (Rw.d (.kep a)), o13, o14, ?_, .row hpg ha⟩
    simp only [B__law_program1, dd, v13, hn0, hκ, hq, z0, z1, z2, z3, c1, c2, c3, c4, i1, nb, ea, ap, ar, at0, s1, List.length_map, wl, wa, Rw.d, q_runF, q_kFin, q_kFinN, q_mC, q_v0, q_v1, q_v2, q_v3, q_v4, q_v5, q_v6, q_v7, q_v8, q_v9, q_v10, q_v11, q_v12, q_v13, q_mOp, q_mTest, q_kB, q_kAnd, q_kOr, q_kNot, q_kNeg, q_kChT, q_kChF, q_mTru, q_tAnd, q_tOr, q_tNot, q_tYes, q_eAnd, q_eOr, q_eNot, q_mIf, q_aNil, q_aCons, q_mTup, q_mLst, q_mB, q_mCall, q_mNeg, q_mChain, q_sNil, q_sSeq, q_sExpr, q_sRet, q_sRetN, q_sBk, q_sCt, q_sIf, q_sAsg, q_kPutN, q_sBox, q_kBox, q_sApp, q_sSetI, q_sAug, q_kAug, q_kAug2, q_sFor, q_mRng1, q_kR1, q_kR2, q_mRng2, q_mIt, q_kItL, q_kItT, q_addI, q_addS, q_addT, q_addL, q_sub, q_mul, q_mod, q_fdv, q_pow, q_lt, q_le, q_gt, q_ge, q_iadd, q_isub, q_isN, q_notN, q_isNon_non, q_isNon_int, q_isNon_tup, q_isNon_lst, q_eqI, q_eqS, q_neI, q_neS, q_ixT, q_ixL, q_ixS, q_ixR0, q_int, q_intb, q_lenT, q_lenC, q_lenL, q_min, q_max, q_tupL, q_tupT, q_listL, q_listT, q_truB, q_truI, q_truT, q_truL, q_truN, q_bind, q_toS, q_nx, q_rt, q_bk, q_ct, q_ofO, q_noex, List.set_cons_zero, List.set_cons_succ, List.getElem?_cons_zero, List.getElem?_cons_succ, Option.map_some, Option.bind_some, List.length_cons, List.length_nil, List.map_cons, List.map_nil, Nat.reduceAdd, Nat.reduceSub, Nat.reduceLeDiff, Nat.reduceEqDiff, List.replicate_succ, List.replicate_zero, List.cons_append, List.nil_append, ↓reduceIte, if_true, if_false, Bool.false_eq_true, decide_true, decide_false, Bool.not_true, Bool.not_false, and_self, and_true, true_and, or_true, true_or, not_true_eq_false, not_false_eq_true, q_v14, q_v15, q_v16, q_v17, q_mEnum, q_kEnum, q_mZip, q_kZip, q_mRev, q_kRev, q_aStar, q_kSt, q_pNone, q_pSome, q_kPart, q_mSl, q_kSl2, q_kSl3, q_kCutT, q_kCutL, q_wkL, q_wkT, q_wkS]
  · skip
    by_cases hb : b = []
    · skip
      have c4 : ((b.map fun (j : Nat) => (j : Int)) = []) = True := eq_true (by simpa using hb)
      by_cases hw : w = []
      · skip
        have c5 : ((w.map fun (j : Nat) => (j : Int)) = []) = True := eq_true (by simpa using hw)
        by_cases h3 : κ = 3
        · skip
          have f3 : (κ = 3) = True := eq_true (by omega)
          have f7 : (κ = 7) = False := eq_false (by omega)
          have f8 : (κ = 8) = False := eq_false (by omega)
          have f9 : (κ = 9) = False := eq_false (by omega)
          have f10 : (κ = 10) = False := eq_false (by omega)
          have f11 : (κ = 11) = False := eq_false (by omega)
          have f456 : (κ ∈ [(4 : Int), 5, 6]) = False := eq_false (by simp only [List.mem_cons, List.not_mem_nil, or_false]; omega)
          obtain ⟨nu, hnu⟩ : ∃ nu, num ds (m + 1 + 1) p = nu := ⟨_, rfl⟩
          have hn1 : 0 ≤ nu ∧ nu < p := by rw [← hnu]; exact ⟨num_nn hp, num_lt hp⟩
          have ar := ap2 (.con nu)
          simp only [Rw.d] at ar
          refine ⟨.con nu, turns, w ++ [rs.length], b, m + 1 + 1 + 2, some (.int κ), some (Rw.d (.con nu)), o13, o14, ?_, .row hpg hn1⟩
          simp only [B__law_program1, dd, nn, v13, hn0, hκ, hq, z0, z1, z2, z3, i1, i2, nb, nw, ap, at0, List.length_map, wl, wa, Rw.d, ar, hnu, s3, f3, f7, f8, f9, f10, f11, f456, c4, c5, q_runF, q_kFin, q_kFinN, q_mC, q_v0, q_v1, q_v2, q_v3, q_v4, q_v5, q_v6, q_v7, q_v8, q_v9, q_v10, q_v11, q_v12, q_v13, q_mOp, q_mTest, q_kB, q_kAnd, q_kOr, q_kNot, q_kNeg, q_kChT, q_kChF, q_mTru, q_tAnd, q_tOr, q_tNot, q_tYes, q_eAnd, q_eOr, q_eNot, q_mIf, q_aNil, q_aCons, q_mTup, q_mLst, q_mB, q_mCall, q_mNeg, q_mChain, q_sNil, q_sSeq, q_sExpr, q_sRet, q_sRetN, q_sBk, q_sCt, q_sIf, q_sAsg, q_kPutN, q_sBox, q_kBox, q_sApp, q_sSetI, q_sAug, q_kAug, q_kAug2, q_sFor, q_mRng1, q_kR1, q_kR2, q_mRng2, q_mIt, q_kItL, q_kItT, q_addI, q_addS, q_addT, q_addL, q_sub, q_mul, q_mod, q_fdv, q_pow, q_lt, q_le, q_gt, q_ge, q_iadd, q_isub, q_isN, q_notN, q_isNon_non, q_isNon_int, q_isNon_tup, q_isNon_lst, q_eqI, q_eqS, q_neI, q_neS, q_ixT, q_ixL, q_ixS, q_ixR0, q_int, q_intb, q_lenT, q_lenC, q_lenL, q_min, q_max, q_tupL, q_tupT, q_listL, q_listT, q_truB, q_truI, q_truT, q_truL, q_truN, q_bind, q_toS, q_nx, q_rt, q_bk, q_ct, q_ofO, q_noex, List.set_cons_zero, List.set_cons_succ, List.getElem?_cons_zero, List.getElem?_cons_succ, Option.map_some, Option.bind_some, List.length_cons, List.length_nil, List.map_cons, List.map_nil, Nat.reduceAdd, Nat.reduceSub, Nat.reduceLeDiff, Nat.reduceEqDiff, List.replicate_succ, List.replicate_zero, List.cons_append, List.nil_append, ↓reduceIte, if_true, if_false, Bool.false_eq_true, decide_true, decide_false, Bool.not_true, Bool.not_false, and_self, and_true, true_and, or_true, true_or, not_true_eq_false, not_false_eq_true, q_v14, q_v15, q_v16, q_v17, q_mEnum, q_kEnum, q_mZip, q_kZip, q_mRev, q_kRev, q_aStar, q_kSt, q_pNone, q_pSome, q_kPart, q_mSl, q_kSl2, q_kSl3, q_kCutT, q_kCutL, q_wkL, q_wkT, q_wkS]
        by_cases h11 : κ = 11
        · skip
          have f3 : (κ = 3) = False := eq_false (by omega)
          have f7 : (κ = 7) = False := eq_false (by omega)
          have f8 : (κ = 8) = False := eq_false (by omega)
          have f9 : (κ = 9) = False := eq_false (by omega)
          have f10 : (κ = 10) = False := eq_false (by omega)
          have f11 : (κ = 11) = True := eq_true (by omega)
          have f456 : (κ ∈ [(4 : Int), 5, 6]) = False := eq_false (by simp only [List.mem_cons, List.not_mem_nil, or_false]; omega)
          by_cases ht : 0 < turns
          · skip
            have ft : (0 < turns) = True := eq_true ht
            have ar := ap2 .nxt
            simp only [Rw.d] at ar
            refine ⟨.nxt, turns - 1, [], w, m + 1 + 1, some (.int κ), some (Rw.d .nxt), o13, o14, ?_, .nxt hpg⟩
            simp only [B__law_program1, dd, nn, v13, hn0, hκ, hq, z0, z1, z2, z3, i1, i2, nb, nw, ap, at0, List.length_map, wl, wa, Rw.d, ar, ft, f3, f7, f8, f9, f10, f11, f456, c4, c5, q_runF, q_kFin, q_kFinN, q_mC, q_v0, q_v1, q_v2, q_v3, q_v4, q_v5, q_v6, q_v7, q_v8, q_v9, q_v10, q_v11, q_v12, q_v13, q_mOp, q_mTest, q_kB, q_kAnd, q_kOr, q_kNot, q_kNeg, q_kChT, q_kChF, q_mTru, q_tAnd, q_tOr, q_tNot, q_tYes, q_eAnd, q_eOr, q_eNot, q_mIf, q_aNil, q_aCons, q_mTup, q_mLst, q_mB, q_mCall, q_mNeg, q_mChain, q_sNil, q_sSeq, q_sExpr, q_sRet, q_sRetN, q_sBk, q_sCt, q_sIf, q_sAsg, q_kPutN, q_sBox, q_kBox, q_sApp, q_sSetI, q_sAug, q_kAug, q_kAug2, q_sFor, q_mRng1, q_kR1, q_kR2, q_mRng2, q_mIt, q_kItL, q_kItT, q_addI, q_addS, q_addT, q_addL, q_sub, q_mul, q_mod, q_fdv, q_pow, q_lt, q_le, q_gt, q_ge, q_iadd, q_isub, q_isN, q_notN, q_isNon_non, q_isNon_int, q_isNon_tup, q_isNon_lst, q_eqI, q_eqS, q_neI, q_neS, q_ixT, q_ixL, q_ixS, q_ixR0, q_int, q_intb, q_lenT, q_lenC, q_lenL, q_min, q_max, q_tupL, q_tupT, q_listL, q_listT, q_truB, q_truI, q_truT, q_truL, q_truN, q_bind, q_toS, q_nx, q_rt, q_bk, q_ct, q_ofO, q_noex, List.set_cons_zero, List.set_cons_succ, List.getElem?_cons_zero, List.getElem?_cons_succ, Option.map_some, Option.bind_some, List.length_cons, List.length_nil, List.map_cons, List.map_nil, Nat.reduceAdd, Nat.reduceSub, Nat.reduceLeDiff, Nat.reduceEqDiff, List.replicate_succ, List.replicate_zero, List.cons_append, List.nil_append, ↓reduceIte, if_true, if_false, Bool.false_eq_true, decide_true, decide_false, Bool.not_true, Bool.not_false, and_self, and_true, true_and, or_true, true_or, not_true_eq_false, not_false_eq_true, q_v14, q_v15, q_v16, q_v17, q_mEnum, q_kEnum, q_mZip, q_kZip, q_mRev, q_kRev, q_aStar, q_kSt, q_pNone, q_pSome, q_kPart, q_mSl, q_kSl2, q_kSl3, q_kCutT, q_kCutL, q_wkL, q_wkT, q_wkS]
            rfl
          · skip
            have ft : (0 < turns) = False := eq_false ht
            have ar := ap2 (.inp q)
            simp only [Rw.d] at ar
            refine ⟨.inp q, turns, w ++ [rs.length], b, m + 1 + 1, some (.int κ), some (Rw.d (.inp q)), o13, o14, ?_, .row hpg gn⟩
            simp only [B__law_program1, dd, nn, v13, hn0, hκ, hq, z0, z1, z2, z3, i1, i2, nb, nw, ap, at0, List.length_map, wl, wa, Rw.d, ar, ft, s2, f3, f7, f8, f9, f10, f11, f456, c4, c5, q_runF, q_kFin, q_kFinN, q_mC, q_v0, q_v1, q_v2, q_v3, q_v4, q_v5, q_v6, q_v7, q_v8, q_v9, q_v10, q_v11, q_v12, q_v13, q_mOp, q_mTest, q_kB, q_kAnd, q_kOr, q_kNot, q_kNeg, q_kChT, q_kChF, q_mTru, q_tAnd, q_tOr, q_tNot, q_tYes, q_eAnd, q_eOr, q_eNot, q_mIf, q_aNil, q_aCons, q_mTup, q_mLst, q_mB, q_mCall, q_mNeg, q_mChain, q_sNil, q_sSeq, q_sExpr, q_sRet, q_sRetN, q_sBk, q_sCt, q_sIf, q_sAsg, q_kPutN, q_sBox, q_kBox, q_sApp, q_sSetI, q_sAug, q_kAug, q_kAug2, q_sFor, q_mRng1, q_kR1, q_kR2, q_mRng2, q_mIt, q_kItL, q_kItT, q_addI, q_addS, q_addT, q_addL, q_sub, q_mul, q_mod, q_fdv, q_pow, q_lt, q_le, q_gt, q_ge, q_iadd, q_isub, q_isN, q_notN, q_isNon_non, q_isNon_int, q_isNon_tup, q_isNon_lst, q_eqI, q_eqS, q_neI, q_neS, q_ixT, q_ixL, q_ixS, q_ixR0, q_int, q_intb, q_lenT, q_lenC, q_lenL, q_min, q_max, q_tupL, q_tupT, q_listL, q_listT, q_truB, q_truI, q_truT, q_truL, q_truN, q_bind, q_toS, q_nx, q_rt, q_bk, q_ct, q_ofO, q_noex, List.set_cons_zero, List.set_cons_succ, List.getElem?_cons_zero, List.getElem?_cons_succ, Option.map_some, Option.bind_some, List.length_cons, List.length_nil, List.map_cons, List.map_nil, Nat.reduceAdd, Nat.reduceSub, Nat.reduceLeDiff, Nat.reduceEqDiff, List.replicate_succ, List.replicate_zero, List.cons_append, List.nil_append, ↓reduceIte, if_true, if_false, Bool.false_eq_true, decide_true, decide_false, Bool.not_true, Bool.not_false, and_self, and_true, true_and, or_true, true_or, not_true_eq_false, not_false_eq_true, q_v14, q_v15, q_v16, q_v17, q_mEnum, q_kEnum, q_mZip, q_kZip, q_mRev, q_kRev, q_aStar, q_kSt, q_pNone, q_pSome, q_kPart, q_mSl, q_kSl2, q_kSl3, q_kCutT, q_kCutL, q_wkL, q_wkT, q_wkS]
        have g3 : (κ = 3) = False := eq_false h3
        have g11 : (κ = 11) = False := eq_false h11
        have ar := ap2 (.inp q)
        simp only [Rw.d] at ar
        refine ⟨.inp q, turns, w ++ [rs.length], b, m + 1 + 1, some (.int κ), some (Rw.d (.inp q)), o13, o14, ?_, .row hpg gn⟩
        simp only [B__law_program1, dd, nn, v13, hn0, hκ, hq, z0, z1, z2, z3, i1, i2, nb, nw, ap, at0, List.length_map, wl, wa, Rw.d, ar, g3, g11, s2, c4, c5, q_runF, q_kFin, q_kFinN, q_mC, q_v0, q_v1, q_v2, q_v3, q_v4, q_v5, q_v6, q_v7, q_v8, q_v9, q_v10, q_v11, q_v12, q_v13, q_mOp, q_mTest, q_kB, q_kAnd, q_kOr, q_kNot, q_kNeg, q_kChT, q_kChF, q_mTru, q_tAnd, q_tOr, q_tNot, q_tYes, q_eAnd, q_eOr, q_eNot, q_mIf, q_aNil, q_aCons, q_mTup, q_mLst, q_mB, q_mCall, q_mNeg, q_mChain, q_sNil, q_sSeq, q_sExpr, q_sRet, q_sRetN, q_sBk, q_sCt, q_sIf, q_sAsg, q_kPutN, q_sBox, q_kBox, q_sApp, q_sSetI, q_sAug, q_kAug, q_kAug2, q_sFor, q_mRng1, q_kR1, q_kR2, q_mRng2, q_mIt, q_kItL, q_kItT, q_addI, q_addS, q_addT, q_addL, q_sub, q_mul, q_mod, q_fdv, q_pow, q_lt, q_le, q_gt, q_ge, q_iadd, q_isub, q_isN, q_notN, q_isNon_non, q_isNon_int, q_isNon_tup, q_isNon_lst, q_eqI, q_eqS, q_neI, q_neS, q_ixT, q_ixL, q_ixS, q_ixR0, q_int, q_intb, q_lenT, q_lenC, q_lenL, q_min, q_max, q_tupL, q_tupT, q_listL, q_listT, q_truB, q_truI, q_truT, q_truL, q_truN, q_bind, q_toS, q_nx, q_rt, q_bk, q_ct, q_ofO, q_noex, List.set_cons_zero, List.set_cons_succ, List.getElem?_cons_zero, List.getElem?_cons_succ, Option.map_some, Option.bind_some, List.length_cons, List.length_nil, List.map_cons, List.map_nil, Nat.reduceAdd, Nat.reduceSub, Nat.reduceLeDiff, Nat.reduceEqDiff, List.replicate_succ, List.replicate_zero, List.cons_append, List.nil_append, ↓reduceIte, if_true, if_false, Bool.false_eq_true, decide_true, decide_false, Bool.not_true, Bool.not_false, and_self, and_true, true_and, or_true, true_or, not_true_eq_false, not_false_eq_true, q_v14, q_v15, q_v16, q_v17, q_mEnum, q_kEnum, q_mZip, q_kZip, q_mRev, q_kRev, q_aStar, q_kSt, q_pNone, q_pSome, q_kPart, q_mSl, q_kSl2, q_kSl3, q_kCutT, q_kCutL, q_wkL, q_wkT, q_wkS]
      · skip
        have c5 : ((w.map fun (j : Nat) => (j : Int)) = []) = False := eq_false (by simpa using hw)
        by_cases h3 : κ = 3
        · skip
          have f3 : (κ = 3) = True := eq_true (by omega)
          have f7 : (κ = 7) = False := eq_false (by omega)
          have f8 : (κ = 8) = False := eq_false (by omega)
          have f9 : (κ = 9) = False := eq_false (by omega)
          have f10 : (κ = 10) = False := eq_false (by omega)
          have f11 : (κ = 11) = False := eq_false (by omega)
          have f456 : (κ ∈ [(4 : Int), 5, 6]) = False := eq_false (by simp only [List.mem_cons, List.not_mem_nil, or_false]; omega)
          obtain ⟨a, ha, ea⟩ := pickW (ds := ds) (n := m + 1 + 1 + 2) (w := w) (st := st ++ [.lst (rs.map Rw.d)]) hw
          obtain ⟨c, hc, ec⟩ := pickW (ds := ds) (n := m + 1 + 1 + 2 + 1) (w := w) (st := st ++ [.lst (rs.map Rw.d)]) hw
          obtain ⟨nu, hnu⟩ : ∃ nu, num ds (m + 1 + 1) p = nu := ⟨_, rfl⟩
          have hn1 : 0 ≤ nu ∧ nu < p := by rw [← hnu]; exact ⟨num_nn hp, num_lt hp⟩
          have ar := ap2 (.con nu)
          simp only [Rw.d] at ar
          refine ⟨.con nu, turns, w ++ [rs.length], b, m + 1 + 1 + 2 + 1 + 1, some (.int κ), some (Rw.d (.con nu)), some (.int (a : Int)), some (.int (c : Int)), ?_, .row hpg hn1⟩
          simp only [B__law_program1, dd, nn, v13, hn0, hκ, hq, z0, z1, z2, z3, i1, i2, nb, nw, ap, at0, List.length_map, wl, wa, Rw.d, ar, hnu, s3, f3, f7, f8, f9, f10, f11, f456, c4, c5, ea, ec, q_runF, q_kFin, q_kFinN, q_mC, q_v0, q_v1, q_v2, q_v3, q_v4, q_v5, q_v6, q_v7, q_v8, q_v9, q_v10, q_v11, q_v12, q_v13, q_mOp, q_mTest, q_kB, q_kAnd, q_kOr, q_kNot, q_kNeg, q_kChT, q_kChF, q_mTru, q_tAnd, q_tOr, q_tNot, q_tYes, q_eAnd, q_eOr, q_eNot, q_mIf, q_aNil, q_aCons, q_mTup, q_mLst, q_mB, q_mCall, q_mNeg, q_mChain, q_sNil, q_sSeq, q_sExpr, q_sRet, q_sRetN, q_sBk, q_sCt, q_sIf, q_sAsg, q_kPutN, q_sBox, q_kBox, q_sApp, q_sSetI, q_sAug, q_kAug, q_kAug2, q_sFor, q_mRng1, q_kR1, q_kR2, q_mRng2, q_mIt, q_kItL, q_kItT, q_addI, q_addS, q_addT, q_addL, q_sub, q_mul, q_mod, q_fdv, q_pow, q_lt, q_le, q_gt, q_ge, q_iadd, q_isub, q_isN, q_notN, q_isNon_non, q_isNon_int, q_isNon_tup, q_isNon_lst, q_eqI, q_eqS, q_neI, q_neS, q_ixT, q_ixL, q_ixS, q_ixR0, q_int, q_intb, q_lenT, q_lenC, q_lenL, q_min, q_max, q_tupL, q_tupT, q_listL, q_listT, q_truB, q_truI, q_truT, q_truL, q_truN, q_bind, q_toS, q_nx, q_rt, q_bk, q_ct, q_ofO, q_noex, List.set_cons_zero, List.set_cons_succ, List.getElem?_cons_zero, List.getElem?_cons_succ, Option.map_some, Option.bind_some, List.length_cons, List.length_nil, List.map_cons, List.map_nil, Nat.reduceAdd, Nat.reduceSub, Nat.reduceLeDiff, Nat.reduceEqDiff, List.replicate_succ, List.replicate_zero, List.cons_append, List.nil_append, ↓reduceIte, if_true, if_false, Bool.false_eq_true, decide_true, decide_false, Bool.not_true, Bool.not_false, and_self, and_true, true_and, or_true, true_or, not_true_eq_false, not_false_eq_true, q_v14, q_v15, q_v16, q_v17, q_mEnum, q_kEnum, q_mZip, q_kZip, q_mRev, q_kRev, q_aStar, q_kSt, q_pNone, q_pSome, q_kPart, q_mSl, q_kSl2, q_kSl3, q_kCutT, q_kCutL, q_wkL, q_wkT, q_wkS]
        by_cases h11 : κ = 11
        · skip
          have f3 : (κ = 3) = False := eq_false (by omega)
          have f7 : (κ = 7) = False := eq_false (by omega)
          have f8 : (κ = 8) = False := eq_false (by omega)
          have f9 : (κ = 9) = False := eq_false (by omega)
          have f10 : (κ = 10) = False := eq_false (by omega)
          have f11 : (κ = 11) = True := eq_true (by omega)
          have f456 : (κ ∈ [(4 : Int), 5, 6]) = False := eq_false (by simp only [List.mem_cons, List.not_mem_nil, or_false]; omega)
          obtain ⟨a, ha, ea⟩ := pickW (ds := ds) (n := m + 1 + 1) (w := w) (st := st ++ [.lst (rs.map Rw.d)]) hw
          obtain ⟨c, hc, ec⟩ := pickW (ds := ds) (n := m + 1 + 1 + 1) (w := w) (st := st ++ [.lst (rs.map Rw.d)]) hw
          by_cases ht : 0 < turns
          · skip
            have ft : (0 < turns) = True := eq_true ht
            have ar := ap2 .nxt
            simp only [Rw.d] at ar
            refine ⟨.nxt, turns - 1, [], w, m + 1 + 1 + 1 + 1, some (.int κ), some (Rw.d .nxt), some (.int (a : Int)), some (.int (c : Int)), ?_, .nxt hpg⟩
            simp only [B__law_program1, dd, nn, v13, hn0, hκ, hq, z0, z1, z2, z3, i1, i2, nb, nw, ap, at0, List.length_map, wl, wa, Rw.d, ar, ft, f3, f7, f8, f9, f10, f11, f456, c4, c5, ea, ec, q_runF, q_kFin, q_kFinN, q_mC, q_v0, q_v1, q_v2, q_v3, q_v4, q_v5, q_v6, q_v7, q_v8, q_v9, q_v10, q_v11, q_v12, q_v13, q_mOp, q_mTest, q_kB, q_kAnd, q_kOr, q_kNot, q_kNeg, q_kChT, q_kChF, q_mTru, q_tAnd, q_tOr, q_tNot, q_tYes, q_eAnd, q_eOr, q_eNot, q_mIf, q_aNil, q_aCons, q_mTup, q_mLst, q_mB, q_mCall, q_mNeg, q_mChain, q_sNil, q_sSeq, q_sExpr, q_sRet, q_sRetN, q_sBk, q_sCt, q_sIf, q_sAsg, q_kPutN, q_sBox, q_kBox, q_sApp, q_sSetI, q_sAug, q_kAug, q_kAug2, q_sFor, q_mRng1, q_kR1, q_kR2, q_mRng2, q_mIt, q_kItL, q_kItT, q_addI, q_addS, q_addT, q_addL, q_sub, q_mul, q_mod, q_fdv, q_pow, q_lt, q_le, q_gt, q_ge, q_iadd, q_isub, q_isN, q_notN, q_isNon_non, q_isNon_int, q_isNon_tup, q_isNon_lst, q_eqI, q_eqS, q_neI, q_neS, q_ixT, q_ixL, q_ixS, q_ixR0, q_int, q_intb, q_lenT, q_lenC, q_lenL, q_min, q_max, q_tupL, q_tupT, q_listL, q_listT, q_truB, q_truI, q_truT, q_truL, q_truN, q_bind, q_toS, q_nx, q_rt, q_bk, q_ct, q_ofO, q_noex, List.set_cons_zero, List.set_cons_succ, List.getElem?_cons_zero, List.getElem?_cons_succ, Option.map_some, Option.bind_some, List.length_cons, List.length_nil, List.map_cons, List.map_nil, Nat.reduceAdd, Nat.reduceSub, Nat.reduceLeDiff, Nat.reduceEqDiff, List.replicate_succ, List.replicate_zero, List.cons_append, List.nil_append, ↓reduceIte, if_true, if_false, Bool.false_eq_true, decide_true, decide_false, Bool.not_true, Bool.not_false, and_self, and_true, true_and, or_true, true_or, not_true_eq_false, not_false_eq_true, q_v14, q_v15, q_v16, q_v17, q_mEnum, q_kEnum, q_mZip, q_kZip, q_mRev, q_kRev, q_aStar, q_kSt, q_pNone, q_pSome, q_kPart, q_mSl, q_kSl2, q_kSl3, q_kCutT, q_kCutL, q_wkL, q_wkT, q_wkS]
            rfl
          · skip
            have ft : (0 < turns) = False := eq_false ht
            have ar := ap2 (.inp q)
            simp only [Rw.d] at ar
            refine ⟨.inp q, turns, w ++ [rs.length], b, m + 1 + 1 + 1 + 1, some (.int κ), some (Rw.d (.inp q)), some (.int (a : Int)), some (.int (c : Int)), ?_, .row hpg gn⟩
            simp only [B__law_program1, dd, nn, v13, hn0, hκ, hq, z0, z1, z2, z3, i1, i2, nb, nw, ap, at0, List.length_map, wl, wa, Rw.d, ar, ft, s2, f3, f7, f8, f9, f10, f11, f456, c4, c5, ea, ec, q_runF, q_kFin, q_kFinN, q_mC, q_v0, q_v1, q_v2, q_v3, q_v4, q_v5, q_v6, q_v7, q_v8, q_v9, q_v10, q_v11, q_v12, q_v13, q_mOp, q_mTest, q_kB, q_kAnd, q_kOr, q_kNot, q_kNeg, q_kChT, q_kChF, q_mTru, q_tAnd, q_tOr, q_tNot, q_tYes, q_eAnd, q_eOr, q_eNot, q_mIf, q_aNil, q_aCons, q_mTup, q_mLst, q_mB, q_mCall, q_mNeg, q_mChain, q_sNil, q_sSeq, q_sExpr, q_sRet, q_sRetN, q_sBk, q_sCt, q_sIf, q_sAsg, q_kPutN, q_sBox, q_kBox, q_sApp, q_sSetI, q_sAug, q_kAug, q_kAug2, q_sFor, q_mRng1, q_kR1, q_kR2, q_mRng2, q_mIt, q_kItL, q_kItT, q_addI, q_addS, q_addT, q_addL, q_sub, q_mul, q_mod, q_fdv, q_pow, q_lt, q_le, q_gt, q_ge, q_iadd, q_isub, q_isN, q_notN, q_isNon_non, q_isNon_int, q_isNon_tup, q_isNon_lst, q_eqI, q_eqS, q_neI, q_neS, q_ixT, q_ixL, q_ixS, q_ixR0, q_int, q_intb, q_lenT, q_lenC, q_lenL, q_min, q_max, q_tupL, q_tupT, q_listL, q_listT, q_truB, q_truI, q_truT, q_truL, q_truN, q_bind, q_toS, q_nx, q_rt, q_bk, q_ct, q_ofO, q_noex, List.set_cons_zero, List.set_cons_succ, List.getElem?_cons_zero, List.getElem?_cons_succ, Option.map_some, Option.bind_some, List.length_cons, List.length_nil, List.map_cons, List.map_nil, Nat.reduceAdd, Nat.reduceSub, Nat.reduceLeDiff, Nat.reduceEqDiff, List.replicate_succ, List.replicate_zero, List.cons_append, List.nil_append, ↓reduceIte, if_true, if_false, Bool.false_eq_true, decide_true, decide_false, Bool.not_true, Bool.not_false, and_self, and_true, true_and, or_true, true_or, not_true_eq_false, not_false_eq_true, q_v14, q_v15, q_v16, q_v17, q_mEnum, q_kEnum, q_mZip, q_kZip, q_mRev, q_kRev, q_aStar, q_kSt, q_pNone, q_pSome, q_kPart, q_mSl, q_kSl2, q_kSl3, q_kCutT, q_kCutL, q_wkL, q_wkT, q_wkS]
        by_cases h456 : κ = 4 ∨ κ = 5 ∨ κ = 6
        · skip
          have f3 : (κ = 3) = False := eq_false (by omega)
          have f7 : (κ = 7) = False := eq_false (by omega)
          have f8 : (κ = 8) = False := eq_false (by omega)
          have f9 : (κ = 9) = False := eq_false (by omega)
          have f10 : (κ = 10) = False := eq_false (by omega)
          have f11 : (κ = 11) = False := eq_false (by omega)
          have f456 : (κ ∈ [(4 : Int), 5, 6]) = True := eq_true (by simp only [List.mem_cons, List.not_mem_nil, or_false]; omega)
          obtain ⟨a, ha, ea⟩ := pickW (ds := ds) (n := m + 1 + 1) (w := w) (st := st ++ [.lst (rs.map Rw.d)]) hw
          obtain ⟨c, hc, ec⟩ := pickW (ds := ds) (n := m + 1 + 1 + 1) (w := w) (st := st ++ [.lst (rs.map Rw.d)]) hw
          have ar := ap2 (.pro a c)
          simp only [Rw.d] at ar
          refine ⟨.pro a c, turns, w ++ [rs.length], b, m + 1 + 1 + 1 + 1, some (.int κ), some (Rw.d (.pro a c)), some (.int (a : Int)), some (.int (c : Int)), ?_, .row hpg ⟨ha, hc⟩⟩
          simp only [B__law_program1, dd, nn, v13, hn0, hκ, hq, z0, z1, z2, z3, i1, i2, nb, nw, ap, at0, List.length_map, wl, wa, Rw.d, ar, s4, f3, f7, f8, f9, f10, f11, f456, c4, c5, ea, ec, q_runF, q_kFin, q_kFinN, q_mC, q_v0, q_v1, q_v2, q_v3, q_v4, q_v5, q_v6, q_v7, q_v8, q_v9, q_v10, q_v11, q_v12, q_v13, q_mOp, q_mTest, q_kB, q_kAnd, q_kOr, q_kNot, q_kNeg, q_kChT, q_kChF, q_mTru, q_tAnd, q_tOr, q_tNot, q_tYes, q_eAnd, q_eOr, q_eNot, q_mIf, q_aNil, q_aCons, q_mTup, q_mLst, q_mB, q_mCall, q_mNeg, q_mChain, q_sNil, q_sSeq, q_sExpr, q_sRet, q_sRetN, q_sBk, q_sCt, q_sIf, q_sAsg, q_kPutN, q_sBox, q_kBox, q_sApp, q_sSetI, q_sAug, q_kAug, q_kAug2, q_sFor, q_mRng1, q_kR1, q_kR2, q_mRng2, q_mIt, q_kItL, q_kItT, q_addI, q_addS, q_addT, q_addL, q_sub, q_mul, q_mod, q_fdv, q_pow, q_lt, q_le, q_gt, q_ge, q_iadd, q_isub, q_isN, q_notN, q_isNon_non, q_isNon_int, q_isNon_tup, q_isNon_lst, q_eqI, q_eqS, q_neI, q_neS, q_ixT, q_ixL, q_ixS, q_ixR0, q_int, q_intb, q_lenT, q_lenC, q_lenL, q_min, q_max, q_tupL, q_tupT, q_listL, q_listT, q_truB, q_truI, q_truT, q_truL, q_truN, q_bind, q_toS, q_nx, q_rt, q_bk, q_ct, q_ofO, q_noex, List.set_cons_zero, List.set_cons_succ, List.getElem?_cons_zero, List.getElem?_cons_succ, Option.map_some, Option.bind_some, List.length_cons, List.length_nil, List.map_cons, List.map_nil, Nat.reduceAdd, Nat.reduceSub, Nat.reduceLeDiff, Nat.reduceEqDiff, List.replicate_succ, List.replicate_zero, List.cons_append, List.nil_append, ↓reduceIte, if_true, if_false, Bool.false_eq_true, decide_true, decide_false, Bool.not_true, Bool.not_false, and_self, and_true, true_and, or_true, true_or, not_true_eq_false, not_false_eq_true, q_v14, q_v15, q_v16, q_v17, q_mEnum, q_kEnum, q_mZip, q_kZip, q_mRev, q_kRev, q_aStar, q_kSt, q_pNone, q_pSome, q_kPart, q_mSl, q_kSl2, q_kSl3, q_kCutT, q_kCutL, q_wkL, q_wkT, q_wkS]
        by_cases h7 : κ = 7
        · skip
          have f3 : (κ = 3) = False := eq_false (by omega)
          have f7 : (κ = 7) = True := eq_true (by omega)
          have f8 : (κ = 8) = False := eq_false (by omega)
          have f9 : (κ = 9) = False := eq_false (by omega)
          have f10 : (κ = 10) = False := eq_false (by omega)
          have f11 : (κ = 11) = False := eq_false (by omega)
          have f456 : (κ ∈ [(4 : Int), 5, 6]) = False := eq_false (by simp only [List.mem_cons, List.not_mem_nil, or_false]; omega)
          obtain ⟨a, ha, ea⟩ := pickW (ds := ds) (n := m + 1 + 1) (w := w) (st := st ++ [.lst (rs.map Rw.d)]) hw
          obtain ⟨c, hc, ec⟩ := pickW (ds := ds) (n := m + 1 + 1 + 1) (w := w) (st := st ++ [.lst (rs.map Rw.d)]) hw
          have ar := ap2 (.sm a c)
          simp only [Rw.d] at ar
          refine ⟨.sm a c, turns, w ++ [rs.length], b, m + 1 + 1 + 1 + 1, some (.int κ), some (Rw.d (.sm a c)), some (.int (a : Int)), some (.int (c : Int)), ?_, .row hpg ⟨ha, hc⟩⟩
          simp only [B__law_program1, dd, nn, v13, hn0, hκ, hq, z0, z1, z2, z3, i1, i2, nb, nw, ap, at0, List.length_map, wl, wa, Rw.d, ar, s5, f3, f7, f8, f9, f10, f11, f456, c4, c5, ea, ec, q_runF, q_kFin, q_kFinN, q_mC, q_v0, q_v1, q_v2, q_v3, q_v4, q_v5, q_v6, q_v7, q_v8, q_v9, q_v10, q_v11, q_v12, q_v13, q_mOp, q_mTest, q_kB, q_kAnd, q_kOr, q_kNot, q_kNeg, q_kChT, q_kChF, q_mTru, q_tAnd, q_tOr, q_tNot, q_tYes, q_eAnd, q_eOr, q_eNot, q_mIf, q_aNil, q_aCons, q_mTup, q_mLst, q_mB, q_mCall, q_mNeg, q_mChain, q_sNil, q_sSeq, q_sExpr, q_sRet, q_sRetN, q_sBk, q_sCt, q_sIf, q_sAsg, q_kPutN, q_sBox, q_kBox, q_sApp, q_sSetI, q_sAug, q_kAug, q_kAug2, q_sFor, q_mRng1, q_kR1, q_kR2, q_mRng2, q_mIt, q_kItL, q_kItT, q_addI, q_addS, q_addT, q_addL, q_sub, q_mul, q_mod, q_fdv, q_pow, q_lt, q_le, q_gt, q_ge, q_iadd, q_isub, q_isN, q_notN, q_isNon_non, q_isNon_int, q_isNon_tup, q_isNon_lst, q_eqI, q_eqS, q_neI, q_neS, q_ixT, q_ixL, q_ixS, q_ixR0, q_int, q_intb, q_lenT, q_lenC, q_lenL, q_min, q_max, q_tupL, q_tupT, q_listL, q_listT, q_truB, q_truI, q_truT, q_truL, q_truN, q_bind, q_toS, q_nx, q_rt, q_bk, q_ct, q_ofO, q_noex, List.set_cons_zero, List.set_cons_succ, List.getElem?_cons_zero, List.getElem?_cons_succ, Option.map_some, Option.bind_some, List.length_cons, List.length_nil, List.map_cons, List.map_nil, Nat.reduceAdd, Nat.reduceSub, Nat.reduceLeDiff, Nat.reduceEqDiff, List.replicate_succ, List.replicate_zero, List.cons_append, List.nil_append, ↓reduceIte, if_true, if_false, Bool.false_eq_true, decide_true, decide_false, Bool.not_true, Bool.not_false, and_self, and_true, true_and, or_true, true_or, not_true_eq_false, not_false_eq_true, q_v14, q_v15, q_v16, q_v17, q_mEnum, q_kEnum, q_mZip, q_kZip, q_mRev, q_kRev, q_aStar, q_kSt, q_pNone, q_pSome, q_kPart, q_mSl, q_kSl2, q_kSl3, q_kCutT, q_kCutL, q_wkL, q_wkT, q_wkS]
        by_cases h8 : κ = 8
        · skip
          have f3 : (κ = 3) = False := eq_false (by omega)
          have f7 : (κ = 7) = False := eq_false (by omega)
          have f8 : (κ = 8) = True := eq_true (by omega)
          have f9 : (κ = 9) = False := eq_false (by omega)
          have f10 : (κ = 10) = False := eq_false (by omega)
          have f11 : (κ = 11) = False := eq_false (by omega)
          have f456 : (κ ∈ [(4 : Int), 5, 6]) = False := eq_false (by simp only [List.mem_cons, List.not_mem_nil, or_false]; omega)
          obtain ⟨a, ha, ea⟩ := pickW (ds := ds) (n := m + 1 + 1) (w := w) (st := st ++ [.lst (rs.map Rw.d)]) hw
          obtain ⟨c, hc, ec⟩ := pickW (ds := ds) (n := m + 1 + 1 + 1) (w := w) (st := st ++ [.lst (rs.map Rw.d)]) hw
          have ar := ap2 (.les a c)
          simp only [Rw.d] at ar
          refine ⟨.les a c, turns, w ++ [rs.length], b, m + 1 + 1 + 1 + 1, some (.int κ), some (Rw.d (.les a c)), some (.int (a : Int)), some (.int (c : Int)), ?_, .row hpg ⟨ha, hc⟩⟩
          simp only [B__law_program1, dd, nn, v13, hn0, hκ, hq, z0, z1, z2, z3, i1, i2, nb, nw, ap, at0, List.length_map, wl, wa, Rw.d, ar, s6, f3, f7, f8, f9, f10, f11, f456, c4, c5, ea, ec, q_runF, q_kFin, q_kFinN, q_mC, q_v0, q_v1, q_v2, q_v3, q_v4, q_v5, q_v6, q_v7, q_v8, q_v9, q_v10, q_v11, q_v12, q_v13, q_mOp, q_mTest, q_kB, q_kAnd, q_kOr, q_kNot, q_kNeg, q_kChT, q_kChF, q_mTru, q_tAnd, q_tOr, q_tNot, q_tYes, q_eAnd, q_eOr, q_eNot, q_mIf, q_aNil, q_aCons, q_mTup, q_mLst, q_mB, q_mCall, q_mNeg, q_mChain, q_sNil, q_sSeq, q_sExpr, q_sRet, q_sRetN, q_sBk, q_sCt, q_sIf, q_sAsg, q_kPutN, q_sBox, q_kBox, q_sApp, q_sSetI, q_sAug, q_kAug, q_kAug2, q_sFor, q_mRng1, q_kR1, q_kR2, q_mRng2, q_mIt, q_kItL, q_kItT, q_addI, q_addS, q_addT, q_addL, q_sub, q_mul, q_mod, q_fdv, q_pow, q_lt, q_le, q_gt, q_ge, q_iadd, q_isub, q_isN, q_notN, q_isNon_non, q_isNon_int, q_isNon_tup, q_isNon_lst, q_eqI, q_eqS, q_neI, q_neS, q_ixT, q_ixL, q_ixS, q_ixR0, q_int, q_intb, q_lenT, q_lenC, q_lenL, q_min, q_max, q_tupL, q_tupT, q_listL, q_listT, q_truB, q_truI, q_truT, q_truL, q_truN, q_bind, q_toS, q_nx, q_rt, q_bk, q_ct, q_ofO, q_noex, List.set_cons_zero, List.set_cons_succ, List.getElem?_cons_zero, List.getElem?_cons_succ, Option.map_some, Option.bind_some, List.length_cons, List.length_nil, List.map_cons, List.map_nil, Nat.reduceAdd, Nat.reduceSub, Nat.reduceLeDiff, Nat.reduceEqDiff, List.replicate_succ, List.replicate_zero, List.cons_append, List.nil_append, ↓reduceIte, if_true, if_false, Bool.false_eq_true, decide_true, decide_false, Bool.not_true, Bool.not_false, and_self, and_true, true_and, or_true, true_or, not_true_eq_false, not_false_eq_true, q_v14, q_v15, q_v16, q_v17, q_mEnum, q_kEnum, q_mZip, q_kZip, q_mRev, q_kRev, q_aStar, q_kSt, q_pNone, q_pSome, q_kPart, q_mSl, q_kSl2, q_kSl3, q_kCutT, q_kCutL, q_wkL, q_wkT, q_wkS]
        by_cases h9 : κ = 9
        · skip
          have f3 : (κ = 3) = False := eq_false (by omega)
          have f7 : (κ = 7) = False := eq_false (by omega)
          have f8 : (κ = 8) = False := eq_false (by omega)
          have f9 : (κ = 9) = True := eq_true (by omega)
          have f10 : (κ = 10) = False := eq_false (by omega)
          have f11 : (κ = 11) = False := eq_false (by omega)
          have f456 : (κ ∈ [(4 : Int), 5, 6]) = False := eq_false (by simp only [List.mem_cons, List.not_mem_nil, or_false]; omega)
          obtain ⟨a, ha, ea⟩ := pickW (ds := ds) (n := m + 1 + 1) (w := w) (st := st ++ [.lst (rs.map Rw.d)]) hw
          obtain ⟨c, hc, ec⟩ := pickW (ds := ds) (n := m + 1 + 1 + 1) (w := w) (st := st ++ [.lst (rs.map Rw.d)]) hw
          obtain ⟨nu, hnu⟩ : ∃ nu, num ds (m + 1 + 1 + 1 + 1) p = nu := ⟨_, rfl⟩
          have hn1 : 0 ≤ nu ∧ nu < p := by rw [← hnu]; exact ⟨num_nn hp, num_lt hp⟩
          have ar := ap2 (.tim nu a)
          simp only [Rw.d] at ar
          refine ⟨.tim nu a, turns, w ++ [rs.length], b, m + 1 + 1 + 1 + 1 + 2, some (.int κ), some (Rw.d (.tim nu a)), some (.int (a : Int)), some (.int (c : Int)), ?_, .row hpg ⟨hn1, ha⟩⟩
          simp only [B__law_program1, dd, nn, v13, hn0, hκ, hq, z0, z1, z2, z3, i1, i2, nb, nw, ap, at0, List.length_map, wl, wa, Rw.d, ar, hnu, s7, f3, f7, f8, f9, f10, f11, f456, c4, c5, ea, ec, q_runF, q_kFin, q_kFinN, q_mC, q_v0, q_v1, q_v2, q_v3, q_v4, q_v5, q_v6, q_v7, q_v8, q_v9, q_v10, q_v11, q_v12, q_v13, q_mOp, q_mTest, q_kB, q_kAnd, q_kOr, q_kNot, q_kNeg, q_kChT, q_kChF, q_mTru, q_tAnd, q_tOr, q_tNot, q_tYes, q_eAnd, q_eOr, q_eNot, q_mIf, q_aNil, q_aCons, q_mTup, q_mLst, q_mB, q_mCall, q_mNeg, q_mChain, q_sNil, q_sSeq, q_sExpr, q_sRet, q_sRetN, q_sBk, q_sCt, q_sIf, q_sAsg, q_kPutN, q_sBox, q_kBox, q_sApp, q_sSetI, q_sAug, q_kAug, q_kAug2, q_sFor, q_mRng1, q_kR1, q_kR2, q_mRng2, q_mIt, q_kItL, q_kItT, q_addI, q_addS, q_addT, q_addL, q_sub, q_mul, q_mod, q_fdv, q_pow, q_lt, q_le, q_gt, q_ge, q_iadd, q_isub, q_isN, q_notN, q_isNon_non, q_isNon_int, q_isNon_tup, q_isNon_lst, q_eqI, q_eqS, q_neI, q_neS, q_ixT, q_ixL, q_ixS, q_ixR0, q_int, q_intb, q_lenT, q_lenC, q_lenL, q_min, q_max, q_tupL, q_tupT, q_listL, q_listT, q_truB, q_truI, q_truT, q_truL, q_truN, q_bind, q_toS, q_nx, q_rt, q_bk, q_ct, q_ofO, q_noex, List.set_cons_zero, List.set_cons_succ, List.getElem?_cons_zero, List.getElem?_cons_succ, Option.map_some, Option.bind_some, List.length_cons, List.length_nil, List.map_cons, List.map_nil, Nat.reduceAdd, Nat.reduceSub, Nat.reduceLeDiff, Nat.reduceEqDiff, List.replicate_succ, List.replicate_zero, List.cons_append, List.nil_append, ↓reduceIte, if_true, if_false, Bool.false_eq_true, decide_true, decide_false, Bool.not_true, Bool.not_false, and_self, and_true, true_and, or_true, true_or, not_true_eq_false, not_false_eq_true, q_v14, q_v15, q_v16, q_v17, q_mEnum, q_kEnum, q_mZip, q_kZip, q_mRev, q_kRev, q_aStar, q_kSt, q_pNone, q_pSome, q_kPart, q_mSl, q_kSl2, q_kSl3, q_kCutT, q_kCutL, q_wkL, q_wkT, q_wkS]
        by_cases h10 : κ = 10
        · skip
          have f3 : (κ = 3) = False := eq_false (by omega)
          have f7 : (κ = 7) = False := eq_false (by omega)
          have f8 : (κ = 8) = False := eq_false (by omega)
          have f9 : (κ = 9) = False := eq_false (by omega)
          have f10 : (κ = 10) = True := eq_true (by omega)
          have f11 : (κ = 11) = False := eq_false (by omega)
          have f456 : (κ ∈ [(4 : Int), 5, 6]) = False := eq_false (by simp only [List.mem_cons, List.not_mem_nil, or_false]; omega)
          obtain ⟨a, ha, ea⟩ := pickW (ds := ds) (n := m + 1 + 1) (w := w) (st := st ++ [.lst (rs.map Rw.d)]) hw
          obtain ⟨c, hc, ec⟩ := pickW (ds := ds) (n := m + 1 + 1 + 1) (w := w) (st := st ++ [.lst (rs.map Rw.d)]) hw
          have r0 := drw_nn (ds := ds) (n := m + 1 + 1 + 1 + 1) hn0
          have r1 := drw_lt (ds := ds) (n := m + 1 + 1 + 1 + 1) hn0
          obtain ⟨q2, hq2⟩ : ∃ q2, 1 + drw ds (m + 1 + 1 + 1 + 1) n = q2 := ⟨_, rfl⟩
          have ar := ap2 (.out a q2)
          simp only [Rw.d] at ar
          refine ⟨.out a q2, turns, w, b, m + 1 + 1 + 1 + 1 + 1, some (.int κ), some (Rw.d (.out a q2)), some (.int (a : Int)), some (.int (c : Int)), ?_, .out hpg ha (by omega) (by omega)⟩
          simp only [B__law_program1, dd, nn, v13, hn0, hκ, hq, z0, z1, z2, z3, i1, i2, nb, nw, ap, at0, List.length_map, wl, wa, Rw.d, ar, hq2, f3, f7, f8, f9, f10, f11, f456, c4, c5, ea, ec, q_runF, q_kFin, q_kFinN, q_mC, q_v0, q_v1, q_v2, q_v3, q_v4, q_v5, q_v6, q_v7, q_v8, q_v9, q_v10, q_v11, q_v12, q_v13, q_mOp, q_mTest, q_kB, q_kAnd, q_kOr, q_kNot, q_kNeg, q_kChT, q_kChF, q_mTru, q_tAnd, q_tOr, q_tNot, q_tYes, q_eAnd, q_eOr, q_eNot, q_mIf, q_aNil, q_aCons, q_mTup, q_mLst, q_mB, q_mCall, q_mNeg, q_mChain, q_sNil, q_sSeq, q_sExpr, q_sRet, q_sRetN, q_sBk, q_sCt, q_sIf, q_sAsg, q_kPutN, q_sBox, q_kBox, q_sApp, q_sSetI, q_sAug, q_kAug, q_kAug2, q_sFor, q_mRng1, q_kR1, q_kR2, q_mRng2, q_mIt, q_kItL, q_kItT, q_addI, q_addS, q_addT, q_addL, q_sub, q_mul, q_mod, q_fdv, q_pow, q_lt, q_le, q_gt, q_ge, q_iadd, q_isub, q_isN, q_notN, q_isNon_non, q_isNon_int, q_isNon_tup, q_isNon_lst, q_eqI, q_eqS, q_neI, q_neS, q_ixT, q_ixL, q_ixS, q_ixR0, q_int, q_intb, q_lenT, q_lenC, q_lenL, q_min, q_max, q_tupL, q_tupT, q_listL, q_listT, q_truB, q_truI, q_truT, q_truL, q_truN, q_bind, q_toS, q_nx, q_rt, q_bk, q_ct, q_ofO, q_noex, List.set_cons_zero, List.set_cons_succ, List.getElem?_cons_zero, List.getElem?_cons_succ, Option.map_some, Option.bind_some, List.length_cons, List.length_nil, List.map_cons, List.map_nil, Nat.reduceAdd, Nat.reduceSub, Nat.reduceLeDiff, Nat.reduceEqDiff, List.replicate_succ, List.replicate_zero, List.cons_append, List.nil_append, ↓reduceIte, if_true, if_false, Bool.false_eq_true, decide_true, decide_false, Bool.not_true, Bool.not_false, and_self, and_true, true_and, or_true, true_or, not_true_eq_false, not_false_eq_true, q_v14, q_v15, q_v16, q_v17, q_mEnum, q_kEnum, q_mZip, q_kZip, q_mRev, q_kRev, q_aStar, q_kSt, q_pNone, q_pSome, q_kPart, q_mSl, q_kSl2, q_kSl3, q_kCutT, q_kCutL, q_wkL, q_wkT, q_wkS]
        have f3 : (κ = 3) = False := eq_false (by omega)
        have f7 : (κ = 7) = False := eq_false (by omega)
        have f8 : (κ = 8) = False := eq_false (by omega)
        have f9 : (κ = 9) = False := eq_false (by omega)
        have f10 : (κ = 10) = False := eq_false (by omega)
        have f11 : (κ = 11) = False := eq_false (by omega)
        have f456 : (κ ∈ [(4 : Int), 5, 6]) = False := eq_false (by simp only [List.mem_cons, List.not_mem_nil, or_false]; omega)
        obtain ⟨a, ha, ea⟩ := pickW (ds := ds) (n := m + 1 + 1) (w := w) (st := st ++ [.lst (rs.map Rw.d)]) hw
        obtain ⟨c, hc, ec⟩ := pickW (ds := ds) (n := m + 1 + 1 + 1) (w := w) (st := st ++ [.lst (rs.map Rw.d)]) hw
        have ar := ap2 (.inp q)
        simp only [Rw.d] at ar
        refine ⟨.inp q, turns, w ++ [rs.length], b, m + 1 + 1 + 1 + 1, some (.int κ), some (Rw.d (.inp q)), some (.int (a : Int)), some (.int (c : Int)), ?_, .row hpg gn⟩
        simp only [B__law_program1, dd, nn, v13, hn0, hκ, hq, z0, z1, z2, z3, i1, i2, nb, nw, ap, at0, List.length_map, wl, wa, Rw.d, ar, s2, f3, f7, f8, f9, f10, f11, f456, c4, c5, ea, ec, q_runF, q_kFin, q_kFinN, q_mC, q_v0, q_v1, q_v2, q_v3, q_v4, q_v5, q_v6, q_v7, q_v8, q_v9, q_v10, q_v11, q_v12, q_v13, q_mOp, q_mTest, q_kB, q_kAnd, q_kOr, q_kNot, q_kNeg, q_kChT, q_kChF, q_mTru, q_tAnd, q_tOr, q_tNot, q_tYes, q_eAnd, q_eOr, q_eNot, q_mIf, q_aNil, q_aCons, q_mTup, q_mLst, q_mB, q_mCall, q_mNeg, q_mChain, q_sNil, q_sSeq, q_sExpr, q_sRet, q_sRetN, q_sBk, q_sCt, q_sIf, q_sAsg, q_kPutN, q_sBox, q_kBox, q_sApp, q_sSetI, q_sAug, q_kAug, q_kAug2, q_sFor, q_mRng1, q_kR1, q_kR2, q_mRng2, q_mIt, q_kItL, q_kItT, q_addI, q_addS, q_addT, q_addL, q_sub, q_mul, q_mod, q_fdv, q_pow, q_lt, q_le, q_gt, q_ge, q_iadd, q_isub, q_isN, q_notN, q_isNon_non, q_isNon_int, q_isNon_tup, q_isNon_lst, q_eqI, q_eqS, q_neI, q_neS, q_ixT, q_ixL, q_ixS, q_ixR0, q_int, q_intb, q_lenT, q_lenC, q_lenL, q_min, q_max, q_tupL, q_tupT, q_listL, q_listT, q_truB, q_truI, q_truT, q_truL, q_truN, q_bind, q_toS, q_nx, q_rt, q_bk, q_ct, q_ofO, q_noex, List.set_cons_zero, List.set_cons_succ, List.getElem?_cons_zero, List.getElem?_cons_succ, Option.map_some, Option.bind_some, List.length_cons, List.length_nil, List.map_cons, List.map_nil, Nat.reduceAdd, Nat.reduceSub, Nat.reduceLeDiff, Nat.reduceEqDiff, List.replicate_succ, List.replicate_zero, List.cons_append, List.nil_append, ↓reduceIte, if_true, if_false, Bool.false_eq_true, decide_true, decide_false, Bool.not_true, Bool.not_false, and_self, and_true, true_and, or_true, true_or, not_true_eq_false, not_false_eq_true, q_v14, q_v15, q_v16, q_v17, q_mEnum, q_kEnum, q_mZip, q_kZip, q_mRev, q_kRev, q_aStar, q_kSt, q_pNone, q_pSome, q_kPart, q_mSl, q_kSl2, q_kSl3, q_kCutT, q_kCutL, q_wkL, q_wkT, q_wkS]
    · skip
      have c4 : ((b.map fun (j : Nat) => (j : Int)) = []) = False := eq_false (by simpa using hb)
      have cA : (κ ∈ [(4 : Int), 5, 12]) = False := eq_false fun z => hA ⟨hb, z⟩
      by_cases hw : w = []
      · skip
        have c5 : ((w.map fun (j : Nat) => (j : Int)) = []) = True := eq_true (by simpa using hw)
        by_cases h3 : κ = 3
        · skip
          have f3 : (κ = 3) = True := eq_true (by omega)
          have f7 : (κ = 7) = False := eq_false (by omega)
          have f8 : (κ = 8) = False := eq_false (by omega)
          have f9 : (κ = 9) = False := eq_false (by omega)
          have f10 : (κ = 10) = False := eq_false (by omega)
          have f11 : (κ = 11) = False := eq_false (by omega)
          have f456 : (κ ∈ [(4 : Int), 5, 6]) = False := eq_false (by simp only [List.mem_cons, List.not_mem_nil, or_false]; omega)
          obtain ⟨nu, hnu⟩ : ∃ nu, num ds (m + 1 + 1) p = nu := ⟨_, rfl⟩
          have hn1 : 0 ≤ nu ∧ nu < p := by rw [← hnu]; exact ⟨num_nn hp, num_lt hp⟩
          have ar := ap2 (.con nu)
          simp only [Rw.d] at ar
          refine ⟨.con nu, turns, w ++ [rs.length], b, m + 1 + 1 + 2, some (.int κ), some (Rw.d (.con nu)), o13, o14, ?_, .row hpg hn1⟩
          simp only [B__law_program1, dd, nn, v13, hn0, hκ, hq, z0, z1, z2, z3, i1, i2, nb, nw, ap, at0, List.length_map, wl, wa, Rw.d, ar, hnu, s3, f3, f7, f8, f9, f10, f11, f456, c4, cA, c5, q_runF, q_kFin, q_kFinN, q_mC, q_v0, q_v1, q_v2, q_v3, q_v4, q_v5, q_v6, q_v7, q_v8, q_v9, q_v10, q_v11, q_v12, q_v13, q_mOp, q_mTest, q_kB, q_kAnd, q_kOr, q_kNot, q_kNeg, q_kChT, q_kChF, q_mTru, q_tAnd, q_tOr, q_tNot, q_tYes, q_eAnd, q_eOr, q_eNot, q_mIf, q_aNil, q_aCons, q_mTup, q_mLst, q_mB, q_mCall, q_mNeg, q_mChain, q_sNil, q_sSeq, q_sExpr, q_sRet, q_sRetN, q_sBk, q_sCt, q_sIf, q_sAsg, q_kPutN, q_sBox, q_kBox, q_sApp, q_sSetI, q_sAug, q_kAug, q_kAug2, q_sFor, q_mRng1, q_kR1, q_kR2, q_mRng2, q_mIt, q_kItL, q_kItT, q_addI, q_addS, q_addT, q_addL, q_sub, q_mul, q_mod, q_fdv, q_pow, q_lt, q_le, q_gt, q_ge, q_iadd, q_isub, q_isN, q_notN, q_isNon_non, q_isNon_int, q_isNon_tup, q_isNon_lst, q_eqI, q_eqS, q_neI, q_neS, q_ixT, q_ixL, q_ixS, q_ixR0, q_int, q_intb, q_lenT, q_lenC, q_lenL, q_min, q_max, q_tupL, q_tupT, q_listL, q_listT, q_truB, q_truI, q_truT, q_truL, q_truN, q_bind, q_toS, q_nx, q_rt, q_bk, q_ct, q_ofO, q_noex, List.set_cons_zero, List.set_cons_succ, List.getElem?_cons_zero, List.getElem?_cons_succ, Option.map_some, Option.bind_some, List.length_cons, List.length_nil, List.map_cons, List.map_nil, Nat.reduceAdd, Nat.reduceSub, Nat.reduceLeDiff, Nat.reduceEqDiff, List.replicate_succ, List.replicate_zero, List.cons_append, List.nil_append, ↓reduceIte, if_true, if_false, Bool.false_eq_true, decide_true, decide_false, Bool.not_true, Bool.not_false, and_self, and_true, true_and, or_true, true_or, not_true_eq_false, not_false_eq_true, q_v14, q_v15, q_v16, q_v17, q_mEnum, q_kEnum, q_mZip, q_kZip, q_mRev, q_kRev, q_aStar, q_kSt, q_pNone, q_pSome, q_kPart, q_mSl, q_kSl2, q_kSl3, q_kCutT, q_kCutL, q_wkL, q_wkT, q_wkS]
        by_cases h11 : κ = 11
        · skip
          have f3 : (κ = 3) = False := eq_false (by omega)
          have f7 : (κ = 7) = False := eq_false (by omega)
          have f8 : (κ = 8) = False := eq_false (by omega)
          have f9 : (κ = 9) = False := eq_false (by omega)
          have f10 : (κ = 10) = False := eq_false (by omega)
          have f11 : (κ = 11) = True := eq_true (by omega)
          have f456 : (κ ∈ [(4 : Int), 5, 6]) = False := eq_false (by simp only [List.mem_cons, List.not_mem_nil, or_false]; omega)
          by_cases ht : 0 < turns
          · skip
            have ft : (0 < turns) = True := eq_true ht
            have ar := ap2 .nxt
            simp only [Rw.d] at ar
            refine ⟨.nxt, turns - 1, [], w, m + 1 + 1, some (.int κ), some (Rw.d .nxt), o13, o14, ?_, .nxt hpg⟩
            simp only [B__law_program1, dd, nn, v13, hn0, hκ, hq, z0, z1, z2, z3, i1, i2, nb, nw, ap, at0, List.length_map, wl, wa, Rw.d, ar, ft, f3, f7, f8, f9, f10, f11, f456, c4, cA, c5, q_runF, q_kFin, q_kFinN, q_mC, q_v0, q_v1, q_v2, q_v3, q_v4, q_v5, q_v6, q_v7, q_v8, q_v9, q_v10, q_v11, q_v12, q_v13, q_mOp, q_mTest, q_kB, q_kAnd, q_kOr, q_kNot, q_kNeg, q_kChT, q_kChF, q_mTru, q_tAnd, q_tOr, q_tNot, q_tYes, q_eAnd, q_eOr, q_eNot, q_mIf, q_aNil, q_aCons, q_mTup, q_mLst, q_mB, q_mCall, q_mNeg, q_mChain, q_sNil, q_sSeq, q_sExpr, q_sRet, q_sRetN, q_sBk, q_sCt, q_sIf, q_sAsg, q_kPutN, q_sBox, q_kBox, q_sApp, q_sSetI, q_sAug, q_kAug, q_kAug2, q_sFor, q_mRng1, q_kR1, q_kR2, q_mRng2, q_mIt, q_kItL, q_kItT, q_addI, q_addS, q_addT, q_addL, q_sub, q_mul, q_mod, q_fdv, q_pow, q_lt, q_le, q_gt, q_ge, q_iadd, q_isub, q_isN, q_notN, q_isNon_non, q_isNon_int, q_isNon_tup, q_isNon_lst, q_eqI, q_eqS, q_neI, q_neS, q_ixT, q_ixL, q_ixS, q_ixR0, q_int, q_intb, q_lenT, q_lenC, q_lenL, q_min, q_max, q_tupL, q_tupT, q_listL, q_listT, q_truB, q_truI, q_truT, q_truL, q_truN, q_bind, q_toS, q_nx, q_rt, q_bk, q_ct, q_ofO, q_noex, List.set_cons_zero, List.set_cons_succ, List.getElem?_cons_zero, List.getElem?_cons_succ, Option.map_some, Option.bind_some, List.length_cons, List.length_nil, List.map_cons, List.map_nil, Nat.reduceAdd, Nat.reduceSub, Nat.reduceLeDiff, Nat.reduceEqDiff, List.replicate_succ, List.replicate_zero, List.cons_append, List.nil_append, ↓reduceIte, if_true, if_false, Bool.false_eq_true, decide_true, decide_false, Bool.not_true, Bool.not_false, and_self, and_true, true_and, or_true, true_or, not_true_eq_false, not_false_eq_true, q_v14, q_v15, q_v16, q_v17, q_mEnum, q_kEnum, q_mZip, q_kZip, q_mRev, q_kRev, q_aStar, q_kSt, q_pNone, q_pSome, q_kPart, q_mSl, q_kSl2, q_kSl3, q_kCutT, q_kCutL, q_wkL, q_wkT, q_wkS]
            rfl
          · skip
            have ft : (0 < turns) = False := eq_false ht
            have ar := ap2 (.inp q)
            simp only [Rw.d] at ar
            refine ⟨.inp q, turns, w ++ [rs.length], b, m + 1 + 1, some (.int κ), some (Rw.d (.inp q)), o13, o14, ?_, .row hpg gn⟩
            simp only [B__law_program1, dd, nn, v13, hn0, hκ, hq, z0, z1, z2, z3, i1, i2, nb, nw, ap, at0, List.length_map, wl, wa, Rw.d, ar, ft, s2, f3, f7, f8, f9, f10, f11, f456, c4, cA, c5, q_runF, q_kFin, q_kFinN, q_mC, q_v0, q_v1, q_v2, q_v3, q_v4, q_v5, q_v6, q_v7, q_v8, q_v9, q_v10, q_v11, q_v12, q_v13, q_mOp, q_mTest, q_kB, q_kAnd, q_kOr, q_kNot, q_kNeg, q_kChT, q_kChF, q_mTru, q_tAnd, q_tOr, q_tNot, q_tYes, q_eAnd, q_eOr, q_eNot, q_mIf, q_aNil, q_aCons, q_mTup, q_mLst, q_mB, q_mCall, q_mNeg, q_mChain, q_sNil, q_sSeq, q_sExpr, q_sRet, q_sRetN, q_sBk, q_sCt, q_sIf, q_sAsg, q_kPutN, q_sBox, q_kBox, q_sApp, q_sSetI, q_sAug, q_kAug, q_kAug2, q_sFor, q_mRng1, q_kR1, q_kR2, q_mRng2, q_mIt, q_kItL, q_kItT, q_addI, q_addS, q_addT, q_addL, q_sub, q_mul, q_mod, q_fdv, q_pow, q_lt, q_le, q_gt, q_ge, q_iadd, q_isub, q_isN, q_notN, q_isNon_non, q_isNon_int, q_isNon_tup, q_isNon_lst, q_eqI, q_eqS, q_neI, q_neS, q_ixT, q_ixL, q_ixS, q_ixR0, q_int, q_intb, q_lenT, q_lenC, q_lenL, q_min, q_max, q_tupL, q_tupT, q_listL, q_listT, q_truB, q_truI, q_truT, q_truL, q_truN, q_bind, q_toS, q_nx, q_rt, q_bk, q_ct, q_ofO, q_noex, List.set_cons_zero, List.set_cons_succ, List.getElem?_cons_zero, List.getElem?_cons_succ, Option.map_some, Option.bind_some, List.length_cons, List.length_nil, List.map_cons, List.map_nil, Nat.reduceAdd, Nat.reduceSub, Nat.reduceLeDiff, Nat.reduceEqDiff, List.replicate_succ, List.replicate_zero, List.cons_append, List.nil_append, ↓reduceIte, if_true, if_false, Bool.false_eq_true, decide_true, decide_false, Bool.not_true, Bool.not_false, and_self, and_true, true_and, or_true, true_or, not_true_eq_false, not_false_eq_true, q_v14, q_v15, q_v16, q_v17, q_mEnum, q_kEnum, q_mZip, q_kZip, q_mRev, q_kRev, q_aStar, q_kSt, q_pNone, q_pSome, q_kPart, q_mSl, q_kSl2, q_kSl3, q_kCutT, q_kCutL, q_wkL, q_wkT, q_wkS]
        have g3 : (κ = 3) = False := eq_false h3
        have g11 : (κ = 11) = False := eq_false h11
        have ar := ap2 (.inp q)
        simp only [Rw.d] at ar
        refine ⟨.inp q, turns, w ++ [rs.length], b, m + 1 + 1, some (.int κ), some (Rw.d (.inp q)), o13, o14, ?_, .row hpg gn⟩
        simp only [B__law_program1, dd, nn, v13, hn0, hκ, hq, z0, z1, z2, z3, i1, i2, nb, nw, ap, at0, List.length_map, wl, wa, Rw.d, ar, g3, g11, s2, c4, cA, c5, q_runF, q_kFin, q_kFinN, q_mC, q_v0, q_v1, q_v2, q_v3, q_v4, q_v5, q_v6, q_v7, q_v8, q_v9, q_v10, q_v11, q_v12, q_v13, q_mOp, q_mTest, q_kB, q_kAnd, q_kOr, q_kNot, q_kNeg, q_kChT, q_kChF, q_mTru, q_tAnd, q_tOr, q_tNot, q_tYes, q_eAnd, q_eOr, q_eNot, q_mIf, q_aNil, q_aCons, q_mTup, q_mLst, q_mB, q_mCall, q_mNeg, q_mChain, q_sNil, q_sSeq, q_sExpr, q_sRet, q_sRetN, q_sBk, q_sCt, q_sIf, q_sAsg, q_kPutN, q_sBox, q_kBox, q_sApp, q_sSetI, q_sAug, q_kAug, q_kAug2, q_sFor, q_mRng1, q_kR1, q_kR2, q_mRng2, q_mIt, q_kItL, q_kItT, q_addI, q_addS, q_addT, q_addL, q_sub, q_mul, q_mod, q_fdv, q_pow, q_lt, q_le, q_gt, q_ge, q_iadd, q_isub, q_isN, q_notN, q_isNon_non, q_isNon_int, q_isNon_tup, q_isNon_lst, q_eqI, q_eqS, q_neI, q_neS, q_ixT, q_ixL, q_ixS, q_ixR0, q_int, q_intb, q_lenT, q_lenC, q_lenL, q_min, q_max, q_tupL, q_tupT, q_listL, q_listT, q_truB, q_truI, q_truT, q_truL, q_truN, q_bind, q_toS, q_nx, q_rt, q_bk, q_ct, q_ofO, q_noex, List.set_cons_zero, List.set_cons_succ, List.getElem?_cons_zero, List.getElem?_cons_succ, Option.map_some, Option.bind_some, List.length_cons, List.length_nil, List.map_cons, List.map_nil, Nat.reduceAdd, Nat.reduceSub, Nat.reduceLeDiff, Nat.reduceEqDiff, List.replicate_succ, List.replicate_zero, List.cons_append, List.nil_append, ↓reduceIte, if_true, if_false, Bool.false_eq_true, decide_true, decide_false, Bool.not_true, Bool.not_false, and_self, and_true, true_and, or_true, true_or, not_true_eq_false, not_false_eq_true, q_v14, q_v15, q_v16, q_v17, q_mEnum, q_kEnum, q_mZip, q_kZip, q_mRev, q_kRev, q_aStar, q_kSt, q_pNone, q_pSome, q_kPart, q_mSl, q_kSl2, q_kSl3, q_kCutT, q_kCutL, q_wkL, q_wkT, q_wkS]
      · skip
        have c5 : ((w.map fun (j : Nat) => (j : Int)) = []) = False := eq_false (by simpa using hw)
        by_cases h3 : κ = 3
        · skip
          have f3 : (κ = 3) = True := eq_true (by omega)
          have f7 : (κ = 7) = False := eq_false (by omega)
          have f8 : (κ = 8) = False := eq_false (by omega)
          have f9 : (κ = 9) = False := eq_false (by omega)
          have f10 : (κ = 10) = False := eq_false (by omega)
          have f11 : (κ = 11) = False := eq_false (by omega)
          have f456 : (κ ∈ [(4 : Int), 5, 6]) = False := eq_false (by simp only [List.mem_cons, List.not_mem_nil, or_false]; omega)
          obtain ⟨a, ha, ea⟩ := pickW (ds := ds) (n := m + 1 + 1 + 2) (w := w) (st := st ++ [.lst (rs.map Rw.d)]) hw
          obtain ⟨c, hc, ec⟩ := pickW (ds := ds) (n := m + 1 + 1 + 2 + 1) (w := w) (st := st ++ [.lst (rs.map Rw.d)]) hw
          obtain ⟨nu, hnu⟩ : ∃ nu, num ds (m + 1 + 1) p = nu := ⟨_, rfl⟩
          have hn1 : 0 ≤ nu ∧ nu < p := by rw [← hnu]; exact ⟨num_nn hp, num_lt hp⟩
          have ar := ap2 (.con nu)
          simp only [Rw.d] at ar
          refine ⟨.con nu, turns, w ++ [rs.length], b, m + 1 + 1 + 2 + 1 + 1, some (.int κ), some (Rw.d (.con nu)), some (.int (a : Int)), some (.int (c : Int)), ?_, .row hpg hn1⟩
          simp only [B__law_program1, dd, nn, v13, hn0, hκ, hq, z0, z1, z2, z3, i1, i2, nb, nw, ap, at0, List.length_map, wl, wa, Rw.d, ar, hnu, s3, f3, f7, f8, f9, f10, f11, f456, c4, cA, c5, ea, ec, q_runF, q_kFin, q_kFinN, q_mC, q_v0, q_v1, q_v2, q_v3, q_v4, q_v5, q_v6, q_v7, q_v8, q_v9, q_v10, q_v11, q_v12, q_v13, q_mOp, q_mTest, q_kB, q_kAnd, q_kOr, q_kNot, q_kNeg, q_kChT, q_kChF, q_mTru, q_tAnd, q_tOr, q_tNot, q_tYes, q_eAnd, q_eOr, q_eNot, q_mIf, q_aNil, q_aCons, q_mTup, q_mLst, q_mB, q_mCall, q_mNeg, q_mChain, q_sNil, q_sSeq, q_sExpr, q_sRet, q_sRetN, q_sBk, q_sCt, q_sIf, q_sAsg, q_kPutN, q_sBox, q_kBox, q_sApp, q_sSetI, q_sAug, q_kAug, q_kAug2, q_sFor, q_mRng1, q_kR1, q_kR2, q_mRng2, q_mIt, q_kItL, q_kItT, q_addI, q_addS, q_addT, q_addL, q_sub, q_mul, q_mod, q_fdv, q_pow, q_lt, q_le, q_gt, q_ge, q_iadd, q_isub, q_isN, q_notN, q_isNon_non, q_isNon_int, q_isNon_tup, q_isNon_lst, q_eqI, q_eqS, q_neI, q_neS, q_ixT, q_ixL, q_ixS, q_ixR0, q_int, q_intb, q_lenT, q_lenC, q_lenL, q_min, q_max, q_tupL, q_tupT, q_listL, q_listT, q_truB, q_truI, q_truT, q_truL, q_truN, q_bind, q_toS, q_nx, q_rt, q_bk, q_ct, q_ofO, q_noex, List.set_cons_zero, List.set_cons_succ, List.getElem?_cons_zero, List.getElem?_cons_succ, Option.map_some, Option.bind_some, List.length_cons, List.length_nil, List.map_cons, List.map_nil, Nat.reduceAdd, Nat.reduceSub, Nat.reduceLeDiff, Nat.reduceEqDiff, List.replicate_succ, List.replicate_zero, List.cons_append, List.nil_append, ↓reduceIte, if_true, if_false, Bool.false_eq_true, decide_true, decide_false, Bool.not_true, Bool.not_false, and_self, and_true, true_and, or_true, true_or, not_true_eq_false, not_false_eq_true, q_v14, q_v15, q_v16, q_v17, q_mEnum, q_kEnum, q_mZip, q_kZip, q_mRev, q_kRev, q_aStar, q_kSt, q_pNone, q_pSome, q_kPart, q_mSl, q_kSl2, q_kSl3, q_kCutT, q_kCutL, q_wkL, q_wkT, q_wkS]
        by_cases h11 : κ = 11
        · skip
          have f3 : (κ = 3) = False := eq_false (by omega)
          have f7 : (κ = 7) = False := eq_false (by omega)
          have f8 : (κ = 8) = False := eq_false (by omega)
          have f9 : (κ = 9) = False := eq_false (by omega)
          have f10 : (κ = 10) = False := eq_false (by omega)
          have f11 : (κ = 11) = True := eq_true (by omega)
          have f456 : (κ ∈ [(4 : Int), 5, 6]) = False := eq_false (by simp only [List.mem_cons, List.not_mem_nil, or_false]; omega)
          obtain ⟨a, ha, ea⟩ := pickW (ds := ds) (n := m + 1 + 1) (w := w) (st := st ++ [.lst (rs.map Rw.d)]) hw
          obtain ⟨c, hc, ec⟩ := pickW (ds := ds) (n := m + 1 + 1 + 1) (w := w) (st := st ++ [.lst (rs.map Rw.d)]) hw
          by_cases ht : 0 < turns
          · skip
            have ft : (0 < turns) = True := eq_true ht
            have ar := ap2 .nxt
            simp only [Rw.d] at ar
            refine ⟨.nxt, turns - 1, [], w, m + 1 + 1 + 1 + 1, some (.int κ), some (Rw.d .nxt), some (.int (a : Int)), some (.int (c : Int)), ?_, .nxt hpg⟩
            simp only [B__law_program1, dd, nn, v13, hn0, hκ, hq, z0, z1, z2, z3, i1, i2, nb, nw, ap, at0, List.length_map, wl, wa, Rw.d, ar, ft, f3, f7, f8, f9, f10, f11, f456, c4, cA, c5, ea, ec, q_runF, q_kFin, q_kFinN, q_mC, q_v0, q_v1, q_v2, q_v3, q_v4, q_v5, q_v6, q_v7, q_v8, q_v9, q_v10, q_v11, q_v12, q_v13, q_mOp, q_mTest, q_kB, q_kAnd, q_kOr, q_kNot, q_kNeg, q_kChT, q_kChF, q_mTru, q_tAnd, q_tOr, q_tNot, q_tYes, q_eAnd, q_eOr, q_eNot, q_mIf, q_aNil, q_aCons, q_mTup, q_mLst, q_mB, q_mCall, q_mNeg, q_mChain, q_sNil, q_sSeq, q_sExpr, q_sRet, q_sRetN, q_sBk, q_sCt, q_sIf, q_sAsg, q_kPutN, q_sBox, q_kBox, q_sApp, q_sSetI, q_sAug, q_kAug, q_kAug2, q_sFor, q_mRng1, q_kR1, q_kR2, q_mRng2, q_mIt, q_kItL, q_kItT, q_addI, q_addS, q_addT, q_addL, q_sub, q_mul, q_mod, q_fdv, q_pow, q_lt, q_le, q_gt, q_ge, q_iadd, q_isub, q_isN, q_notN, q_isNon_non, q_isNon_int, q_isNon_tup, q_isNon_lst, q_eqI, q_eqS, q_neI, q_neS, q_ixT, q_ixL, q_ixS, q_ixR0, q_int, q_intb, q_lenT, q_lenC, q_lenL, q_min, q_max, q_tupL, q_tupT, q_listL, q_listT, q_truB, q_truI, q_truT, q_truL, q_truN, q_bind, q_toS, q_nx, q_rt, q_bk, q_ct, q_ofO, q_noex, List.set_cons_zero, List.set_cons_succ, List.getElem?_cons_zero, List.getElem?_cons_succ, Option.map_some, Option.bind_some, List.length_cons, List.length_nil, List.map_cons, List.map_nil, Nat.reduceAdd, Nat.reduceSub, Nat.reduceLeDiff, Nat.reduceEqDiff, List.replicate_succ, List.replicate_zero, List.cons_append, List.nil_append, ↓reduceIte, if_true, if_false, Bool.false_eq_true, decide_true, decide_false, Bool.not_true, Bool.not_false, and_self, and_true, true_and, or_true, true_or, not_true_eq_false, not_false_eq_true, q_v14, q_v15, q_v16, q_v17, q_mEnum, q_kEnum, q_mZip, q_kZip, q_mRev, q_kRev, q_aStar, q_kSt, q_pNone, q_pSome, q_kPart, q_mSl, q_kSl2, q_kSl3, q_kCutT, q_kCutL, q_wkL, q_wkT, q_wkS]
            rfl
          · skip
            have ft : (0 < turns) = False := eq_false ht
            have ar := ap2 (.inp q)
            simp only [Rw.d] at ar
            refine ⟨.inp q, turns, w ++ [rs.length], b, m + 1 + 1 + 1 + 1, some (.int κ), some (Rw.d (.inp q)), some (.int (a : Int)), some (.int (c : Int)), ?_, .row hpg gn⟩
            simp only [B__law_program1, dd, nn, v13, hn0, hκ, hq, z0, z1, z2, z3, i1, i2, nb, nw, ap, at0, List.length_map, wl, wa, Rw.d, ar, ft, s2, f3, f7, f8, f9, f10, f11, f456, c4, cA, c5, ea, ec, q_runF, q_kFin, q_kFinN, q_mC, q_v0, q_v1, q_v2, q_v3, q_v4, q_v5, q_v6, q_v7, q_v8, q_v9, q_v10, q_v11, q_v12, q_v13, q_mOp, q_mTest, q_kB, q_kAnd, q_kOr, q_kNot, q_kNeg, q_kChT, q_kChF, q_mTru, q_tAnd, q_tOr, q_tNot, q_tYes, q_eAnd, q_eOr, q_eNot, q_mIf, q_aNil, q_aCons, q_mTup, q_mLst, q_mB, q_mCall, q_mNeg, q_mChain, q_sNil, q_sSeq, q_sExpr, q_sRet, q_sRetN, q_sBk, q_sCt, q_sIf, q_sAsg, q_kPutN, q_sBox, q_kBox, q_sApp, q_sSetI, q_sAug, q_kAug, q_kAug2, q_sFor, q_mRng1, q_kR1, q_kR2, q_mRng2, q_mIt, q_kItL, q_kItT, q_addI, q_addS, q_addT, q_addL, q_sub, q_mul, q_mod, q_fdv, q_pow, q_lt, q_le, q_gt, q_ge, q_iadd, q_isub, q_isN, q_notN, q_isNon_non, q_isNon_int, q_isNon_tup, q_isNon_lst, q_eqI, q_eqS, q_neI, q_neS, q_ixT, q_ixL, q_ixS, q_ixR0, q_int, q_intb, q_lenT, q_lenC, q_lenL, q_min, q_max, q_tupL, q_tupT, q_listL, q_listT, q_truB, q_truI, q_truT, q_truL, q_truN, q_bind, q_toS, q_nx, q_rt, q_bk, q_ct, q_ofO, q_noex, List.set_cons_zero, List.set_cons_succ, List.getElem?_cons_zero, List.getElem?_cons_succ, Option.map_some, Option.bind_some, List.length_cons, List.length_nil, List.map_cons, List.map_nil, Nat.reduceAdd, Nat.reduceSub, Nat.reduceLeDiff, Nat.reduceEqDiff, List.replicate_succ, List.replicate_zero, List.cons_append, List.nil_append, ↓reduceIte, if_true, if_false, Bool.false_eq_true, decide_true, decide_false, Bool.not_true, Bool.not_false, and_self, and_true, true_and, or_true, true_or, not_true_eq_false, not_false_eq_true, q_v14, q_v15, q_v16, q_v17, q_mEnum, q_kEnum, q_mZip, q_kZip, q_mRev, q_kRev, q_aStar, q_kSt, q_pNone, q_pSome, q_kPart, q_mSl, q_kSl2, q_kSl3, q_kCutT, q_kCutL, q_wkL, q_wkT, q_wkS]
        by_cases h456 : κ = 4 ∨ κ = 5 ∨ κ = 6
        · skip
          have f3 : (κ = 3) = False := eq_false (by omega)
          have f7 : (κ = 7) = False := eq_false (by omega)
          have f8 : (κ = 8) = False := eq_false (by omega)
          have f9 : (κ = 9) = False := eq_false (by omega)
          have f10 : (κ = 10) = False := eq_false (by omega)
          have f11 : (κ = 11) = False := eq_false (by omega)
          have f456 : (κ ∈ [(4 : Int), 5, 6]) = True := eq_true (by simp only [List.mem_cons, List.not_mem_nil, or_false]; omega)
          obtain ⟨a, ha, ea⟩ := pickW (ds := ds) (n := m + 1 + 1) (w := w) (st := st ++ [.lst (rs.map Rw.d)]) hw
          obtain ⟨c, hc, ec⟩ := pickW (ds := ds) (n := m + 1 + 1 + 1) (w := w) (st := st ++ [.lst (rs.map Rw.d)]) hw
          have ar := ap2 (.pro a c)
          simp only [Rw.d] at ar
          refine ⟨.pro a c, turns, w ++ [rs.length], b, m + 1 + 1 + 1 + 1, some (.int κ), some (Rw.d (.pro a c)), some (.int (a : Int)), some (.int (c : Int)), ?_, .row hpg ⟨ha, hc⟩⟩
          simp only [B__law_program1, dd, nn, v13, hn0, hκ, hq, z0, z1, z2, z3, i1, i2, nb, nw, ap, at0, List.length_map, wl, wa, Rw.d, ar, s4, f3, f7, f8, f9, f10, f11, f456, c4, cA, c5, ea, ec, q_runF, q_kFin, q_kFinN, q_mC, q_v0, q_v1, q_v2, q_v3, q_v4, q_v5, q_v6, q_v7, q_v8, q_v9, q_v10, q_v11, q_v12, q_v13, q_mOp, q_mTest, q_kB, q_kAnd, q_kOr, q_kNot, q_kNeg, q_kChT, q_kChF, q_mTru, q_tAnd, q_tOr, q_tNot, q_tYes, q_eAnd, q_eOr, q_eNot, q_mIf, q_aNil, q_aCons, q_mTup, q_mLst, q_mB, q_mCall, q_mNeg, q_mChain, q_sNil, q_sSeq, q_sExpr, q_sRet, q_sRetN, q_sBk, q_sCt, q_sIf, q_sAsg, q_kPutN, q_sBox, q_kBox, q_sApp, q_sSetI, q_sAug, q_kAug, q_kAug2, q_sFor, q_mRng1, q_kR1, q_kR2, q_mRng2, q_mIt, q_kItL, q_kItT, q_addI, q_addS, q_addT, q_addL, q_sub, q_mul, q_mod, q_fdv, q_pow, q_lt, q_le, q_gt, q_ge, q_iadd, q_isub, q_isN, q_notN, q_isNon_non, q_isNon_int, q_isNon_tup, q_isNon_lst, q_eqI, q_eqS, q_neI, q_neS, q_ixT, q_ixL, q_ixS, q_ixR0, q_int, q_intb, q_lenT, q_lenC, q_lenL, q_min, q_max, q_tupL, q_tupT, q_listL, q_listT, q_truB, q_truI, q_truT, q_truL, q_truN, q_bind, q_toS, q_nx, q_rt, q_bk, q_ct, q_ofO, q_noex, List.set_cons_zero, List.set_cons_succ, List.getElem?_cons_zero, List.getElem?_cons_succ, Option.map_some, Option.bind_some, List.length_cons, List.length_nil, List.map_cons, List.map_nil, Nat.reduceAdd, Nat.reduceSub, Nat.reduceLeDiff, Nat.reduceEqDiff, List.replicate_succ, List.replicate_zero, List.cons_append, List.nil_append, ↓reduceIte, if_true, if_false, Bool.false_eq_true, decide_true, decide_false, Bool.not_true, Bool.not_false, and_self, and_true, true_and, or_true, true_or, not_true_eq_false, not_false_eq_true, q_v14, q_v15, q_v16, q_v17, q_mEnum, q_kEnum, q_mZip, q_kZip, q_mRev, q_kRev, q_aStar, q_kSt, q_pNone, q_pSome, q_kPart, q_mSl, q_kSl2, q_kSl3, q_kCutT, q_kCutL, q_wkL, q_wkT, q_wkS]
        by_cases h7 : κ = 7
        · skip
          have f3 : (κ = 3) = False := eq_false (by omega)
          have f7 : (κ = 7) = True := eq_true (by omega)
          have f8 : (κ = 8) = False := eq_false (by omega)
          have f9 : (κ = 9) = False := eq_false (by omega)
          have f10 : (κ = 10) = False := eq_false (by omega)
          have f11 : (κ = 11) = False := eq_false (by omega)
          have f456 : (κ ∈ [(4 : Int), 5, 6]) = False := eq_false (by simp only [List.mem_cons, List.not_mem_nil, or_false]; omega)
          obtain ⟨a, ha, ea⟩ := pickW (ds := ds) (n := m + 1 + 1) (w := w) (st := st ++ [.lst (rs.map Rw.d)]) hw
          obtain ⟨c, hc, ec⟩ := pickW (ds := ds) (n := m + 1 + 1 + 1) (w := w) (st := st ++ [.lst (rs.map Rw.d)]) hw
          have ar := ap2 (.sm a c)
          simp only [Rw.d] at ar
          refine ⟨.sm a c, turns, w ++ [rs.length], b, m + 1 + 1 + 1 + 1, some (.int κ), some (Rw.d (.sm a c)), some (.int (a : Int)), some (.int (c : Int)), ?_, .row hpg ⟨ha, hc⟩⟩
          simp only [B__law_program1, dd, nn, v13, hn0, hκ, hq, z0, z1, z2, z3, i1, i2, nb, nw, ap, at0, List.length_map, wl, wa, Rw.d, ar, s5, f3, f7, f8, f9, f10, f11, f456, c4, cA, c5, ea, ec, q_runF, q_kFin, q_kFinN, q_mC, q_v0, q_v1, q_v2, q_v3, q_v4, q_v5, q_v6, q_v7, q_v8, q_v9, q_v10, q_v11, q_v12, q_v13, q_mOp, q_mTest, q_kB, q_kAnd, q_kOr, q_kNot, q_kNeg, q_kChT, q_kChF, q_mTru, q_tAnd, q_tOr, q_tNot, q_tYes, q_eAnd, q_eOr, q_eNot, q_mIf, q_aNil, q_aCons, q_mTup, q_mLst, q_mB, q_mCall, q_mNeg, q_mChain, q_sNil, q_sSeq, q_sExpr, q_sRet, q_sRetN, q_sBk, q_sCt, q_sIf, q_sAsg, q_kPutN, q_sBox, q_kBox, q_sApp, q_sSetI, q_sAug, q_kAug, q_kAug2, q_sFor, q_mRng1, q_kR1, q_kR2, q_mRng2, q_mIt, q_kItL, q_kItT, q_addI, q_addS, q_addT, q_addL, q_sub, q_mul, q_mod, q_fdv, q_pow, q_lt, q_le, q_gt, q_ge, q_iadd, q_isub, q_isN, q_notN, q_isNon_non, q_isNon_int, q_isNon_tup, q_isNon_lst, q_eqI, q_eqS, q_neI, q_neS, q_ixT, q_ixL, q_ixS, q_ixR0, q_int, q_intb, q_lenT, q_lenC, q_lenL, q_min, q_max, q_tupL, q_tupT, q_listL, q_listT, q_truB, q_truI, q_truT, q_truL, q_truN, q_bind, q_toS, q_nx, q_rt, q_bk, q_ct, q_ofO, q_noex, List.set_cons_zero, List.set_cons_succ, List.getElem?_cons_zero, List.getElem?_cons_succ, Option.map_some, Option.bind_some, List.length_cons, List.length_nil, List.map_cons, List.map_nil, Nat.reduceAdd, Nat.reduceSub, Nat.reduceLeDiff, Nat.reduceEqDiff, List.replicate_succ, List.replicate_zero, List.cons_append, List.nil_append, ↓reduceIte, if_true, if_false, Bool.false_eq_true, decide_true, decide_false, Bool.not_true, Bool.not_false, and_self, and_true, true_and, or_true, true_or, not_true_eq_false, not_false_eq_true, q_v14, q_v15, q_v16, q_v17, q_mEnum, q_kEnum, q_mZip, q_kZip, q_mRev, q_kRev, q_aStar, q_kSt, q_pNone, q_pSome, q_kPart, q_mSl, q_kSl2, q_kSl3, q_kCutT, q_kCutL, q_wkL, q_wkT, q_wkS]
        by_cases h8 : κ = 8
        · skip
          have f3 : (κ = 3) = False := eq_false (by omega)
          have f7 : (κ = 7) = False := eq_false (by omega)
          have f8 : (κ = 8) = True := eq_true (by omega)
          have f9 : (κ = 9) = False := eq_false (by omega)
          have f10 : (κ = 10) = False := eq_false (by omega)
          have f11 : (κ = 11) = False := eq_false (by omega)
          have f456 : (κ ∈ [(4 : Int), 5, 6]) = False := eq_false (by simp only [List.mem_cons, List.not_mem_nil, or_false]; omega)
          obtain ⟨a, ha, ea⟩ := pickW (ds := ds) (n := m + 1 + 1) (w := w) (st := st ++ [.lst (rs.map Rw.d)]) hw
          obtain ⟨c, hc, ec⟩ := pickW (ds := ds) (n := m + 1 + 1 + 1) (w := w) (st := st ++ [.lst (rs.map Rw.d)]) hw
          have ar := ap2 (.les a c)
          simp only [Rw.d] at ar
          refine ⟨.les a c, turns, w ++ [rs.length], b, m + 1 + 1 + 1 + 1, some (.int κ), some (Rw.d (.les a c)), some (.int (a : Int)), some (.int (c : Int)), ?_, .row hpg ⟨ha, hc⟩⟩
          simp only [B__law_program1, dd, nn, v13, hn0, hκ, hq, z0, z1, z2, z3, i1, i2, nb, nw, ap, at0, List.length_map, wl, wa, Rw.d, ar, s6, f3, f7, f8, f9, f10, f11, f456, c4, cA, c5, ea, ec, q_runF, q_kFin, q_kFinN, q_mC, q_v0, q_v1, q_v2, q_v3, q_v4, q_v5, q_v6, q_v7, q_v8, q_v9, q_v10, q_v11, q_v12, q_v13, q_mOp, q_mTest, q_kB, q_kAnd, q_kOr, q_kNot, q_kNeg, q_kChT, q_kChF, q_mTru, q_tAnd, q_tOr, q_tNot, q_tYes, q_eAnd, q_eOr, q_eNot, q_mIf, q_aNil, q_aCons, q_mTup, q_mLst, q_mB, q_mCall, q_mNeg, q_mChain, q_sNil, q_sSeq, q_sExpr, q_sRet, q_sRetN, q_sBk, q_sCt, q_sIf, q_sAsg, q_kPutN, q_sBox, q_kBox, q_sApp, q_sSetI, q_sAug, q_kAug, q_kAug2, q_sFor, q_mRng1, q_kR1, q_kR2, q_mRng2, q_mIt, q_kItL, q_kItT, q_addI, q_addS, q_addT, q_addL, q_sub, q_mul, q_mod, q_fdv, q_pow, q_lt, q_le, q_gt, q_ge, q_iadd, q_isub, q_isN, q_notN, q_isNon_non, q_isNon_int, q_isNon_tup, q_isNon_lst, q_eqI, q_eqS, q_neI, q_neS, q_ixT, q_ixL, q_ixS, q_ixR0, q_int, q_intb, q_lenT, q_lenC, q_lenL, q_min, q_max, q_tupL, q_tupT, q_listL, q_listT, q_truB, q_truI, q_truT, q_truL, q_truN, q_bind, q_toS, q_nx, q_rt, q_bk, q_ct, q_ofO, q_noex, List.set_cons_zero, List.set_cons_succ, List.getElem?_cons_zero, List.getElem?_cons_succ, Option.map_some, Option.bind_some, List.length_cons, List.length_nil, List.map_cons, List.map_nil, Nat.reduceAdd, Nat.reduceSub, Nat.reduceLeDiff, Nat.reduceEqDiff, List.replicate_succ, List.replicate_zero, List.cons_append, List.nil_append, ↓reduceIte, if_true, if_false, Bool.false_eq_true, decide_true, decide_false, Bool.not_true, Bool.not_false, and_self, and_true, true_and, or_true, true_or, not_true_eq_false, not_false_eq_true, q_v14, q_v15, q_v16, q_v17, q_mEnum, q_kEnum, q_mZip, q_kZip, q_mRev, q_kRev, q_aStar, q_kSt, q_pNone, q_pSome, q_kPart, q_mSl, q_kSl2, q_kSl3, q_kCutT, q_kCutL, q_wkL, q_wkT, q_wkS]
        by_cases h9 : κ = 9
        · skip
          have f3 : (κ = 3) = False := eq_false (by omega)
          have f7 : (κ = 7) = False := eq_false (by omega)
          have f8 : (κ = 8) = False := eq_false (by omega)
          have f9 : (κ = 9) = True := eq_true (by omega)
          have f10 : (κ = 10) = False := eq_false (by omega)
          have f11 : (κ = 11) = False := eq_false (by omega)
          have f456 : (κ ∈ [(4 : Int), 5, 6]) = False := eq_false (by simp only [List.mem_cons, List.not_mem_nil, or_false]; omega)
          obtain ⟨a, ha, ea⟩ := pickW (ds := ds) (n := m + 1 + 1) (w := w) (st := st ++ [.lst (rs.map Rw.d)]) hw
          obtain ⟨c, hc, ec⟩ := pickW (ds := ds) (n := m + 1 + 1 + 1) (w := w) (st := st ++ [.lst (rs.map Rw.d)]) hw
          obtain ⟨nu, hnu⟩ : ∃ nu, num ds (m + 1 + 1 + 1 + 1) p = nu := ⟨_, rfl⟩
          have hn1 : 0 ≤ nu ∧ nu < p := by rw [← hnu]; exact ⟨num_nn hp, num_lt hp⟩
          have ar := ap2 (.tim nu a)
          simp only [Rw.d] at ar
          refine ⟨.tim nu a, turns, w ++ [rs.length], b, m + 1 + 1 + 1 + 1 + 2, some (.int κ), some (Rw.d (.tim nu a)), some (.int (a : Int)), some (.int (c : Int)), ?_, .row hpg ⟨hn1, ha⟩⟩
          simp only [B__law_program1, dd, nn, v13, hn0, hκ, hq, z0, z1, z2, z3, i1, i2, nb, nw, ap, at0, List.length_map, wl, wa, Rw.d, ar, hnu, s7, f3, f7, f8, f9, f10, f11, f456, c4, cA, c5, ea, ec, q_runF, q_kFin, q_kFinN, q_mC, q_v0, q_v1, q_v2, q_v3, q_v4, q_v5, q_v6, q_v7, q_v8, q_v9, q_v10, q_v11, q_v12, q_v13, q_mOp, q_mTest, q_kB, q_kAnd, q_kOr, q_kNot, q_kNeg, q_kChT, q_kChF, q_mTru, q_tAnd, q_tOr, q_tNot, q_tYes, q_eAnd, q_eOr, q_eNot, q_mIf, q_aNil, q_aCons, q_mTup, q_mLst, q_mB, q_mCall, q_mNeg, q_mChain, q_sNil, q_sSeq, q_sExpr, q_sRet, q_sRetN, q_sBk, q_sCt, q_sIf, q_sAsg, q_kPutN, q_sBox, q_kBox, q_sApp, q_sSetI, q_sAug, q_kAug, q_kAug2, q_sFor, q_mRng1, q_kR1, q_kR2, q_mRng2, q_mIt, q_kItL, q_kItT, q_addI, q_addS, q_addT, q_addL, q_sub, q_mul, q_mod, q_fdv, q_pow, q_lt, q_le, q_gt, q_ge, q_iadd, q_isub, q_isN, q_notN, q_isNon_non, q_isNon_int, q_isNon_tup, q_isNon_lst, q_eqI, q_eqS, q_neI, q_neS, q_ixT, q_ixL, q_ixS, q_ixR0, q_int, q_intb, q_lenT, q_lenC, q_lenL, q_min, q_max, q_tupL, q_tupT, q_listL, q_listT, q_truB, q_truI, q_truT, q_truL, q_truN, q_bind, q_toS, q_nx, q_rt, q_bk, q_ct, q_ofO, q_noex, List.set_cons_zero, List.set_cons_succ, List.getElem?_cons_zero, List.getElem?_cons_succ, Option.map_some, Option.bind_some, List.length_cons, List.length_nil, List.map_cons, List.map_nil, Nat.reduceAdd, Nat.reduceSub, Nat.reduceLeDiff, Nat.reduceEqDiff, List.replicate_succ, List.replicate_zero, List.cons_append, List.nil_append, ↓reduceIte, if_true, if_false, Bool.false_eq_true, decide_true, decide_false, Bool.not_true, Bool.not_false, and_self, and_true, true_and, or_true, true_or, not_true_eq_false, not_false_eq_true, q_v14, q_v15, q_v16, q_v17, q_mEnum, q_kEnum, q_mZip, q_kZip, q_mRev, q_kRev, q_aStar, q_kSt, q_pNone, q_pSome, q_kPart, q_mSl, q_kSl2, q_kSl3, q_kCutT, q_kCutL, q_wkL, q_wkT, q_wkS]
        by_cases h10 : κ = 10
        · skip
          have f3 : (κ = 3) = False := eq_false (by omega)
          have f7 : (κ = 7) = False := eq_false (by omega)
          have f8 : (κ = 8) = False := eq_false (by omega)
          have f9 : (κ = 9) = False := eq_false (by omega)
          have f10 : (κ = 10) = True := eq_true (by omega)
          have f11 : (κ = 11) = False := eq_false (by omega)
          have f456 : (κ ∈ [(4 : Int), 5, 6]) = False := eq_false (by simp only [List.mem_cons, List.not_mem_nil, or_false]; omega)
          obtain ⟨a, ha, ea⟩ := pickW (ds := ds) (n := m + 1 + 1) (w := w) (st := st ++ [.lst (rs.map Rw.d)]) hw
          obtain ⟨c, hc, ec⟩ := pickW (ds := ds) (n := m + 1 + 1 + 1) (w := w) (st := st ++ [.lst (rs.map Rw.d)]) hw
          have r0 := drw_nn (ds := ds) (n := m + 1 + 1 + 1 + 1) hn0
          have r1 := drw_lt (ds := ds) (n := m + 1 + 1 + 1 + 1) hn0
          obtain ⟨q2, hq2⟩ : ∃ q2, 1 + drw ds (m + 1 + 1 + 1 + 1) n = q2 := ⟨_, rfl⟩
          have ar := ap2 (.out a q2)
          simp only [Rw.d] at ar
          refine ⟨.out a q2, turns, w, b, m + 1 + 1 + 1 + 1 + 1, some (.int κ), some (Rw.d (.out a q2)), some (.int (a : Int)), some (.int (c : Int)), ?_, .out hpg ha (by omega) (by omega)⟩
          simp only [B__law_program1, dd, nn, v13, hn0, hκ, hq, z0, z1, z2, z3, i1, i2, nb, nw, ap, at0, List.length_map, wl, wa, Rw.d, ar, hq2, f3, f7, f8, f9, f10, f11, f456, c4, cA, c5, ea, ec, q_runF, q_kFin, q_kFinN, q_mC, q_v0, q_v1, q_v2, q_v3, q_v4, q_v5, q_v6, q_v7, q_v8, q_v9, q_v10, q_v11, q_v12, q_v13, q_mOp, q_mTest, q_kB, q_kAnd, q_kOr, q_kNot, q_kNeg, q_kChT, q_kChF, q_mTru, q_tAnd, q_tOr, q_tNot, q_tYes, q_eAnd, q_eOr, q_eNot, q_mIf, q_aNil, q_aCons, q_mTup, q_mLst, q_mB, q_mCall, q_mNeg, q_mChain, q_sNil, q_sSeq, q_sExpr, q_sRet, q_sRetN, q_sBk, q_sCt, q_sIf, q_sAsg, q_kPutN, q_sBox, q_kBox, q_sApp, q_sSetI, q_sAug, q_kAug, q_kAug2, q_sFor, q_mRng1, q_kR1, q_kR2, q_mRng2, q_mIt, q_kItL, q_kItT, q_addI, q_addS, q_addT, q_addL, q_sub, q_mul, q_mod, q_fdv, q_pow, q_lt, q_le, q_gt, q_ge, q_iadd, q_isub, q_isN, q_notN, q_isNon_non, q_isNon_int, q_isNon_tup, q_isNon_lst, q_eqI, q_eqS, q_neI, q_neS, q_ixT, q_ixL, q_ixS, q_ixR0, q_int, q_intb, q_lenT, q_lenC, q_lenL, q_min, q_max, q_tupL, q_tupT, q_listL, q_listT, q_truB, q_truI, q_truT, q_truL, q_truN, q_bind, q_toS, q_nx, q_rt, q_bk, q_ct, q_ofO, q_noex, List.set_cons_zero, List.set_cons_succ, List.getElem?_cons_zero, List.getElem?_cons_succ, Option.map_some, Option.bind_some, List.length_cons, List.length_nil, List.map_cons, List.map_nil, Nat.reduceAdd, Nat.reduceSub, Nat.reduceLeDiff, Nat.reduceEqDiff, List.replicate_succ, List.replicate_zero, List.cons_append, List.nil_append, ↓reduceIte, if_true, if_false, Bool.false_eq_true, decide_true, decide_false, Bool.not_true, Bool.not_false, and_self, and_true, true_and, or_true, true_or, not_true_eq_false, not_false_eq_true, q_v14, q_v15, q_v16, q_v17, q_mEnum, q_kEnum, q_mZip, q_kZip, q_mRev, q_kRev, q_aStar, q_kSt, q_pNone, q_pSome, q_kPart, q_mSl, q_kSl2, q_kSl3, q_kCutT, q_kCutL, q_wkL, q_wkT, q_wkS]
        have f3 : (κ = 3) = False := eq_false (by omega)
        have f7 : (κ = 7) = False := eq_false (by omega)
        have f8 : (κ = 8) = False := eq_false (by omega)
        have f9 : (κ = 9) = False := eq_false (by omega)
        have f10 : (κ = 10) = False := eq_false (by omega)
        have f11 : (κ = 11) = False := eq_false (by omega)
        have f456 : (κ ∈ [(4 : Int), 5, 6]) = False := eq_false (by simp only [List.mem_cons, List.not_mem_nil, or_false]; omega)
        obtain ⟨a, ha, ea⟩ := pickW (ds := ds) (n := m + 1 + 1) (w := w) (st := st ++ [.lst (rs.map Rw.d)]) hw
        obtain ⟨c, hc, ec⟩ := pickW (ds := ds) (n := m + 1 + 1 + 1) (w := w) (st := st ++ [.lst (rs.map Rw.d)]) hw
        have ar := ap2 (.inp q)
        simp only [Rw.d] at ar
        refine ⟨.inp q, turns, w ++ [rs.length], b, m + 1 + 1 + 1 + 1, some (.int κ), some (Rw.d (.inp q)), some (.int (a : Int)), some (.int (c : Int)), ?_, .row hpg gn⟩
        simp only [B__law_program1, dd, nn, v13, hn0, hκ, hq, z0, z1, z2, z3, i1, i2, nb, nw, ap, at0, List.length_map, wl, wa, Rw.d, ar, s2, f3, f7, f8, f9, f10, f11, f456, c4, cA, c5, ea, ec, q_runF, q_kFin, q_kFinN, q_mC, q_v0, q_v1, q_v2, q_v3, q_v4, q_v5, q_v6, q_v7, q_v8, q_v9, q_v10, q_v11, q_v12, q_v13, q_mOp, q_mTest, q_kB, q_kAnd, q_kOr, q_kNot, q_kNeg, q_kChT, q_kChF, q_mTru, q_tAnd, q_tOr, q_tNot, q_tYes, q_eAnd, q_eOr, q_eNot, q_mIf, q_aNil, q_aCons, q_mTup, q_mLst, q_mB, q_mCall, q_mNeg, q_mChain, q_sNil, q_sSeq, q_sExpr, q_sRet, q_sRetN, q_sBk, q_sCt, q_sIf, q_sAsg, q_kPutN, q_sBox, q_kBox, q_sApp, q_sSetI, q_sAug, q_kAug, q_kAug2, q_sFor, q_mRng1, q_kR1, q_kR2, q_mRng2, q_mIt, q_kItL, q_kItT, q_addI, q_addS, q_addT, q_addL, q_sub, q_mul, q_mod, q_fdv, q_pow, q_lt, q_le, q_gt, q_ge, q_iadd, q_isub, q_isN, q_notN, q_isNon_non, q_isNon_int, q_isNon_tup, q_isNon_lst, q_eqI, q_eqS, q_neI, q_neS, q_ixT, q_ixL, q_ixS, q_ixR0, q_int, q_intb, q_lenT, q_lenC, q_lenL, q_min, q_max, q_tupL, q_tupT, q_listL, q_listT, q_truB, q_truI, q_truT, q_truL, q_truN, q_bind, q_toS, q_nx, q_rt, q_bk, q_ct, q_ofO, q_noex, List.set_cons_zero, List.set_cons_succ, List.getElem?_cons_zero, List.getElem?_cons_succ, Option.map_some, Option.bind_some, List.length_cons, List.length_nil, List.map_cons, List.map_nil, Nat.reduceAdd, Nat.reduceSub, Nat.reduceLeDiff, Nat.reduceEqDiff, List.replicate_succ, List.replicate_zero, List.cons_append, List.nil_append, ↓reduceIte, if_true, if_false, Bool.false_eq_true, decide_true, decide_false, Bool.not_true, Bool.not_false, and_self, and_true, true_and, or_true, true_or, not_true_eq_false, not_false_eq_true, q_v14, q_v15, q_v16, q_v17, q_mEnum, q_kEnum, q_mZip, q_kZip, q_mRev, q_kRev, q_aStar, q_kSt, q_pNone, q_pSome, q_kPart, q_mSl, q_kSl2, q_kSl3, q_kCutT, q_kCutL, q_wkL, q_wkT, q_wkS]
theorem program_is {ds : List Int} {m most : Nat} {st : Store} {p n t turns : Int} (hp : 0 < p) (hn : 1 ≤ n) (hm : 0 < most) (hm2 : most ≤ 1000) : ∃ (rs : List Rw) (w b : List Nat) (m' : Nat), Pg p n rs w b ∧ 1 ≤ rs.length ∧ rs.length ≤ most ∧
    F__law_program [.ref 0, settD p n t, .int (most : Int), .int turns] (Box ds m :: st) = .ok (.tup [.str "program", .tup (rs.map Rw.d)]) (Box ds m' :: st) := by
  have hm0 : (0 : Int) < (most : Int) := by omega
  have d0 := drw_nn (ds := ds) (n := m) hm0
  have d1 := drw_lt (ds := ds) (n := m) hm0
  have e1 := draw_is (ds := ds) (n := m) (many := (most : Int)) (st := st ++ [.lst []]) hm0
  obtain ⟨k, hk, hk1⟩ : ∃ k : Nat, 1 + drw ds m (most : Int) = (k : Int) ∧ 1 ≤ k ∧ k ≤ most := ⟨(1 + drw ds m (most : Int)).toNat, by rw [Int.toNat_of_nonneg (by omega)], by omega, by omega⟩
  have wk : -(2 ^ 62) ≤ (k : Int) ∧ (k : Int) < 2 ^ 62 := by constructor <;> omega
  have z0 : 0 ≤ sizeLine := Nat.zero_le _
  have z2 : 2 ≤ sizeLine := by rw [sz]; omega
  obtain ⟨es', st', eF, turns', o10, o11, o12, o13, o14, m', rs, w, b, rfl, rfl, hpg, hl⟩ := forL_rng (t := .nm 10) (P := Held []) (body := B__law_program1) (lo := 0) (n := k)
    (es := [some (.ref 0), some (settD p n t), some (.int (most : Int)), some (.int turns), some (.int p), some (.int n), some (.int t), some (.ref (st.length + 1)), some (.lst []), some (.lst []), none, none, none, none, none]) (st := Box ds (m + 1) :: (st ++ [.lst []]))
    (fun i es s => ∃ (turns' : Int) (o10 o11 o12 o13 o14 : Option D) (m' : Nat) (rs : List Rw) (w b : List Nat), es = [some (.ref 0), some (settD p n t), some (.int (most : Int)), some (.int turns'), some (.int p), some (.int n), some (.int t), some (.ref (st.length + 1)), some (natD w), some (natD b), o10, o11, o12, o13, o14] ∧ s = Box ds m' :: (st ++ [.lst (rs.map Rw.d)]) ∧ Pg p n rs w b ∧ rs.length = i) (by
      rintro j es s hj ⟨turns', o10, o11, o12, o13, o14, m', rs, w, b, rfl, rfl, hpg, hl⟩
      obtain ⟨r, turns2, w', b', m2, p11, p12, p13, p14, e, hpg'⟩ := prog_turn (ds := ds) (m := m') (st := st) (x1 := some (settD p n t)) (x2 := some (.int (most : Int))) (x6 := some (.int t)) (o11 := o11) (o12 := o12) (o13 := o13) (o14 := o14) (turns := turns') hp hn (by omega) hpg
      have ej : (0 : Int) + (j : Int) = (rs.length : Int) := by omega
      rw [ej]
      exact ⟨trivial, _, rfl, _, _, .inl e, _, _, _, _, _, _, _, _, _, _, rfl, rfl, hpg', by simp [hl]⟩)
    (fun _ _ _ => trivial) ⟨_, _, _, _, _, _, _, [], [], [], rfl, rfl, .nil, rfl⟩
  refine ⟨rs, w, b, m', hpg, by omega, by omega, ?_⟩
  have ec : Zv.cutD [.str "setting", .int p, .int n, .int t] (some 1) none = [.int p, .int n, .int t] := rfl
  have ek : ∀ s, kPut (.tp [.nm 4, .nm 5, .nm 6]) [some (.ref 0), some (settD p n t), some (.int (most : Int)), some (.int turns), none, none, none, none, none, none, none, none, none, none, none] (.tup [.int p, .int n, .int t]) s = .ok .nx [some (.ref 0), some (settD p n t), some (.int (most : Int)), some (.int turns), some (.int p), some (.int n), some (.int t), none, none, none, none, none, none, none, none] s := fun s => q_kPut rfl
  have eT : bTuple [.ref (st.length + 1)] (Box ds m' :: (st ++ [.lst (rs.map Rw.d)])) = some (.tup (rs.map Rw.d)) := q_tupR (by rw [List.getElem?_cons_succ]; exact at_last _ _)
  simp only [F__law_program, M__law_program, z0, z2, ec, ek, e1, hk, wk, Int.toNat_natCast, eF, eT, q_runF, q_kFin, q_kFinN, q_mC, q_v0, q_v1, q_v2, q_v3, q_v4, q_v5, q_v6, q_v7, q_v8, q_v9, q_v10, q_v11, q_v12, q_v13, q_mOp, q_mTest, q_kB, q_kAnd, q_kOr, q_kNot, q_kNeg, q_kChT, q_kChF, q_mTru, q_tAnd, q_tOr, q_tNot, q_tYes, q_eAnd, q_eOr, q_eNot, q_mIf, q_aNil, q_aCons, q_mTup, q_mLst, q_mB, q_mCall, q_mNeg, q_mChain, q_sNil, q_sSeq, q_sExpr, q_sRet, q_sRetN, q_sBk, q_sCt, q_sIf, q_sAsg, q_kPutN, q_sBox, q_kBox, q_sApp, q_sSetI, q_sAug, q_kAug, q_kAug2, q_sFor, q_mRng1, q_kR1, q_kR2, q_mRng2, q_mIt, q_kItL, q_kItT, q_addI, q_addS, q_addT, q_addL, q_sub, q_mul, q_mod, q_fdv, q_pow, q_lt, q_le, q_gt, q_ge, q_iadd, q_isub, q_isN, q_notN, q_isNon_non, q_isNon_int, q_isNon_tup, q_isNon_lst, q_eqI, q_eqS, q_neI, q_neS, q_ixT, q_ixL, q_ixS, q_ixR0, q_int, q_intb, q_lenT, q_lenC, q_lenL, q_min, q_max, q_tupL, q_tupT, q_listL, q_listT, q_truB, q_truI, q_truT, q_truL, q_truN, q_bind, q_toS, q_nx, q_rt, q_bk, q_ct, q_ofO, q_noex, List.set_cons_zero, List.set_cons_succ, List.getElem?_cons_zero, List.getElem?_cons_succ, Option.map_some, Option.bind_some, List.length_cons, List.length_nil, List.map_cons, List.map_nil, Nat.reduceAdd, Nat.reduceSub, Nat.reduceLeDiff, Nat.reduceEqDiff, List.replicate_succ, List.replicate_zero, List.cons_append, List.nil_append, ↓reduceIte, if_true, if_false, Bool.false_eq_true, decide_true, decide_false, Bool.not_true, Bool.not_false, and_self, and_true, true_and, or_true, true_or, not_true_eq_false, not_false_eq_true, q_v14, q_v15, q_v16, q_v17, q_mEnum, q_kEnum, q_mZip, q_kZip, q_mRev, q_kRev, q_aStar, q_kSt, q_pNone, q_pSome, q_kPart, q_mSl, q_kSl2, q_kSl3, q_kCutT, q_kCutL, q_wkL, q_wkT, q_wkS]
  refine leave_head_app (box_lo _ _ _) ?_
  have hlo : ∀ c : Nat, D.los c (rs.map Rw.d) = true := fun c => by
    rw [los_iff]
    intro d hd
    obtain ⟨r, _, rfl⟩ := List.mem_map.mp hd
    cases r <;> simp [Rw.d, D.lo, D.los]
  simp only [D.lo, D.los, hlo, Bool.and_self]
end Zp
namespace Zp
open PySem L2 Zv PyProof.Rows Zn
/-! ## the values of a program's rows, without the machine -/
def gv (found : List (Option Int)) (a : Nat) : Int := (found[a]?.getD none).getD 0
def Rw.isIn : Rw → Bool
  | .inp _ => true
  | _ => false
def Rw.val (p : Int) (ins : List Int) (used : Nat) (f : List (Option Int)) : Rw → Option Int
  | .inp _ => some (ins[used]?.getD 0)
  | .con c => some c
  | .kep a => some (gv f a)
  | .pro a b => some (gv f a * gv f b % p)
  | .sm a b => some ((gv f a + gv f b) % p)
  | .les a b => some ((gv f a - gv f b) % p)
  | .tim c a => some (c * gv f a % p)
  | .out _ _ => none
  | .nxt => none
def stepV (p : Int) (ins : List Int) (s : List (Option Int) × Nat) (r : Rw) : List (Option Int) × Nat := (s.1 ++ [r.val p ins s.2 s.1], s.2 + (if r.isIn then 1 else 0))
def vals (p : Int) (ins : List Int) (rs : List Rw) : List (Option Int) × Nat := rs.foldl (stepV p ins) ([], 0)
theorem vals_snoc (p : Int) (ins : List Int) (rs : List Rw) (r : Rw) : vals p ins (rs ++ [r]) = stepV p ins (vals p ins rs) r := by unfold vals; rw [List.foldl_append]; rfl
theorem vals_len (p : Int) (ins : List Int) (rs : List Rw) : (vals p ins rs).1.length = rs.length := by
  have : ∀ (rs : List Rw) (s : List (Option Int) × Nat), (rs.foldl (stepV p ins) s).1.length = s.1.length + rs.length := by
    intro rs
    induction rs with
    | nil => intro s; rfl
    | cons r rs ih =>
      intro s
      rw [List.foldl_cons, ih]
      simp [stepV]
      omega
  have h := this rs ([], 0)
  rw [List.length_nil, Nat.zero_add] at h
  exact h
theorem vals_used (p : Int) (ins : List Int) (rs : List Rw) : (vals p ins rs).2 = (rs.filter Rw.isIn).length := by
  have : ∀ (rs : List Rw) (s : List (Option Int) × Nat), (rs.foldl (stepV p ins) s).2 = s.2 + (rs.filter Rw.isIn).length := by
    intro rs
    induction rs with
    | nil => intro s; rfl
    | cons r rs ih =>
      intro s
      rw [List.foldl_cons, ih]
      cases h : r.isIn <;> simp [stepV, h, List.filter_cons] <;> omega
  have h := this rs ([], 0)
  rw [Nat.zero_add] at h
  exact h
/-- a wire with a value below p -/
def Has (p : Int) (f : List (Option Int)) (a : Nat) : Prop := ∃ v, f[a]? = some (some v) ∧ 0 ≤ v ∧ v < p
theorem Has.app {p : Int} {f g : List (Option Int)} {a : Nat} (h : Has p f a) : Has p (f ++ g) a := by
  obtain ⟨v, e, b⟩ := h
  exact ⟨v, by rw [List.getElem?_append_left (List.getElem?_eq_some_iff.mp e).1]; exact e, b⟩
theorem Has.gv {p : Int} {f : List (Option Int)} {a : Nat} (h : Has p f a) : f[a]? = some (some (Zp.gv f a)) ∧ 0 ≤ Zp.gv f a ∧ Zp.gv f a < p := by
  obtain ⟨v, e, b⟩ := h
  have : Zp.gv f a = v := by unfold Zp.gv; rw [e]; rfl
  rw [this]
  exact ⟨e, b⟩
def Rw.refs : Rw → List Nat
  | .kep a => [a]
  | .pro a b => [a, b]
  | .sm a b => [a, b]
  | .les a b => [a, b]
  | .tim _ a => [a]
  | .out a _ => [a]
  | _ => []
theorem gives_val {p n : Int} (hp : 0 < p) {ins : List Int} (hi : lowP p ins) {w b : List Nat} {f : List (Option Int)} {used : Nat} {r : Rw} (h : r.gives p n w b) (hw : ∀ a ∈ w, Has p f a) (hb : ∀ a ∈ b, Has p f a) : ∃ v, r.val p ins used f = some v ∧ 0 ≤ v ∧ v < p := by
  have md : ∀ z : Int, 0 ≤ z % p ∧ z % p < p := fun z => ⟨Int.emod_nonneg _ (by omega), Int.emod_lt_of_pos _ hp⟩
  cases r with
  | inp q =>
    refine ⟨_, rfl, ?_⟩
    cases hq : ins[used]? with
    | none => exact ⟨Int.le_refl _, hp⟩
    | some x => exact hi x (List.mem_of_getElem? hq)
  | con c => exact ⟨_, rfl, h⟩
  | kep a => exact ⟨_, rfl, (hb a h).gv.2⟩
  | pro a c => exact ⟨_, rfl, md _⟩
  | sm a c => exact ⟨_, rfl, md _⟩
  | les a c => exact ⟨_, rfl, md _⟩
  | tim c a => exact ⟨_, rfl, md _⟩
  | out a q => exact h.elim
  | nxt => exact h.elim
theorem gives_refs {p n : Int} {w b : List Nat} {r : Rw} (h : r.gives p n w b) : ∀ a ∈ r.refs, a ∈ w ∨ a ∈ b := fun a ha => by
  cases r <;> simp only [Rw.refs, List.mem_cons, List.not_mem_nil, or_false, Rw.gives] at ha h
  · exact .inr (ha ▸ h)
  · rcases ha with rfl | rfl
    · exact .inl h.1
    · exact .inl h.2
  · rcases ha with rfl | rfl
    · exact .inl h.1
    · exact .inl h.2
  · rcases ha with rfl | rfl
    · exact .inl h.1
    · exact .inl h.2
  · exact .inl (ha ▸ h.2)
theorem pg_has {p n : Int} (hp : 0 < p) {ins : List Int} (hi : lowP p ins) {rs : List Rw} {w b : List Nat} (h : Pg p n rs w b) : (∀ a ∈ w, Has p (vals p ins rs).1 a) ∧ (∀ a ∈ b, Has p (vals p ins rs).1 a) := by
  induction h with
  | nil => exact ⟨fun a ha => (nomatch ha), fun a ha => (nomatch ha)⟩
  | @row rs w b r hpg hg ih =>
    rw [vals_snoc]
    refine ⟨fun a ha => ?_, fun a ha => (ih.2 a ha).app⟩
    rcases List.mem_append.mp ha with ha | ha
    · exact (ih.1 a ha).app
    · rw [List.mem_singleton.mp ha]
      obtain ⟨v, e, bb⟩ := gives_val (used := (vals p ins rs).2) hp hi hg ih.1 ih.2
      refine ⟨v, ?_, bb⟩
      show ((vals p ins rs).1 ++ [r.val p ins (vals p ins rs).2 (vals p ins rs).1])[rs.length]? = _
      rw [List.getElem?_append_right (by rw [vals_len]; exact Nat.le_refl _), vals_len, Nat.sub_self, e]
      rfl
  | @out rs w b a q hpg ha h1 h2 ih =>
    rw [vals_snoc]
    exact ⟨fun a ha => (ih.1 a ha).app, fun a ha => (ih.2 a ha).app⟩
  | @nxt rs w b hpg ih =>
    rw [vals_snoc]
    exact ⟨fun a ha => (nomatch ha), fun a ha => (ih.1 a ha).app⟩
/-- at each row what it refers to has a value -/
theorem pg_refs {p n : Int} (hp : 0 < p) {ins : List Int} (hi : lowP p ins) {rs : List Rw} {w b : List Nat} (h : Pg p n rs w b) : ∀ (i : Nat) (r : Rw), rs[i]? = some r → ∀ a ∈ r.refs, Has p (vals p ins (rs.take i)).1 a := by
  have snoc : ∀ {rs : List Rw} {r : Rw}, (∀ (i : Nat) (s : Rw), rs[i]? = some s → ∀ a ∈ s.refs, Has p (vals p ins (rs.take i)).1 a) → (∀ a ∈ r.refs, Has p (vals p ins rs).1 a) → ∀ (i : Nat) (s : Rw), (rs ++ [r])[i]? = some s → ∀ a ∈ s.refs, Has p (vals p ins ((rs ++ [r]).take i)).1 a := by
    intro rs r h1 h2 i s hs a ha
    by_cases c : i < rs.length
    · rw [List.getElem?_append_left c] at hs
      rw [List.take_append_of_le_length (by omega)]
      exact h1 i s hs a ha
    · have hi := (List.getElem?_eq_some_iff.mp hs).1
      have e : i = rs.length := by simp at hi; omega
      subst e
      rw [List.getElem?_append_right (Nat.le_refl _), Nat.sub_self] at hs
      cases hs
      rw [List.take_append_of_le_length (Nat.le_refl _), List.take_length]
      exact h2 a ha
  induction h with
  | nil => intro i r h; simp at h
  | @row rs w b r hpg hg ih =>
    have hh := pg_has hp hi hpg
    exact snoc ih fun a ha => (gives_refs hg a ha).elim (hh.1 a) (hh.2 a)
  | @out rs w b a q hpg ha h1 h2 ih =>
    have hh := pg_has hp hi hpg
    exact snoc ih fun c hc => by
      simp only [Rw.refs, List.mem_cons, List.not_mem_nil, or_false] at hc
      exact hc ▸ hh.1 a ha
  | @nxt rs w b hpg ih => exact snoc ih fun c hc => (nomatch hc)
end Zp
namespace Zp
open PySem L2 Zv PyProof.Rows

theorem w_in_const : (("in" : Str) = "const") = False := eq_false (by decide)
theorem w_in_kept : (("in" : Str) = "kept") = False := eq_false (by decide)
theorem w_in_product : (("in" : Str) = "product") = False := eq_false (by decide)
theorem w_in_sum : (("in" : Str) = "sum") = False := eq_false (by decide)
theorem w_in_less : (("in" : Str) = "less") = False := eq_false (by decide)
theorem w_in_times : (("in" : Str) = "times") = False := eq_false (by decide)
theorem w_in_out : (("in" : Str) = "out") = False := eq_false (by decide)
theorem w_in_next : (("in" : Str) = "next") = False := eq_false (by decide)
theorem w_const_in : (("const" : Str) = "in") = False := eq_false (by decide)
theorem w_const_kept : (("const" : Str) = "kept") = False := eq_false (by decide)
theorem w_const_product : (("const" : Str) = "product") = False := eq_false (by decide)
theorem w_const_sum : (("const" : Str) = "sum") = False := eq_false (by decide)
theorem w_const_less : (("const" : Str) = "less") = False := eq_false (by decide)
theorem w_const_times : (("const" : Str) = "times") = False := eq_false (by decide)
theorem w_const_out : (("const" : Str) = "out") = False := eq_false (by decide)
theorem w_const_next : (("const" : Str) = "next") = False := eq_false (by decide)
theorem w_kept_in : (("kept" : Str) = "in") = False := eq_false (by decide)
theorem w_kept_const : (("kept" : Str) = "const") = False := eq_false (by decide)
theorem w_kept_product : (("kept" : Str) = "product") = False := eq_false (by decide)
theorem w_kept_sum : (("kept" : Str) = "sum") = False := eq_false (by decide)
theorem w_kept_less : (("kept" : Str) = "less") = False := eq_false (by decide)
theorem w_kept_times : (("kept" : Str) = "times") = False := eq_false (by decide)
theorem w_kept_out : (("kept" : Str) = "out") = False := eq_false (by decide)
theorem w_kept_next : (("kept" : Str) = "next") = False := eq_false (by decide)
theorem w_product_in : (("product" : Str) = "in") = False := eq_false (by decide)
theorem w_product_const : (("product" : Str) = "const") = False := eq_false (by decide)
theorem w_product_kept : (("product" : Str) = "kept") = False := eq_false (by decide)
theorem w_product_sum : (("product" : Str) = "sum") = False := eq_false (by decide)
theorem w_product_less : (("product" : Str) = "less") = False := eq_false (by decide)
theorem w_product_times : (("product" : Str) = "times") = False := eq_false (by decide)
theorem w_product_out : (("product" : Str) = "out") = False := eq_false (by decide)
theorem w_product_next : (("product" : Str) = "next") = False := eq_false (by decide)
theorem w_sum_in : (("sum" : Str) = "in") = False := eq_false (by decide)
theorem w_sum_const : (("sum" : Str) = "const") = False := eq_false (by decide)
theorem w_sum_kept : (("sum" : Str) = "kept") = False := eq_false (by decide)
theorem w_sum_product : (("sum" : Str) = "product") = False := eq_false (by decide)
theorem w_sum_less : (("sum" : Str) = "less") = False := eq_false (by decide)
theorem w_sum_times : (("sum" : Str) = "times") = False := eq_false (by decide)
theorem w_sum_out : (("sum" : Str) = "out") = False := eq_false (by decide)
theorem w_sum_next : (("sum" : Str) = "next") = False := eq_false (by decide)
theorem w_less_in : (("less" : Str) = "in") = False := eq_false (by decide)
theorem w_less_const : (("less" : Str) = "const") = False := eq_false (by decide)
theorem w_less_kept : (("less" : Str) = "kept") = False := eq_false (by decide)
theorem w_less_product : (("less" : Str) = "product") = False := eq_false (by decide)
theorem w_less_sum : (("less" : Str) = "sum") = False := eq_false (by decide)
theorem w_less_times : (("less" : Str) = "times") = False := eq_false (by decide)
theorem w_less_out : (("less" : Str) = "out") = False := eq_false (by decide)
theorem w_less_next : (("less" : Str) = "next") = False := eq_false (by decide)
theorem w_times_in : (("times" : Str) = "in") = False := eq_false (by decide)
theorem w_times_const : (("times" : Str) = "const") = False := eq_false (by decide)
theorem w_times_kept : (("times" : Str) = "kept") = False := eq_false (by decide)
theorem w_times_product : (("times" : Str) = "product") = False := eq_false (by decide)
theorem w_times_sum : (("times" : Str) = "sum") = False := eq_false (by decide)
theorem w_times_less : (("times" : Str) = "less") = False := eq_false (by decide)
theorem w_times_out : (("times" : Str) = "out") = False := eq_false (by decide)
theorem w_times_next : (("times" : Str) = "next") = False := eq_false (by decide)
theorem w_out_in : (("out" : Str) = "in") = False := eq_false (by decide)
theorem w_out_const : (("out" : Str) = "const") = False := eq_false (by decide)
theorem w_out_kept : (("out" : Str) = "kept") = False := eq_false (by decide)
theorem w_out_product : (("out" : Str) = "product") = False := eq_false (by decide)
theorem w_out_sum : (("out" : Str) = "sum") = False := eq_false (by decide)
theorem w_out_less : (("out" : Str) = "less") = False := eq_false (by decide)
theorem w_out_times : (("out" : Str) = "times") = False := eq_false (by decide)
theorem w_out_next : (("out" : Str) = "next") = False := eq_false (by decide)
theorem w_next_in : (("next" : Str) = "in") = False := eq_false (by decide)
theorem w_next_const : (("next" : Str) = "const") = False := eq_false (by decide)
theorem w_next_kept : (("next" : Str) = "kept") = False := eq_false (by decide)
theorem w_next_product : (("next" : Str) = "product") = False := eq_false (by decide)
theorem w_next_sum : (("next" : Str) = "sum") = False := eq_false (by decide)
theorem w_next_less : (("next" : Str) = "less") = False := eq_false (by decide)
theorem w_next_times : (("next" : Str) = "times") = False := eq_false (by decide)
theorem w_next_out : (("next" : Str) = "out") = False := eq_false (by decide)
/-! value_of: p row before word -/
noncomputable def M_value_of : SM :=
    (sSeq (sAsg (.nm 3) (mOp dIx (mVar 1) (mC (.int 0))))
    (sSeq (sIf (mTest (mOp dEq (mVar 3) (mC (.str "const"))))
    (sRet (mOp dIx (mVar 1) (mC (.int 1))))
    sNil)
    (sSeq (sIf (mTest (mOp dEq (mVar 3) (mC (.str "times"))))
    (sRet (mOp dMod (mOp dMul (mOp dIx (mVar 1) (mC (.int 1))) (mOp dIx (mVar 2) (mOp dIx (mVar 1) (mC (.int 2))))) (mVar 0)))
    sNil)
    (sSeq (sIf (mTest (mOp dEq (mVar 3) (mC (.str "kept"))))
    (sRet (mOp dIx (mVar 2) (mOp dIx (mVar 1) (mC (.int 1)))))
    sNil)
    (sSeq (sIf (mTest (mOp dEq (mVar 3) (mC (.str "sum"))))
    (sRet (mOp dMod (mOp dAdd (mOp dIx (mVar 2) (mOp dIx (mVar 1) (mC (.int 1)))) (mOp dIx (mVar 2) (mOp dIx (mVar 1) (mC (.int 2))))) (mVar 0)))
    sNil)
    (sSeq (sIf (mTest (mOp dEq (mVar 3) (mC (.str "less"))))
    (sRet (mOp dMod (mOp dSub (mOp dIx (mVar 2) (mOp dIx (mVar 1) (mC (.int 1)))) (mOp dIx (mVar 2) (mOp dIx (mVar 1) (mC (.int 2))))) (mVar 0)))
    sNil)
    (sSeq (sIf (mTest (mOp dEq (mVar 3) (mC (.str "product"))))
    (sRet (mOp dMod (mOp dMul (mOp dIx (mVar 2) (mOp dIx (mVar 1) (mC (.int 1)))) (mOp dIx (mVar 2) (mOp dIx (mVar 1) (mC (.int 2))))) (mVar 0)))
    sNil)
    (sRet (mC .non)))))))))
noncomputable def F_value_of : FM := runF 4 M_value_of

/-! values: setting program inputs found used row -/
noncomputable def B_values1 : SM :=
    (sIf (mTest (mOp dEq (mOp dIx (mVar 5) (mC (.int 0))) (mC (.str "in"))))
    (sSeq (sApp (mVar 3) (mOp dIx (mVar 2) (mVar 4)))
    (sAug 4 dIadd (mC (.int 1))))
    (sApp (mVar 3) (mCall 3 F_value_of (aCons (mOp dIx (mVar 0) (mC (.int 1))) (aCons (mVar 5) (aCons (mVar 3) aNil))))))
noncomputable def M_values : SM :=
    (sSeq (sBox 3 (mLst aNil))
    (sSeq (sAsg (.nm 4) (mC (.int 0)))
    (sSeq (sFor (mIt (mOp dIx (mVar 1) (mC (.int 1)))) (.nm 5) B_values1)
    (sRet (mB bTuple (aCons (mVar 3) aNil))))))
noncomputable def F_values : FM := runF 6 M_values

/-! _law_values: setting program inputs p found used row kind value a b -/
noncomputable def B__law_values1 : SM :=
    (sSeq (sAsg (.nm 7) (mOp dIx (mVar 6) (mC (.int 0))))
    (sSeq (sAsg (.nm 8) (mC .non))
    (sSeq (sIf (mTest (mOp dEq (mVar 7) (mC (.str "in"))))
    (sSeq (sAsg (.nm 8) (mOp dIx (mVar 2) (mVar 5)))
    (sAsg (.nm 5) (mOp dAdd (mVar 5) (mC (.int 1)))))
    (sIf (mTest (mOp dEq (mVar 7) (mC (.str "const"))))
    (sAsg (.nm 8) (mOp dIx (mVar 6) (mC (.int 1))))
    (sIf (mTest (mOp dEq (mVar 7) (mC (.str "kept"))))
    (sAsg (.nm 8) (mOp dIx (mVar 4) (mOp dIx (mVar 6) (mC (.int 1)))))
    (sIf (mTest (mOp dEq (mVar 7) (mC (.str "times"))))
    (sAsg (.nm 8) (mOp dMod (mB bInt (aCons (mOp dMul (mOp dIx (mVar 6) (mC (.int 1))) (mOp dIx (mVar 4) (mOp dIx (mVar 6) (mC (.int 2))))) aNil)) (mVar 3)))
    (sIf (mTest (mOp (dInF false) (mVar 7) (mTup (aCons (mC (.str "sum")) (aCons (mC (.str "less")) (aCons (mC (.str "product")) aNil))))))
    (sSeq (sAsg (.nm 9) (mOp dIx (mVar 4) (mOp dIx (mVar 6) (mC (.int 1)))))
    (sSeq (sAsg (.nm 10) (mOp dIx (mVar 4) (mOp dIx (mVar 6) (mC (.int 2)))))
    (sAsg (.nm 8) (mOp dMod (mB bInt (aCons (mOp dIx (mLst (aCons (mOp dAdd (mVar 9) (mVar 10)) (aCons (mOp dSub (mVar 9) (mVar 10)) (aCons (mOp dMul (mVar 9) (mVar 10)) aNil)))) (mIndex (mLst (aCons (mC (.str "sum")) (aCons (mC (.str "less")) (aCons (mC (.str "product")) aNil)))) (mVar 7))) aNil)) (mVar 3)))))
    sNil)))))
    (sApp (mVar 4) (mVar 8)))))
noncomputable def M__law_values : SM :=
    (sSeq (sAsg (.nm 3) (mOp dIx (mVar 0) (mC (.int 1))))
    (sSeq (sBox 4 (mLst aNil))
    (sSeq (sAsg (.nm 5) (mC (.int 0)))
    (sSeq (sFor (mIt (mOp dIx (mVar 1) (mC (.int 1)))) (.nm 6) B__law_values1)
    (sRet (mVar 4))))))
noncomputable def F__law_values : FM := runF 11 M__law_values

end Zp
namespace Zp
open PySem L2 Zv PyProof.Rows Zn
def oD : Option Int → D
  | some v => .int v
  | none => .non
theorem ix_gv {st : Store} {k : Nat} {p : Int} {f : List (Option Int)} {a : Nat} (hk : st[k]? = some (.lst (f.map oD))) (h : Has p f a) : dIx st (.ref k) (.int (a : Int)) = some (.int (gv f a)) := by
  rw [q_ixR hk]
  have := h.gv.1
  exact L2.atI_nat (by rw [List.getElem?_map, this]; rfl)
theorem value_of_is {st : Store} {k used : Nat} {p : Int} {ins : List Int} {f : List (Option Int)} {r : Rw} (hp : 0 < p) (hp2 : p < 20000) (hk : st[k]? = some (.lst (f.map oD))) (hr : ∀ a ∈ r.refs, Has p f a) (hin : r.isIn = false) :
    F_value_of [.int p, r.d, .ref k] st = .ok (oD (r.val p ins used f)) st := by
  have gb : ∀ a, Has p f a → -(2 ^ 64) < gv f a ∧ gv f a < 2 ^ 64 := fun a h => by have := h.gv; constructor <;> omega
  cases r with
  | inp q => cases hin
  | con c =>
    simp only [F_value_of, M_value_of, Rw.d, at0, at1, at2, w_in_const, w_in_kept, w_in_product, w_in_sum, w_in_less, w_in_times, w_in_out, w_in_next, w_const_in, w_const_kept, w_const_product, w_const_sum, w_const_less, w_const_times, w_const_out, w_const_next, w_kept_in, w_kept_const, w_kept_product, w_kept_sum, w_kept_less, w_kept_times, w_kept_out, w_kept_next, w_product_in, w_product_const, w_product_kept, w_product_sum, w_product_less, w_product_times, w_product_out, w_product_next, w_sum_in, w_sum_const, w_sum_kept, w_sum_product, w_sum_less, w_sum_times, w_sum_out, w_sum_next, w_less_in, w_less_const, w_less_kept, w_less_product, w_less_sum, w_less_times, w_less_out, w_less_next, w_times_in, w_times_const, w_times_kept, w_times_product, w_times_sum, w_times_less, w_times_out, w_times_next, w_out_in, w_out_const, w_out_kept, w_out_product, w_out_sum, w_out_less, w_out_times, w_out_next, w_next_in, w_next_const, w_next_kept, w_next_product, w_next_sum, w_next_less, w_next_times, w_next_out, q_runF, q_kFin, q_kFinN, q_mC, q_v0, q_v1, q_v2, q_v3, q_v4, q_v5, q_v6, q_v7, q_v8, q_v9, q_v10, q_v11, q_v12, q_v13, q_mOp, q_mTest, q_kB, q_kAnd, q_kOr, q_kNot, q_kNeg, q_kChT, q_kChF, q_mTru, q_tAnd, q_tOr, q_tNot, q_tYes, q_eAnd, q_eOr, q_eNot, q_mIf, q_aNil, q_aCons, q_mTup, q_mLst, q_mB, q_mCall, q_mNeg, q_mChain, q_sNil, q_sSeq, q_sExpr, q_sRet, q_sRetN, q_sBk, q_sCt, q_sIf, q_sAsg, q_kPutN, q_sBox, q_kBox, q_sApp, q_sSetI, q_sAug, q_kAug, q_kAug2, q_sFor, q_mRng1, q_kR1, q_kR2, q_mRng2, q_mIt, q_kItL, q_kItT, q_addI, q_addS, q_addT, q_addL, q_sub, q_mul, q_mod, q_fdv, q_pow, q_lt, q_le, q_gt, q_ge, q_iadd, q_isub, q_isN, q_notN, q_isNon_non, q_isNon_int, q_isNon_tup, q_isNon_lst, q_eqI, q_eqS, q_neI, q_neS, q_ixT, q_ixL, q_ixS, q_ixR0, q_int, q_intb, q_lenT, q_lenC, q_lenL, q_min, q_max, q_tupL, q_tupT, q_listL, q_listT, q_truB, q_truI, q_truT, q_truL, q_truN, q_bind, q_toS, q_nx, q_rt, q_bk, q_ct, q_ofO, q_noex, List.set_cons_zero, List.set_cons_succ, List.getElem?_cons_zero, List.getElem?_cons_succ, Option.map_some, Option.bind_some, List.length_cons, List.length_nil, List.map_cons, List.map_nil, Nat.reduceAdd, Nat.reduceSub, Nat.reduceLeDiff, Nat.reduceEqDiff, List.replicate_succ, List.replicate_zero, List.cons_append, List.nil_append, ↓reduceIte, if_true, if_false, Bool.false_eq_true, decide_true, decide_false, Bool.not_true, Bool.not_false, and_self, and_true, true_and, or_true, true_or, not_true_eq_false, not_false_eq_true, q_v14, q_v15, q_v16, q_v17, q_mEnum, q_kEnum, q_mZip, q_kZip, q_mRev, q_kRev, q_aStar, q_kSt, q_pNone, q_pSome, q_kPart, q_mSl, q_kSl2, q_kSl3, q_kCutT, q_kCutL, q_wkL, q_wkT, q_wkS]
    exact leave_same (by simp [oD, Rw.val, D.lo])
  | kep a =>
    have ha := hr a (by simp [Rw.refs])
    simp only [F_value_of, M_value_of, Rw.d, at0, at1, at2, ix_gv hk ha, w_in_const, w_in_kept, w_in_product, w_in_sum, w_in_less, w_in_times, w_in_out, w_in_next, w_const_in, w_const_kept, w_const_product, w_const_sum, w_const_less, w_const_times, w_const_out, w_const_next, w_kept_in, w_kept_const, w_kept_product, w_kept_sum, w_kept_less, w_kept_times, w_kept_out, w_kept_next, w_product_in, w_product_const, w_product_kept, w_product_sum, w_product_less, w_product_times, w_product_out, w_product_next, w_sum_in, w_sum_const, w_sum_kept, w_sum_product, w_sum_less, w_sum_times, w_sum_out, w_sum_next, w_less_in, w_less_const, w_less_kept, w_less_product, w_less_sum, w_less_times, w_less_out, w_less_next, w_times_in, w_times_const, w_times_kept, w_times_product, w_times_sum, w_times_less, w_times_out, w_times_next, w_out_in, w_out_const, w_out_kept, w_out_product, w_out_sum, w_out_less, w_out_times, w_out_next, w_next_in, w_next_const, w_next_kept, w_next_product, w_next_sum, w_next_less, w_next_times, w_next_out, q_runF, q_kFin, q_kFinN, q_mC, q_v0, q_v1, q_v2, q_v3, q_v4, q_v5, q_v6, q_v7, q_v8, q_v9, q_v10, q_v11, q_v12, q_v13, q_mOp, q_mTest, q_kB, q_kAnd, q_kOr, q_kNot, q_kNeg, q_kChT, q_kChF, q_mTru, q_tAnd, q_tOr, q_tNot, q_tYes, q_eAnd, q_eOr, q_eNot, q_mIf, q_aNil, q_aCons, q_mTup, q_mLst, q_mB, q_mCall, q_mNeg, q_mChain, q_sNil, q_sSeq, q_sExpr, q_sRet, q_sRetN, q_sBk, q_sCt, q_sIf, q_sAsg, q_kPutN, q_sBox, q_kBox, q_sApp, q_sSetI, q_sAug, q_kAug, q_kAug2, q_sFor, q_mRng1, q_kR1, q_kR2, q_mRng2, q_mIt, q_kItL, q_kItT, q_addI, q_addS, q_addT, q_addL, q_sub, q_mul, q_mod, q_fdv, q_pow, q_lt, q_le, q_gt, q_ge, q_iadd, q_isub, q_isN, q_notN, q_isNon_non, q_isNon_int, q_isNon_tup, q_isNon_lst, q_eqI, q_eqS, q_neI, q_neS, q_ixT, q_ixL, q_ixS, q_ixR0, q_int, q_intb, q_lenT, q_lenC, q_lenL, q_min, q_max, q_tupL, q_tupT, q_listL, q_listT, q_truB, q_truI, q_truT, q_truL, q_truN, q_bind, q_toS, q_nx, q_rt, q_bk, q_ct, q_ofO, q_noex, List.set_cons_zero, List.set_cons_succ, List.getElem?_cons_zero, List.getElem?_cons_succ, Option.map_some, Option.bind_some, List.length_cons, List.length_nil, List.map_cons, List.map_nil, Nat.reduceAdd, Nat.reduceSub, Nat.reduceLeDiff, Nat.reduceEqDiff, List.replicate_succ, List.replicate_zero, List.cons_append, List.nil_append, ↓reduceIte, if_true, if_false, Bool.false_eq_true, decide_true, decide_false, Bool.not_true, Bool.not_false, and_self, and_true, true_and, or_true, true_or, not_true_eq_false, not_false_eq_true, q_v14, q_v15, q_v16, q_v17, q_mEnum, q_kEnum, q_mZip, q_kZip, q_mRev, q_kRev, q_aStar, q_kSt, q_pNone, q_pSome, q_kPart, q_mSl, q_kSl2, q_kSl3, q_kCutT, q_kCutL, q_wkL, q_wkT, q_wkS]
    exact leave_same (by simp [oD, Rw.val, D.lo])
  | pro a b =>
    have ha := hr a (by simp [Rw.refs])
    have hb := hr b (by simp [Rw.refs])
    simp only [F_value_of, M_value_of, Rw.d, at0, at1, at2, ix_gv hk ha, ix_gv hk hb, gb a ha, hp, w_in_const, w_in_kept, w_in_product, w_in_sum, w_in_less, w_in_times, w_in_out, w_in_next, w_const_in, w_const_kept, w_const_product, w_const_sum, w_const_less, w_const_times, w_const_out, w_const_next, w_kept_in, w_kept_const, w_kept_product, w_kept_sum, w_kept_less, w_kept_times, w_kept_out, w_kept_next, w_product_in, w_product_const, w_product_kept, w_product_sum, w_product_less, w_product_times, w_product_out, w_product_next, w_sum_in, w_sum_const, w_sum_kept, w_sum_product, w_sum_less, w_sum_times, w_sum_out, w_sum_next, w_less_in, w_less_const, w_less_kept, w_less_product, w_less_sum, w_less_times, w_less_out, w_less_next, w_times_in, w_times_const, w_times_kept, w_times_product, w_times_sum, w_times_less, w_times_out, w_times_next, w_out_in, w_out_const, w_out_kept, w_out_product, w_out_sum, w_out_less, w_out_times, w_out_next, w_next_in, w_next_const, w_next_kept, w_next_product, w_next_sum, w_next_less, w_next_times, w_next_out, q_runF, q_kFin, q_kFinN, q_mC, q_v0, q_v1, q_v2, q_v3, q_v4, q_v5, q_v6, q_v7, q_v8, q_v9, q_v10, q_v11, q_v12, q_v13, q_mOp, q_mTest, q_kB, q_kAnd, q_kOr, q_kNot, q_kNeg, q_kChT, q_kChF, q_mTru, q_tAnd, q_tOr, q_tNot, q_tYes, q_eAnd, q_eOr, q_eNot, q_mIf, q_aNil, q_aCons, q_mTup, q_mLst, q_mB, q_mCall, q_mNeg, q_mChain, q_sNil, q_sSeq, q_sExpr, q_sRet, q_sRetN, q_sBk, q_sCt, q_sIf, q_sAsg, q_kPutN, q_sBox, q_kBox, q_sApp, q_sSetI, q_sAug, q_kAug, q_kAug2, q_sFor, q_mRng1, q_kR1, q_kR2, q_mRng2, q_mIt, q_kItL, q_kItT, q_addI, q_addS, q_addT, q_addL, q_sub, q_mul, q_mod, q_fdv, q_pow, q_lt, q_le, q_gt, q_ge, q_iadd, q_isub, q_isN, q_notN, q_isNon_non, q_isNon_int, q_isNon_tup, q_isNon_lst, q_eqI, q_eqS, q_neI, q_neS, q_ixT, q_ixL, q_ixS, q_ixR0, q_int, q_intb, q_lenT, q_lenC, q_lenL, q_min, q_max, q_tupL, q_tupT, q_listL, q_listT, q_truB, q_truI, q_truT, q_truL, q_truN, q_bind, q_toS, q_nx, q_rt, q_bk, q_ct, q_ofO, q_noex, List.set_cons_zero, List.set_cons_succ, List.getElem?_cons_zero, List.getElem?_cons_succ, Option.map_some, Option.bind_some, List.length_cons, List.length_nil, List.map_cons, List.map_nil, Nat.reduceAdd, Nat.reduceSub, Nat.reduceLeDiff, Nat.reduceEqDiff, List.replicate_succ, List.replicate_zero, List.cons_append, List.nil_append, ↓reduceIte, if_true, if_false, Bool.false_eq_true, decide_true, decide_false, Bool.not_true, Bool.not_false, and_self, and_true, true_and, or_true, true_or, not_true_eq_false, not_false_eq_true, q_v14, q_v15, q_v16, q_v17, q_mEnum, q_kEnum, q_mZip, q_kZip, q_mRev, q_kRev, q_aStar, q_kSt, q_pNone, q_pSome, q_kPart, q_mSl, q_kSl2, q_kSl3, q_kCutT, q_kCutL, q_wkL, q_wkT, q_wkS]
    exact leave_same (by simp [oD, Rw.val, D.lo])
  | sm a b =>
    have ha := hr a (by simp [Rw.refs])
    have hb := hr b (by simp [Rw.refs])
    simp only [F_value_of, M_value_of, Rw.d, at0, at1, at2, ix_gv hk ha, ix_gv hk hb, hp, w_in_const, w_in_kept, w_in_product, w_in_sum, w_in_less, w_in_times, w_in_out, w_in_next, w_const_in, w_const_kept, w_const_product, w_const_sum, w_const_less, w_const_times, w_const_out, w_const_next, w_kept_in, w_kept_const, w_kept_product, w_kept_sum, w_kept_less, w_kept_times, w_kept_out, w_kept_next, w_product_in, w_product_const, w_product_kept, w_product_sum, w_product_less, w_product_times, w_product_out, w_product_next, w_sum_in, w_sum_const, w_sum_kept, w_sum_product, w_sum_less, w_sum_times, w_sum_out, w_sum_next, w_less_in, w_less_const, w_less_kept, w_less_product, w_less_sum, w_less_times, w_less_out, w_less_next, w_times_in, w_times_const, w_times_kept, w_times_product, w_times_sum, w_times_less, w_times_out, w_times_next, w_out_in, w_out_const, w_out_kept, w_out_product, w_out_sum, w_out_less, w_out_times, w_out_next, w_next_in, w_next_const, w_next_kept, w_next_product, w_next_sum, w_next_less, w_next_times, w_next_out, q_runF, q_kFin, q_kFinN, q_mC, q_v0, q_v1, q_v2, q_v3, q_v4, q_v5, q_v6, q_v7, q_v8, q_v9, q_v10, q_v11, q_v12, q_v13, q_mOp, q_mTest, q_kB, q_kAnd, q_kOr, q_kNot, q_kNeg, q_kChT, q_kChF, q_mTru, q_tAnd, q_tOr, q_tNot, q_tYes, q_eAnd, q_eOr, q_eNot, q_mIf, q_aNil, q_aCons, q_mTup, q_mLst, q_mB, q_mCall, q_mNeg, q_mChain, q_sNil, q_sSeq, q_sExpr, q_sRet, q_sRetN, q_sBk, q_sCt, q_sIf, q_sAsg, q_kPutN, q_sBox, q_kBox, q_sApp, q_sSetI, q_sAug, q_kAug, q_kAug2, q_sFor, q_mRng1, q_kR1, q_kR2, q_mRng2, q_mIt, q_kItL, q_kItT, q_addI, q_addS, q_addT, q_addL, q_sub, q_mul, q_mod, q_fdv, q_pow, q_lt, q_le, q_gt, q_ge, q_iadd, q_isub, q_isN, q_notN, q_isNon_non, q_isNon_int, q_isNon_tup, q_isNon_lst, q_eqI, q_eqS, q_neI, q_neS, q_ixT, q_ixL, q_ixS, q_ixR0, q_int, q_intb, q_lenT, q_lenC, q_lenL, q_min, q_max, q_tupL, q_tupT, q_listL, q_listT, q_truB, q_truI, q_truT, q_truL, q_truN, q_bind, q_toS, q_nx, q_rt, q_bk, q_ct, q_ofO, q_noex, List.set_cons_zero, List.set_cons_succ, List.getElem?_cons_zero, List.getElem?_cons_succ, Option.map_some, Option.bind_some, List.length_cons, List.length_nil, List.map_cons, List.map_nil, Nat.reduceAdd, Nat.reduceSub, Nat.reduceLeDiff, Nat.reduceEqDiff, List.replicate_succ, List.replicate_zero, List.cons_append, List.nil_append, ↓reduceIte, if_true, if_false, Bool.false_eq_true, decide_true, decide_false, Bool.not_true, Bool.not_false, and_self, and_true, true_and, or_true, true_or, not_true_eq_false, not_false_eq_true, q_v14, q_v15, q_v16, q_v17, q_mEnum, q_kEnum, q_mZip, q_kZip, q_mRev, q_kRev, q_aStar, q_kSt, q_pNone, q_pSome, q_kPart, q_mSl, q_kSl2, q_kSl3, q_kCutT, q_kCutL, q_wkL, q_wkT, q_wkS]
    exact leave_same (by simp [oD, Rw.val, D.lo])
  | les a b =>
    have ha := hr a (by simp [Rw.refs])
    have hb := hr b (by simp [Rw.refs])
    simp only [F_value_of, M_value_of, Rw.d, at0, at1, at2, ix_gv hk ha, ix_gv hk hb, hp, w_in_const, w_in_kept, w_in_product, w_in_sum, w_in_less, w_in_times, w_in_out, w_in_next, w_const_in, w_const_kept, w_const_product, w_const_sum, w_const_less, w_const_times, w_const_out, w_const_next, w_kept_in, w_kept_const, w_kept_product, w_kept_sum, w_kept_less, w_kept_times, w_kept_out, w_kept_next, w_product_in, w_product_const, w_product_kept, w_product_sum, w_product_less, w_product_times, w_product_out, w_product_next, w_sum_in, w_sum_const, w_sum_kept, w_sum_product, w_sum_less, w_sum_times, w_sum_out, w_sum_next, w_less_in, w_less_const, w_less_kept, w_less_product, w_less_sum, w_less_times, w_less_out, w_less_next, w_times_in, w_times_const, w_times_kept, w_times_product, w_times_sum, w_times_less, w_times_out, w_times_next, w_out_in, w_out_const, w_out_kept, w_out_product, w_out_sum, w_out_less, w_out_times, w_out_next, w_next_in, w_next_const, w_next_kept, w_next_product, w_next_sum, w_next_less, w_next_times, w_next_out, q_runF, q_kFin, q_kFinN, q_mC, q_v0, q_v1, q_v2, q_v3, q_v4, q_v5, q_v6, q_v7, q_v8, q_v9, q_v10, q_v11, q_v12, q_v13, q_mOp, q_mTest, q_kB, q_kAnd, q_kOr, q_kNot, q_kNeg, q_kChT, q_kChF, q_mTru, q_tAnd, q_tOr, q_tNot, q_tYes, q_eAnd, q_eOr, q_eNot, q_mIf, q_aNil, q_aCons, q_mTup, q_mLst, q_mB, q_mCall, q_mNeg, q_mChain, q_sNil, q_sSeq, q_sExpr, q_sRet, q_sRetN, q_sBk, q_sCt, q_sIf, q_sAsg, q_kPutN, q_sBox, q_kBox, q_sApp, q_sSetI, q_sAug, q_kAug, q_kAug2, q_sFor, q_mRng1, q_kR1, q_kR2, q_mRng2, q_mIt, q_kItL, q_kItT, q_addI, q_addS, q_addT, q_addL, q_sub, q_mul, q_mod, q_fdv, q_pow, q_lt, q_le, q_gt, q_ge, q_iadd, q_isub, q_isN, q_notN, q_isNon_non, q_isNon_int, q_isNon_tup, q_isNon_lst, q_eqI, q_eqS, q_neI, q_neS, q_ixT, q_ixL, q_ixS, q_ixR0, q_int, q_intb, q_lenT, q_lenC, q_lenL, q_min, q_max, q_tupL, q_tupT, q_listL, q_listT, q_truB, q_truI, q_truT, q_truL, q_truN, q_bind, q_toS, q_nx, q_rt, q_bk, q_ct, q_ofO, q_noex, List.set_cons_zero, List.set_cons_succ, List.getElem?_cons_zero, List.getElem?_cons_succ, Option.map_some, Option.bind_some, List.length_cons, List.length_nil, List.map_cons, List.map_nil, Nat.reduceAdd, Nat.reduceSub, Nat.reduceLeDiff, Nat.reduceEqDiff, List.replicate_succ, List.replicate_zero, List.cons_append, List.nil_append, ↓reduceIte, if_true, if_false, Bool.false_eq_true, decide_true, decide_false, Bool.not_true, Bool.not_false, and_self, and_true, true_and, or_true, true_or, not_true_eq_false, not_false_eq_true, q_v14, q_v15, q_v16, q_v17, q_mEnum, q_kEnum, q_mZip, q_kZip, q_mRev, q_kRev, q_aStar, q_kSt, q_pNone, q_pSome, q_kPart, q_mSl, q_kSl2, q_kSl3, q_kCutT, q_kCutL, q_wkL, q_wkT, q_wkS]
    exact leave_same (by simp [oD, Rw.val, D.lo])
  | tim c a =>
    have ha := hr a (by simp [Rw.refs])
    simp only [F_value_of, M_value_of, Rw.d, at0, at1, at2, ix_gv hk ha, gb a ha, hp, w_in_const, w_in_kept, w_in_product, w_in_sum, w_in_less, w_in_times, w_in_out, w_in_next, w_const_in, w_const_kept, w_const_product, w_const_sum, w_const_less, w_const_times, w_const_out, w_const_next, w_kept_in, w_kept_const, w_kept_product, w_kept_sum, w_kept_less, w_kept_times, w_kept_out, w_kept_next, w_product_in, w_product_const, w_product_kept, w_product_sum, w_product_less, w_product_times, w_product_out, w_product_next, w_sum_in, w_sum_const, w_sum_kept, w_sum_product, w_sum_less, w_sum_times, w_sum_out, w_sum_next, w_less_in, w_less_const, w_less_kept, w_less_product, w_less_sum, w_less_times, w_less_out, w_less_next, w_times_in, w_times_const, w_times_kept, w_times_product, w_times_sum, w_times_less, w_times_out, w_times_next, w_out_in, w_out_const, w_out_kept, w_out_product, w_out_sum, w_out_less, w_out_times, w_out_next, w_next_in, w_next_const, w_next_kept, w_next_product, w_next_sum, w_next_less, w_next_times, w_next_out, q_runF, q_kFin, q_kFinN, q_mC, q_v0, q_v1, q_v2, q_v3, q_v4, q_v5, q_v6, q_v7, q_v8, q_v9, q_v10, q_v11, q_v12, q_v13, q_mOp, q_mTest, q_kB, q_kAnd, q_kOr, q_kNot, q_kNeg, q_kChT, q_kChF, q_mTru, q_tAnd, q_tOr, q_tNot, q_tYes, q_eAnd, q_eOr, q_eNot, q_mIf, q_aNil, q_aCons, q_mTup, q_mLst, q_mB, q_mCall, q_mNeg, q_mChain, q_sNil, q_sSeq, q_sExpr, q_sRet, q_sRetN, q_sBk, q_sCt, q_sIf, q_sAsg, q_kPutN, q_sBox, q_kBox, q_sApp, q_sSetI, q_sAug, q_kAug, q_kAug2, q_sFor, q_mRng1, q_kR1, q_kR2, q_mRng2, q_mIt, q_kItL, q_kItT, q_addI, q_addS, q_addT, q_addL, q_sub, q_mul, q_mod, q_fdv, q_pow, q_lt, q_le, q_gt, q_ge, q_iadd, q_isub, q_isN, q_notN, q_isNon_non, q_isNon_int, q_isNon_tup, q_isNon_lst, q_eqI, q_eqS, q_neI, q_neS, q_ixT, q_ixL, q_ixS, q_ixR0, q_int, q_intb, q_lenT, q_lenC, q_lenL, q_min, q_max, q_tupL, q_tupT, q_listL, q_listT, q_truB, q_truI, q_truT, q_truL, q_truN, q_bind, q_toS, q_nx, q_rt, q_bk, q_ct, q_ofO, q_noex, List.set_cons_zero, List.set_cons_succ, List.getElem?_cons_zero, List.getElem?_cons_succ, Option.map_some, Option.bind_some, List.length_cons, List.length_nil, List.map_cons, List.map_nil, Nat.reduceAdd, Nat.reduceSub, Nat.reduceLeDiff, Nat.reduceEqDiff, List.replicate_succ, List.replicate_zero, List.cons_append, List.nil_append, ↓reduceIte, if_true, if_false, Bool.false_eq_true, decide_true, decide_false, Bool.not_true, Bool.not_false, and_self, and_true, true_and, or_true, true_or, not_true_eq_false, not_false_eq_true, q_v14, q_v15, q_v16, q_v17, q_mEnum, q_kEnum, q_mZip, q_kZip, q_mRev, q_kRev, q_aStar, q_kSt, q_pNone, q_pSome, q_kPart, q_mSl, q_kSl2, q_kSl3, q_kCutT, q_kCutL, q_wkL, q_wkT, q_wkS]
    exact leave_same (by simp [oD, Rw.val, D.lo])
  | out a q =>
    simp only [F_value_of, M_value_of, Rw.d, at0, at1, at2, w_in_const, w_in_kept, w_in_product, w_in_sum, w_in_less, w_in_times, w_in_out, w_in_next, w_const_in, w_const_kept, w_const_product, w_const_sum, w_const_less, w_const_times, w_const_out, w_const_next, w_kept_in, w_kept_const, w_kept_product, w_kept_sum, w_kept_less, w_kept_times, w_kept_out, w_kept_next, w_product_in, w_product_const, w_product_kept, w_product_sum, w_product_less, w_product_times, w_product_out, w_product_next, w_sum_in, w_sum_const, w_sum_kept, w_sum_product, w_sum_less, w_sum_times, w_sum_out, w_sum_next, w_less_in, w_less_const, w_less_kept, w_less_product, w_less_sum, w_less_times, w_less_out, w_less_next, w_times_in, w_times_const, w_times_kept, w_times_product, w_times_sum, w_times_less, w_times_out, w_times_next, w_out_in, w_out_const, w_out_kept, w_out_product, w_out_sum, w_out_less, w_out_times, w_out_next, w_next_in, w_next_const, w_next_kept, w_next_product, w_next_sum, w_next_less, w_next_times, w_next_out, q_runF, q_kFin, q_kFinN, q_mC, q_v0, q_v1, q_v2, q_v3, q_v4, q_v5, q_v6, q_v7, q_v8, q_v9, q_v10, q_v11, q_v12, q_v13, q_mOp, q_mTest, q_kB, q_kAnd, q_kOr, q_kNot, q_kNeg, q_kChT, q_kChF, q_mTru, q_tAnd, q_tOr, q_tNot, q_tYes, q_eAnd, q_eOr, q_eNot, q_mIf, q_aNil, q_aCons, q_mTup, q_mLst, q_mB, q_mCall, q_mNeg, q_mChain, q_sNil, q_sSeq, q_sExpr, q_sRet, q_sRetN, q_sBk, q_sCt, q_sIf, q_sAsg, q_kPutN, q_sBox, q_kBox, q_sApp, q_sSetI, q_sAug, q_kAug, q_kAug2, q_sFor, q_mRng1, q_kR1, q_kR2, q_mRng2, q_mIt, q_kItL, q_kItT, q_addI, q_addS, q_addT, q_addL, q_sub, q_mul, q_mod, q_fdv, q_pow, q_lt, q_le, q_gt, q_ge, q_iadd, q_isub, q_isN, q_notN, q_isNon_non, q_isNon_int, q_isNon_tup, q_isNon_lst, q_eqI, q_eqS, q_neI, q_neS, q_ixT, q_ixL, q_ixS, q_ixR0, q_int, q_intb, q_lenT, q_lenC, q_lenL, q_min, q_max, q_tupL, q_tupT, q_listL, q_listT, q_truB, q_truI, q_truT, q_truL, q_truN, q_bind, q_toS, q_nx, q_rt, q_bk, q_ct, q_ofO, q_noex, List.set_cons_zero, List.set_cons_succ, List.getElem?_cons_zero, List.getElem?_cons_succ, Option.map_some, Option.bind_some, List.length_cons, List.length_nil, List.map_cons, List.map_nil, Nat.reduceAdd, Nat.reduceSub, Nat.reduceLeDiff, Nat.reduceEqDiff, List.replicate_succ, List.replicate_zero, List.cons_append, List.nil_append, ↓reduceIte, if_true, if_false, Bool.false_eq_true, decide_true, decide_false, Bool.not_true, Bool.not_false, and_self, and_true, true_and, or_true, true_or, not_true_eq_false, not_false_eq_true, q_v14, q_v15, q_v16, q_v17, q_mEnum, q_kEnum, q_mZip, q_kZip, q_mRev, q_kRev, q_aStar, q_kSt, q_pNone, q_pSome, q_kPart, q_mSl, q_kSl2, q_kSl3, q_kCutT, q_kCutL, q_wkL, q_wkT, q_wkS]
    exact leave_same (by simp [oD, Rw.val, D.lo])
  | nxt =>
    simp only [F_value_of, M_value_of, Rw.d, at0, at1, at2, w_in_const, w_in_kept, w_in_product, w_in_sum, w_in_less, w_in_times, w_in_out, w_in_next, w_const_in, w_const_kept, w_const_product, w_const_sum, w_const_less, w_const_times, w_const_out, w_const_next, w_kept_in, w_kept_const, w_kept_product, w_kept_sum, w_kept_less, w_kept_times, w_kept_out, w_kept_next, w_product_in, w_product_const, w_product_kept, w_product_sum, w_product_less, w_product_times, w_product_out, w_product_next, w_sum_in, w_sum_const, w_sum_kept, w_sum_product, w_sum_less, w_sum_times, w_sum_out, w_sum_next, w_less_in, w_less_const, w_less_kept, w_less_product, w_less_sum, w_less_times, w_less_out, w_less_next, w_times_in, w_times_const, w_times_kept, w_times_product, w_times_sum, w_times_less, w_times_out, w_times_next, w_out_in, w_out_const, w_out_kept, w_out_product, w_out_sum, w_out_less, w_out_times, w_out_next, w_next_in, w_next_const, w_next_kept, w_next_product, w_next_sum, w_next_less, w_next_times, w_next_out, q_runF, q_kFin, q_kFinN, q_mC, q_v0, q_v1, q_v2, q_v3, q_v4, q_v5, q_v6, q_v7, q_v8, q_v9, q_v10, q_v11, q_v12, q_v13, q_mOp, q_mTest, q_kB, q_kAnd, q_kOr, q_kNot, q_kNeg, q_kChT, q_kChF, q_mTru, q_tAnd, q_tOr, q_tNot, q_tYes, q_eAnd, q_eOr, q_eNot, q_mIf, q_aNil, q_aCons, q_mTup, q_mLst, q_mB, q_mCall, q_mNeg, q_mChain, q_sNil, q_sSeq, q_sExpr, q_sRet, q_sRetN, q_sBk, q_sCt, q_sIf, q_sAsg, q_kPutN, q_sBox, q_kBox, q_sApp, q_sSetI, q_sAug, q_kAug, q_kAug2, q_sFor, q_mRng1, q_kR1, q_kR2, q_mRng2, q_mIt, q_kItL, q_kItT, q_addI, q_addS, q_addT, q_addL, q_sub, q_mul, q_mod, q_fdv, q_pow, q_lt, q_le, q_gt, q_ge, q_iadd, q_isub, q_isN, q_notN, q_isNon_non, q_isNon_int, q_isNon_tup, q_isNon_lst, q_eqI, q_eqS, q_neI, q_neS, q_ixT, q_ixL, q_ixS, q_ixR0, q_int, q_intb, q_lenT, q_lenC, q_lenL, q_min, q_max, q_tupL, q_tupT, q_listL, q_listT, q_truB, q_truI, q_truT, q_truL, q_truN, q_bind, q_toS, q_nx, q_rt, q_bk, q_ct, q_ofO, q_noex, List.set_cons_zero, List.set_cons_succ, List.getElem?_cons_zero, List.getElem?_cons_succ, Option.map_some, Option.bind_some, List.length_cons, List.length_nil, List.map_cons, List.map_nil, Nat.reduceAdd, Nat.reduceSub, Nat.reduceLeDiff, Nat.reduceEqDiff, List.replicate_succ, List.replicate_zero, List.cons_append, List.nil_append, ↓reduceIte, if_true, if_false, Bool.false_eq_true, decide_true, decide_false, Bool.not_true, Bool.not_false, and_self, and_true, true_and, or_true, true_or, not_true_eq_false, not_false_eq_true, q_v14, q_v15, q_v16, q_v17, q_mEnum, q_kEnum, q_mZip, q_kZip, q_mRev, q_kRev, q_aStar, q_kSt, q_pNone, q_pSome, q_kPart, q_mSl, q_kSl2, q_kSl3, q_kCutT, q_kCutL, q_wkL, q_wkT, q_wkS]
    exact leave_same (by simp [oD, Rw.val, D.lo])
theorem in_count {rs : List Rw} {i : Nat} {r : Rw} (h : rs[i]? = some r) (hr : r.isIn = true) : ((rs.take i).filter Rw.isIn).length < (rs.filter Rw.isIn).length := by
  have e : rs.take (i + 1) = rs.take i ++ [r] := by rw [List.take_add_one, h]; rfl
  have e2 : rs = (rs.take i ++ [r]) ++ rs.drop (i + 1) := by rw [← e, List.take_append_drop]
  conv => rhs; rw [e2]
  rw [List.filter_append, List.filter_append, List.length_append, List.length_append, List.filter_cons, if_pos hr]
  simp
  omega
theorem vals_take {p : Int} {ins : List Int} {rs : List Rw} {i : Nat} {r : Rw} (h : rs[i]? = some r) : vals p ins (rs.take (i + 1)) = stepV p ins (vals p ins (rs.take i)) r := by
  rw [← vals_snoc]
  congr 1
  rw [List.take_add_one, h]
  rfl
abbrev progD (rs : List Rw) : D := .tup [.str "program", .tup (rs.map Rw.d)]
theorem values_is {st : Store} {p n t : Int} {ins : List Int} {rs : List Rw} (hp : 0 < p) (hp2 : p < 20000) (hz : rs.length ≤ 1000) (hin : ins.length = (rs.filter Rw.isIn).length) (href : ∀ (i : Nat) (r : Rw), rs[i]? = some r → ∀ a ∈ r.refs, Has p (vals p ins (rs.take i)).1 a) :
    F_values [settD p n t, progD rs, itup ins] st = .ok (.tup ((vals p ins rs).1.map oD)) st := by
  obtain ⟨es', st', e, o5, rfl, rfl⟩ := forL_rule (t := .nm 5) (body := B_values1) (P := Held [])
    (fun i es s => ∃ o5 : Option D, es = [some (settD p n t), some (progD rs), some (itup ins), some (.ref st.length), some (.int ((vals p ins (rs.take i)).2 : Int)), o5] ∧ s = st ++ [.lst ((vals p ins (rs.take i)).1.map oD)])
    (rs.map Rw.d) 0 [some (settD p n t), some (progD rs), some (itup ins), some (.ref st.length), some (.int 0), none] (st ++ [.lst []]) (by
      rintro j d es s hj ⟨o5, rfl, rfl⟩
      rw [Nat.zero_add]
      rw [List.getElem?_map] at hj
      obtain ⟨r, h1, rfl⟩ := Option.map_eq_some_iff.mp hj
      have hj2 := (List.getElem?_eq_some_iff.mp h1).1
      refine ⟨trivial, _, rfl, ?_⟩
      obtain ⟨f, hf⟩ : ∃ f, (vals p ins (rs.take j)).1 = f := ⟨_, rfl⟩
      obtain ⟨u, hu⟩ : ∃ u, (vals p ins (rs.take j)).2 = u := ⟨_, rfl⟩
      have hrf := href j r h1
      have hl : (f.map oD).length < sizeLine := by rw [List.length_map, ← hf, vals_len, List.length_take, sz]; omega
      have hv : vals p ins (rs.take (j + 1)) = (f ++ [r.val p ins u f], u + (if r.isIn then 1 else 0)) := by rw [vals_take h1, ← hf, ← hu]; rfl
      rw [hv]
      rw [hf] at hrf
      simp only [hf, hu]
      have et : f.map oD ++ [oD (r.val p ins u f)] = (f ++ [r.val p ins u f]).map oD := by simp
      cases hi : r.isIn with
      | true =>
        cases r with
        | inp q =>
          have hu2 : u < ins.length := by rw [hin, ← hu, vals_used]; exact in_count h1 rfl
          have ea : atI (ins.map D.int) (u : Int) = some (oD (Rw.val p ins u f (.inp q))) := by
            rw [atI_nat' (by simpa using hu2)]
            simp [Rw.val, oD, List.getElem?_eq_getElem hu2]
          have eu : (u : Int) + 1 = ((u + 1 : Nat) : Int) := rfl
          refine ⟨[some (settD p n t), some (progD rs), some (itup ins), some (.ref st.length), some (.int ((u + 1 : Nat) : Int)), some (Rw.d (.inp q))], st ++ [.lst ((f ++ [Rw.val p ins u f (.inp q)]).map oD)], .inl ?_, _, rfl, rfl⟩
          simp only [List.set_cons_zero, List.set_cons_succ]
          simp only [B_values1, Rw.d, at0, at1, at2, ea, q_kApp (at_last _ _), q_kApp2 (at_last _ _) hl, set_last, et, eu, w_in_const, w_in_kept, w_in_product, w_in_sum, w_in_less, w_in_times, w_in_out, w_in_next, w_const_in, w_const_kept, w_const_product, w_const_sum, w_const_less, w_const_times, w_const_out, w_const_next, w_kept_in, w_kept_const, w_kept_product, w_kept_sum, w_kept_less, w_kept_times, w_kept_out, w_kept_next, w_product_in, w_product_const, w_product_kept, w_product_sum, w_product_less, w_product_times, w_product_out, w_product_next, w_sum_in, w_sum_const, w_sum_kept, w_sum_product, w_sum_less, w_sum_times, w_sum_out, w_sum_next, w_less_in, w_less_const, w_less_kept, w_less_product, w_less_sum, w_less_times, w_less_out, w_less_next, w_times_in, w_times_const, w_times_kept, w_times_product, w_times_sum, w_times_less, w_times_out, w_times_next, w_out_in, w_out_const, w_out_kept, w_out_product, w_out_sum, w_out_less, w_out_times, w_out_next, w_next_in, w_next_const, w_next_kept, w_next_product, w_next_sum, w_next_less, w_next_times, w_next_out, q_runF, q_kFin, q_kFinN, q_mC, q_v0, q_v1, q_v2, q_v3, q_v4, q_v5, q_v6, q_v7, q_v8, q_v9, q_v10, q_v11, q_v12, q_v13, q_mOp, q_mTest, q_kB, q_kAnd, q_kOr, q_kNot, q_kNeg, q_kChT, q_kChF, q_mTru, q_tAnd, q_tOr, q_tNot, q_tYes, q_eAnd, q_eOr, q_eNot, q_mIf, q_aNil, q_aCons, q_mTup, q_mLst, q_mB, q_mCall, q_mNeg, q_mChain, q_sNil, q_sSeq, q_sExpr, q_sRet, q_sRetN, q_sBk, q_sCt, q_sIf, q_sAsg, q_kPutN, q_sBox, q_kBox, q_sApp, q_sSetI, q_sAug, q_kAug, q_kAug2, q_sFor, q_mRng1, q_kR1, q_kR2, q_mRng2, q_mIt, q_kItL, q_kItT, q_addI, q_addS, q_addT, q_addL, q_sub, q_mul, q_mod, q_fdv, q_pow, q_lt, q_le, q_gt, q_ge, q_iadd, q_isub, q_isN, q_notN, q_isNon_non, q_isNon_int, q_isNon_tup, q_isNon_lst, q_eqI, q_eqS, q_neI, q_neS, q_ixT, q_ixL, q_ixS, q_ixR0, q_int, q_intb, q_lenT, q_lenC, q_lenL, q_min, q_max, q_tupL, q_tupT, q_listL, q_listT, q_truB, q_truI, q_truT, q_truL, q_truN, q_bind, q_toS, q_nx, q_rt, q_bk, q_ct, q_ofO, q_noex, List.set_cons_zero, List.set_cons_succ, List.getElem?_cons_zero, List.getElem?_cons_succ, Option.map_some, Option.bind_some, List.length_cons, List.length_nil, List.map_cons, List.map_nil, Nat.reduceAdd, Nat.reduceSub, Nat.reduceLeDiff, Nat.reduceEqDiff, List.replicate_succ, List.replicate_zero, List.cons_append, List.nil_append, ↓reduceIte, if_true, if_false, Bool.false_eq_true, decide_true, decide_false, Bool.not_true, Bool.not_false, and_self, and_true, true_and, or_true, true_or, not_true_eq_false, not_false_eq_true, q_v14, q_v15, q_v16, q_v17, q_mEnum, q_kEnum, q_mZip, q_kZip, q_mRev, q_kRev, q_aStar, q_kSt, q_pNone, q_pSome, q_kPart, q_mSl, q_kSl2, q_kSl3, q_kCutT, q_kCutL, q_wkL, q_wkT, q_wkS]
        | _ => cases hi
      | false =>
        have ev := value_of_is (st := st ++ [.lst (f.map oD)]) (k := st.length) (used := u) (ins := ins) hp hp2 (at_last _ _) hrf hi
        refine ⟨[some (settD p n t), some (progD rs), some (itup ins), some (.ref st.length), some (.int (u : Int)), some r.d], st ++ [.lst ((f ++ [r.val p ins u f]).map oD)], .inl ?_, _, rfl, rfl⟩
        simp only [List.set_cons_zero, List.set_cons_succ]
        cases r with
        | inp q => cases hi
        | _ =>
          simp only [Rw.d] at ev
          simp only [B_values1, Rw.d, at0, at1, at2, ev, q_kApp (at_last _ _), q_kApp2 (at_last _ _) hl, set_last, et, w_in_const, w_in_kept, w_in_product, w_in_sum, w_in_less, w_in_times, w_in_out, w_in_next, w_const_in, w_const_kept, w_const_product, w_const_sum, w_const_less, w_const_times, w_const_out, w_const_next, w_kept_in, w_kept_const, w_kept_product, w_kept_sum, w_kept_less, w_kept_times, w_kept_out, w_kept_next, w_product_in, w_product_const, w_product_kept, w_product_sum, w_product_less, w_product_times, w_product_out, w_product_next, w_sum_in, w_sum_const, w_sum_kept, w_sum_product, w_sum_less, w_sum_times, w_sum_out, w_sum_next, w_less_in, w_less_const, w_less_kept, w_less_product, w_less_sum, w_less_times, w_less_out, w_less_next, w_times_in, w_times_const, w_times_kept, w_times_product, w_times_sum, w_times_less, w_times_out, w_times_next, w_out_in, w_out_const, w_out_kept, w_out_product, w_out_sum, w_out_less, w_out_times, w_out_next, w_next_in, w_next_const, w_next_kept, w_next_product, w_next_sum, w_next_less, w_next_times, w_next_out, q_runF, q_kFin, q_kFinN, q_mC, q_v0, q_v1, q_v2, q_v3, q_v4, q_v5, q_v6, q_v7, q_v8, q_v9, q_v10, q_v11, q_v12, q_v13, q_mOp, q_mTest, q_kB, q_kAnd, q_kOr, q_kNot, q_kNeg, q_kChT, q_kChF, q_mTru, q_tAnd, q_tOr, q_tNot, q_tYes, q_eAnd, q_eOr, q_eNot, q_mIf, q_aNil, q_aCons, q_mTup, q_mLst, q_mB, q_mCall, q_mNeg, q_mChain, q_sNil, q_sSeq, q_sExpr, q_sRet, q_sRetN, q_sBk, q_sCt, q_sIf, q_sAsg, q_kPutN, q_sBox, q_kBox, q_sApp, q_sSetI, q_sAug, q_kAug, q_kAug2, q_sFor, q_mRng1, q_kR1, q_kR2, q_mRng2, q_mIt, q_kItL, q_kItT, q_addI, q_addS, q_addT, q_addL, q_sub, q_mul, q_mod, q_fdv, q_pow, q_lt, q_le, q_gt, q_ge, q_iadd, q_isub, q_isN, q_notN, q_isNon_non, q_isNon_int, q_isNon_tup, q_isNon_lst, q_eqI, q_eqS, q_neI, q_neS, q_ixT, q_ixL, q_ixS, q_ixR0, q_int, q_intb, q_lenT, q_lenC, q_lenL, q_min, q_max, q_tupL, q_tupT, q_listL, q_listT, q_truB, q_truI, q_truT, q_truL, q_truN, q_bind, q_toS, q_nx, q_rt, q_bk, q_ct, q_ofO, q_noex, List.set_cons_zero, List.set_cons_succ, List.getElem?_cons_zero, List.getElem?_cons_succ, Option.map_some, Option.bind_some, List.length_cons, List.length_nil, List.map_cons, List.map_nil, Nat.reduceAdd, Nat.reduceSub, Nat.reduceLeDiff, Nat.reduceEqDiff, List.replicate_succ, List.replicate_zero, List.cons_append, List.nil_append, ↓reduceIte, if_true, if_false, Bool.false_eq_true, decide_true, decide_false, Bool.not_true, Bool.not_false, and_self, and_true, true_and, or_true, true_or, not_true_eq_false, not_false_eq_true, q_v14, q_v15, q_v16, q_v17, q_mEnum, q_kEnum, q_mZip, q_kZip, q_mRev, q_kRev, q_aStar, q_kSt, q_pNone, q_pSome, q_kPart, q_mSl, q_kSl2, q_kSl3, q_kCutT, q_kCutL, q_wkL, q_wkT, q_wkS])
    (fun _ _ _ => trivial) ⟨_, rfl, rfl⟩
  rw [Nat.zero_add, List.length_map, List.take_length] at e
  have z0 : 0 ≤ sizeLine := Nat.zero_le _
  have eT : bTuple [.ref st.length] (st ++ [.lst ((vals p ins rs).1.map oD)]) = some (.tup ((vals p ins rs).1.map oD)) := q_tupR (at_last _ _)
  simp only [F_values, M_values, z0, at1, e, eT, q_runF, q_kFin, q_kFinN, q_mC, q_v0, q_v1, q_v2, q_v3, q_v4, q_v5, q_v6, q_v7, q_v8, q_v9, q_v10, q_v11, q_v12, q_v13, q_mOp, q_mTest, q_kB, q_kAnd, q_kOr, q_kNot, q_kNeg, q_kChT, q_kChF, q_mTru, q_tAnd, q_tOr, q_tNot, q_tYes, q_eAnd, q_eOr, q_eNot, q_mIf, q_aNil, q_aCons, q_mTup, q_mLst, q_mB, q_mCall, q_mNeg, q_mChain, q_sNil, q_sSeq, q_sExpr, q_sRet, q_sRetN, q_sBk, q_sCt, q_sIf, q_sAsg, q_kPutN, q_sBox, q_kBox, q_sApp, q_sSetI, q_sAug, q_kAug, q_kAug2, q_sFor, q_mRng1, q_kR1, q_kR2, q_mRng2, q_mIt, q_kItL, q_kItT, q_addI, q_addS, q_addT, q_addL, q_sub, q_mul, q_mod, q_fdv, q_pow, q_lt, q_le, q_gt, q_ge, q_iadd, q_isub, q_isN, q_notN, q_isNon_non, q_isNon_int, q_isNon_tup, q_isNon_lst, q_eqI, q_eqS, q_neI, q_neS, q_ixT, q_ixL, q_ixS, q_ixR0, q_int, q_intb, q_lenT, q_lenC, q_lenL, q_min, q_max, q_tupL, q_tupT, q_listL, q_listT, q_truB, q_truI, q_truT, q_truL, q_truN, q_bind, q_toS, q_nx, q_rt, q_bk, q_ct, q_ofO, q_noex, List.set_cons_zero, List.set_cons_succ, List.getElem?_cons_zero, List.getElem?_cons_succ, Option.map_some, Option.bind_some, List.length_cons, List.length_nil, List.map_cons, List.map_nil, Nat.reduceAdd, Nat.reduceSub, Nat.reduceLeDiff, Nat.reduceEqDiff, List.replicate_succ, List.replicate_zero, List.cons_append, List.nil_append, ↓reduceIte, if_true, if_false, Bool.false_eq_true, decide_true, decide_false, Bool.not_true, Bool.not_false, and_self, and_true, true_and, or_true, true_or, not_true_eq_false, not_false_eq_true, q_v14, q_v15, q_v16, q_v17, q_mEnum, q_kEnum, q_mZip, q_kZip, q_mRev, q_kRev, q_aStar, q_kSt, q_pNone, q_pSome, q_kPart, q_mSl, q_kSl2, q_kSl3, q_kCutT, q_kCutL, q_wkL, q_wkT, q_wkS]
  refine leave_app (more := [.lst ((vals p ins rs).1.map oD)]) ?_
  simp only [D.lo]
  rw [los_iff]
  intro d hd
  obtain ⟨x, _, rfl⟩ := List.mem_map.mp hd
  cases x <;> simp [oD, D.lo]
theorem q_mIndex {mo me : EM} {es : Sl} {st : Store} : mIndex mo me es st = (mo es st).bind (kIxA me es) := by unfold mIndex; rfl
theorem q_kIxA {me : EM} {es : Sl} {st : Store} {xs : List D} : kIxA me es (.lst xs) st = (me es st).bind fun y st2 => R.ofO (dIndex st2 (.lst xs) y) st2 := by unfold kIxA; rfl
theorem ix_sum {st : Store} : dIndex st (.lst [.str "sum", .str "less", .str "product"]) (.str "sum") = some (.int 0) := by
  have e := strsOf_strs (["sum", "less", "product"] : List Str)
  simp only [List.map_cons, List.map_nil] at e
  have i : List.idxOf ("sum" : Str) (["sum", "less", "product"] : List Str) = 0 := by decide
  unfold dIndex
  simp only [D.items, Option.bind_some]
  rw [e, Option.bind_some, if_pos (by decide), i]
  rfl
theorem ix_less {st : Store} : dIndex st (.lst [.str "sum", .str "less", .str "product"]) (.str "less") = some (.int 1) := by
  have e := strsOf_strs (["sum", "less", "product"] : List Str)
  simp only [List.map_cons, List.map_nil] at e
  have i : List.idxOf ("less" : Str) (["sum", "less", "product"] : List Str) = 1 := by decide
  unfold dIndex
  simp only [D.items, Option.bind_some]
  rw [e, Option.bind_some, if_pos (by decide), i]
  rfl
theorem ix_product {st : Store} : dIndex st (.lst [.str "sum", .str "less", .str "product"]) (.str "product") = some (.int 2) := by
  have e := strsOf_strs (["sum", "less", "product"] : List Str)
  simp only [List.map_cons, List.map_nil] at e
  have i : List.idxOf ("product" : Str) (["sum", "less", "product"] : List Str) = 2 := by decide
  unfold dIndex
  simp only [D.items, Option.bind_some]
  rw [e, Option.bind_some, if_pos (by decide), i]
  rfl
theorem in_three {st : Store} {s : Str} : dInF false st (.str s) (.tup [.str "sum", .str "less", .str "product"]) = some (.bl (decide (s ∈ (["sum", "less", "product"] : List Str)))) := q_inFS (ss := ["sum", "less", "product"]) (neg := false)
theorem lvalues_is {st : Store} {p n t : Int} {ins : List Int} {rs : List Rw} (hp : 0 < p) (hp2 : p < 20000) (hz : rs.length ≤ 1000) (hin : ins.length = (rs.filter Rw.isIn).length) (href : ∀ (i : Nat) (r : Rw), rs[i]? = some r → ∀ a ∈ r.refs, Has p (vals p ins (rs.take i)).1 a) :
    F__law_values [settD p n t, progD rs, itup ins] st = .ok (.lst ((vals p ins rs).1.map oD)) st := by
  have z3 : 3 ≤ sizeLine := by rw [sz]; omega
  have y1 : decide (("in" : Str) ∈ (["sum", "less", "product"] : List Str)) = false := by decide
  have y2 : decide (("const" : Str) ∈ (["sum", "less", "product"] : List Str)) = false := by decide
  have y3 : decide (("sum" : Str) ∈ (["sum", "less", "product"] : List Str)) = true := by decide
  have y4 : decide (("less" : Str) ∈ (["sum", "less", "product"] : List Str)) = true := by decide
  have y5 : decide (("product" : Str) ∈ (["sum", "less", "product"] : List Str)) = true := by decide
  have y6 : decide (("out" : Str) ∈ (["sum", "less", "product"] : List Str)) = false := by decide
  have y7 : decide (("next" : Str) ∈ (["sum", "less", "product"] : List Str)) = false := by decide
  obtain ⟨es', st', e, o6, o7, o8, o9, o10, rfl, rfl⟩ := forL_rule (t := .nm 6) (body := B__law_values1) (P := Held [])
    (fun i es s => ∃ o6 o7 o8 o9 o10 : Option D, es = [some (settD p n t), some (progD rs), some (itup ins), some (.int p), some (.ref st.length), some (.int ((vals p ins (rs.take i)).2 : Int)), o6, o7, o8, o9, o10] ∧ s = st ++ [.lst ((vals p ins (rs.take i)).1.map oD)])
    (rs.map Rw.d) 0 [some (settD p n t), some (progD rs), some (itup ins), some (.int p), some (.ref st.length), some (.int 0), none, none, none, none, none] (st ++ [.lst []]) (by
      rintro j d es s hj ⟨o6, o7, o8, o9, o10, rfl, rfl⟩
      rw [Nat.zero_add]
      rw [List.getElem?_map] at hj
      obtain ⟨r, h1, rfl⟩ := Option.map_eq_some_iff.mp hj
      have hj2 := (List.getElem?_eq_some_iff.mp h1).1
      refine ⟨trivial, _, rfl, ?_⟩
      obtain ⟨f, hf⟩ : ∃ f, (vals p ins (rs.take j)).1 = f := ⟨_, rfl⟩
      obtain ⟨u, hu⟩ : ∃ u, (vals p ins (rs.take j)).2 = u := ⟨_, rfl⟩
      have hrf := href j r h1
      have hl : (f.map oD).length < sizeLine := by rw [List.length_map, ← hf, vals_len, List.length_take, sz]; omega
      have hv : vals p ins (rs.take (j + 1)) = (f ++ [r.val p ins u f], u + (if r.isIn then 1 else 0)) := by rw [vals_take h1, ← hf, ← hu]; rfl
      rw [hv]
      rw [hf] at hrf
      simp only [hf, hu]
      have et : f.map oD ++ [oD (r.val p ins u f)] = (f ++ [r.val p ins u f]).map oD := by simp
      have hk : (st ++ [Cell.lst (f.map oD)])[st.length]? = some (.lst (f.map oD)) := at_last _ _
      have gb : ∀ a, Has p f a → -(2 ^ 64) < gv f a ∧ gv f a < 2 ^ 64 := fun a h => by have := h.gv; constructor <;> omega
      have go : ∀ (o7' o8' o9' o10' : Option D) (u' : Nat), B__law_values1 [some (settD p n t), some (progD rs), some (itup ins), some (.int p), some (.ref st.length), some (.int (u : Int)), some r.d, o7, o8, o9, o10] (st ++ [.lst (f.map oD)]) =
          .ok .nx [some (settD p n t), some (progD rs), some (itup ins), some (.int p), some (.ref st.length), some (.int (u' : Int)), some r.d, o7', o8', o9', o10'] (st ++ [.lst ((f ++ [r.val p ins u f]).map oD)]) → u' = u + (if r.isIn then 1 else 0) →
          ∃ es2 st2, (B__law_values1 [some (settD p n t), some (progD rs), some (itup ins), some (.int p), some (.ref st.length), some (.int (u : Int)), some r.d, o7, o8, o9, o10] (st ++ [.lst (f.map oD)]) = .ok .nx es2 st2 ∨ B__law_values1 [some (settD p n t), some (progD rs), some (itup ins), some (.int p), some (.ref st.length), some (.int (u : Int)), some r.d, o7, o8, o9, o10] (st ++ [.lst (f.map oD)]) = .ok .ct es2 st2) ∧
            ∃ o6 o7 o8 o9 o10 : Option D, es2 = [some (settD p n t), some (progD rs), some (itup ins), some (.int p), some (.ref st.length), some (.int ((u + (if r.isIn then 1 else 0) : Nat) : Int)), o6, o7, o8, o9, o10] ∧ st2 = st ++ [.lst ((f ++ [r.val p ins u f]).map oD)] := fun o7' o8' o9' o10' u' e1 e2 => by
        subst e2
        exact ⟨_, _, .inl e1, _, _, _, _, _, rfl, rfl⟩
      simp only [List.set_cons_zero, List.set_cons_succ]
      cases r with
      | inp q =>
        have hu2 : u < ins.length := by rw [hin, ← hu, vals_used]; exact in_count h1 rfl
        have ea : atI (ins.map D.int) (u : Int) = some (oD (Rw.val p ins u f (.inp q))) := by
          rw [atI_nat' (by simpa using hu2)]
          simp [Rw.val, oD, List.getElem?_eq_getElem hu2]
        have eu : (u : Int) + 1 = ((u + 1 : Nat) : Int) := rfl
        refine go (some (.str "in")) (some (oD (Rw.val p ins u f (.inp q)))) o9 o10 (u + 1) ?_ rfl
        simp only [B__law_values1, Rw.d, at0, at1, at2, ea, q_kApp hk, q_kApp2 hk hl, set_last, et, eu, w_in_const, w_in_kept, w_in_product, w_in_sum, w_in_less, w_in_times, w_in_out, w_in_next, w_const_in, w_const_kept, w_const_product, w_const_sum, w_const_less, w_const_times, w_const_out, w_const_next, w_kept_in, w_kept_const, w_kept_product, w_kept_sum, w_kept_less, w_kept_times, w_kept_out, w_kept_next, w_product_in, w_product_const, w_product_kept, w_product_sum, w_product_less, w_product_times, w_product_out, w_product_next, w_sum_in, w_sum_const, w_sum_kept, w_sum_product, w_sum_less, w_sum_times, w_sum_out, w_sum_next, w_less_in, w_less_const, w_less_kept, w_less_product, w_less_sum, w_less_times, w_less_out, w_less_next, w_times_in, w_times_const, w_times_kept, w_times_product, w_times_sum, w_times_less, w_times_out, w_times_next, w_out_in, w_out_const, w_out_kept, w_out_product, w_out_sum, w_out_less, w_out_times, w_out_next, w_next_in, w_next_const, w_next_kept, w_next_product, w_next_sum, w_next_less, w_next_times, w_next_out, q_runF, q_kFin, q_kFinN, q_mC, q_v0, q_v1, q_v2, q_v3, q_v4, q_v5, q_v6, q_v7, q_v8, q_v9, q_v10, q_v11, q_v12, q_v13, q_mOp, q_mTest, q_kB, q_kAnd, q_kOr, q_kNot, q_kNeg, q_kChT, q_kChF, q_mTru, q_tAnd, q_tOr, q_tNot, q_tYes, q_eAnd, q_eOr, q_eNot, q_mIf, q_aNil, q_aCons, q_mTup, q_mLst, q_mB, q_mCall, q_mNeg, q_mChain, q_sNil, q_sSeq, q_sExpr, q_sRet, q_sRetN, q_sBk, q_sCt, q_sIf, q_sAsg, q_kPutN, q_sBox, q_kBox, q_sApp, q_sSetI, q_sAug, q_kAug, q_kAug2, q_sFor, q_mRng1, q_kR1, q_kR2, q_mRng2, q_mIt, q_kItL, q_kItT, q_addI, q_addS, q_addT, q_addL, q_sub, q_mul, q_mod, q_fdv, q_pow, q_lt, q_le, q_gt, q_ge, q_iadd, q_isub, q_isN, q_notN, q_isNon_non, q_isNon_int, q_isNon_tup, q_isNon_lst, q_eqI, q_eqS, q_neI, q_neS, q_ixT, q_ixL, q_ixS, q_ixR0, q_int, q_intb, q_lenT, q_lenC, q_lenL, q_min, q_max, q_tupL, q_tupT, q_listL, q_listT, q_truB, q_truI, q_truT, q_truL, q_truN, q_bind, q_toS, q_nx, q_rt, q_bk, q_ct, q_ofO, q_noex, List.set_cons_zero, List.set_cons_succ, List.getElem?_cons_zero, List.getElem?_cons_succ, Option.map_some, Option.bind_some, List.length_cons, List.length_nil, List.map_cons, List.map_nil, Nat.reduceAdd, Nat.reduceSub, Nat.reduceLeDiff, Nat.reduceEqDiff, List.replicate_succ, List.replicate_zero, List.cons_append, List.nil_append, ↓reduceIte, if_true, if_false, Bool.false_eq_true, decide_true, decide_false, Bool.not_true, Bool.not_false, and_self, and_true, true_and, or_true, true_or, not_true_eq_false, not_false_eq_true, q_v14, q_v15, q_v16, q_v17, q_mEnum, q_kEnum, q_mZip, q_kZip, q_mRev, q_kRev, q_aStar, q_kSt, q_pNone, q_pSome, q_kPart, q_mSl, q_kSl2, q_kSl3, q_kCutT, q_kCutL, q_wkL, q_wkT, q_wkS]
      | con c =>
        refine go (some (.str "const")) (some (oD (Rw.val p ins u f (.con c)))) o9 o10 u ?_ rfl
        have eo : D.int c = oD (Rw.val p ins u f (.con c)) := rfl
        simp only [B__law_values1, Rw.d, at0, at1, at2, eo, q_kApp hk, q_kApp2 hk hl, set_last, et, w_in_const, w_in_kept, w_in_product, w_in_sum, w_in_less, w_in_times, w_in_out, w_in_next, w_const_in, w_const_kept, w_const_product, w_const_sum, w_const_less, w_const_times, w_const_out, w_const_next, w_kept_in, w_kept_const, w_kept_product, w_kept_sum, w_kept_less, w_kept_times, w_kept_out, w_kept_next, w_product_in, w_product_const, w_product_kept, w_product_sum, w_product_less, w_product_times, w_product_out, w_product_next, w_sum_in, w_sum_const, w_sum_kept, w_sum_product, w_sum_less, w_sum_times, w_sum_out, w_sum_next, w_less_in, w_less_const, w_less_kept, w_less_product, w_less_sum, w_less_times, w_less_out, w_less_next, w_times_in, w_times_const, w_times_kept, w_times_product, w_times_sum, w_times_less, w_times_out, w_times_next, w_out_in, w_out_const, w_out_kept, w_out_product, w_out_sum, w_out_less, w_out_times, w_out_next, w_next_in, w_next_const, w_next_kept, w_next_product, w_next_sum, w_next_less, w_next_times, w_next_out, q_runF, q_kFin, q_kFinN, q_mC, q_v0, q_v1, q_v2, q_v3, q_v4, q_v5, q_v6, q_v7, q_v8, q_v9, q_v10, q_v11, q_v12, q_v13, q_mOp, q_mTest, q_kB, q_kAnd, q_kOr, q_kNot, q_kNeg, q_kChT, q_kChF, q_mTru, q_tAnd, q_tOr, q_tNot, q_tYes, q_eAnd, q_eOr, q_eNot, q_mIf, q_aNil, q_aCons, q_mTup, q_mLst, q_mB, q_mCall, q_mNeg, q_mChain, q_sNil, q_sSeq, q_sExpr, q_sRet, q_sRetN, q_sBk, q_sCt, q_sIf, q_sAsg, q_kPutN, q_sBox, q_kBox, q_sApp, q_sSetI, q_sAug, q_kAug, q_kAug2, q_sFor, q_mRng1, q_kR1, q_kR2, q_mRng2, q_mIt, q_kItL, q_kItT, q_addI, q_addS, q_addT, q_addL, q_sub, q_mul, q_mod, q_fdv, q_pow, q_lt, q_le, q_gt, q_ge, q_iadd, q_isub, q_isN, q_notN, q_isNon_non, q_isNon_int, q_isNon_tup, q_isNon_lst, q_eqI, q_eqS, q_neI, q_neS, q_ixT, q_ixL, q_ixS, q_ixR0, q_int, q_intb, q_lenT, q_lenC, q_lenL, q_min, q_max, q_tupL, q_tupT, q_listL, q_listT, q_truB, q_truI, q_truT, q_truL, q_truN, q_bind, q_toS, q_nx, q_rt, q_bk, q_ct, q_ofO, q_noex, List.set_cons_zero, List.set_cons_succ, List.getElem?_cons_zero, List.getElem?_cons_succ, Option.map_some, Option.bind_some, List.length_cons, List.length_nil, List.map_cons, List.map_nil, Nat.reduceAdd, Nat.reduceSub, Nat.reduceLeDiff, Nat.reduceEqDiff, List.replicate_succ, List.replicate_zero, List.cons_append, List.nil_append, ↓reduceIte, if_true, if_false, Bool.false_eq_true, decide_true, decide_false, Bool.not_true, Bool.not_false, and_self, and_true, true_and, or_true, true_or, not_true_eq_false, not_false_eq_true, q_v14, q_v15, q_v16, q_v17, q_mEnum, q_kEnum, q_mZip, q_kZip, q_mRev, q_kRev, q_aStar, q_kSt, q_pNone, q_pSome, q_kPart, q_mSl, q_kSl2, q_kSl3, q_kCutT, q_kCutL, q_wkL, q_wkT, q_wkS]
      | kep a =>
        have ha := hrf a (by simp [Rw.refs])
        refine go (some (.str "kept")) (some (oD (Rw.val p ins u f (.kep a)))) o9 o10 u ?_ rfl
        have eo : D.int (gv f a) = oD (Rw.val p ins u f (.kep a)) := rfl
        simp only [B__law_values1, Rw.d, at0, at1, at2, ix_gv hk ha, eo, q_kApp hk, q_kApp2 hk hl, set_last, et, w_in_const, w_in_kept, w_in_product, w_in_sum, w_in_less, w_in_times, w_in_out, w_in_next, w_const_in, w_const_kept, w_const_product, w_const_sum, w_const_less, w_const_times, w_const_out, w_const_next, w_kept_in, w_kept_const, w_kept_product, w_kept_sum, w_kept_less, w_kept_times, w_kept_out, w_kept_next, w_product_in, w_product_const, w_product_kept, w_product_sum, w_product_less, w_product_times, w_product_out, w_product_next, w_sum_in, w_sum_const, w_sum_kept, w_sum_product, w_sum_less, w_sum_times, w_sum_out, w_sum_next, w_less_in, w_less_const, w_less_kept, w_less_product, w_less_sum, w_less_times, w_less_out, w_less_next, w_times_in, w_times_const, w_times_kept, w_times_product, w_times_sum, w_times_less, w_times_out, w_times_next, w_out_in, w_out_const, w_out_kept, w_out_product, w_out_sum, w_out_less, w_out_times, w_out_next, w_next_in, w_next_const, w_next_kept, w_next_product, w_next_sum, w_next_less, w_next_times, w_next_out, q_runF, q_kFin, q_kFinN, q_mC, q_v0, q_v1, q_v2, q_v3, q_v4, q_v5, q_v6, q_v7, q_v8, q_v9, q_v10, q_v11, q_v12, q_v13, q_mOp, q_mTest, q_kB, q_kAnd, q_kOr, q_kNot, q_kNeg, q_kChT, q_kChF, q_mTru, q_tAnd, q_tOr, q_tNot, q_tYes, q_eAnd, q_eOr, q_eNot, q_mIf, q_aNil, q_aCons, q_mTup, q_mLst, q_mB, q_mCall, q_mNeg, q_mChain, q_sNil, q_sSeq, q_sExpr, q_sRet, q_sRetN, q_sBk, q_sCt, q_sIf, q_sAsg, q_kPutN, q_sBox, q_kBox, q_sApp, q_sSetI, q_sAug, q_kAug, q_kAug2, q_sFor, q_mRng1, q_kR1, q_kR2, q_mRng2, q_mIt, q_kItL, q_kItT, q_addI, q_addS, q_addT, q_addL, q_sub, q_mul, q_mod, q_fdv, q_pow, q_lt, q_le, q_gt, q_ge, q_iadd, q_isub, q_isN, q_notN, q_isNon_non, q_isNon_int, q_isNon_tup, q_isNon_lst, q_eqI, q_eqS, q_neI, q_neS, q_ixT, q_ixL, q_ixS, q_ixR0, q_int, q_intb, q_lenT, q_lenC, q_lenL, q_min, q_max, q_tupL, q_tupT, q_listL, q_listT, q_truB, q_truI, q_truT, q_truL, q_truN, q_bind, q_toS, q_nx, q_rt, q_bk, q_ct, q_ofO, q_noex, List.set_cons_zero, List.set_cons_succ, List.getElem?_cons_zero, List.getElem?_cons_succ, Option.map_some, Option.bind_some, List.length_cons, List.length_nil, List.map_cons, List.map_nil, Nat.reduceAdd, Nat.reduceSub, Nat.reduceLeDiff, Nat.reduceEqDiff, List.replicate_succ, List.replicate_zero, List.cons_append, List.nil_append, ↓reduceIte, if_true, if_false, Bool.false_eq_true, decide_true, decide_false, Bool.not_true, Bool.not_false, and_self, and_true, true_and, or_true, true_or, not_true_eq_false, not_false_eq_true, q_v14, q_v15, q_v16, q_v17, q_mEnum, q_kEnum, q_mZip, q_kZip, q_mRev, q_kRev, q_aStar, q_kSt, q_pNone, q_pSome, q_kPart, q_mSl, q_kSl2, q_kSl3, q_kCutT, q_kCutL, q_wkL, q_wkT, q_wkS]
      | tim c a =>
        have ha := hrf a (by simp [Rw.refs])
        refine go (some (.str "times")) (some (oD (Rw.val p ins u f (.tim c a)))) o9 o10 u ?_ rfl
        have eo : D.int (c * gv f a % p) = oD (Rw.val p ins u f (.tim c a)) := rfl
        simp only [B__law_values1, Rw.d, at0, at1, at2, ix_gv hk ha, gb a ha, hp, eo, q_kApp hk, q_kApp2 hk hl, set_last, et, w_in_const, w_in_kept, w_in_product, w_in_sum, w_in_less, w_in_times, w_in_out, w_in_next, w_const_in, w_const_kept, w_const_product, w_const_sum, w_const_less, w_const_times, w_const_out, w_const_next, w_kept_in, w_kept_const, w_kept_product, w_kept_sum, w_kept_less, w_kept_times, w_kept_out, w_kept_next, w_product_in, w_product_const, w_product_kept, w_product_sum, w_product_less, w_product_times, w_product_out, w_product_next, w_sum_in, w_sum_const, w_sum_kept, w_sum_product, w_sum_less, w_sum_times, w_sum_out, w_sum_next, w_less_in, w_less_const, w_less_kept, w_less_product, w_less_sum, w_less_times, w_less_out, w_less_next, w_times_in, w_times_const, w_times_kept, w_times_product, w_times_sum, w_times_less, w_times_out, w_times_next, w_out_in, w_out_const, w_out_kept, w_out_product, w_out_sum, w_out_less, w_out_times, w_out_next, w_next_in, w_next_const, w_next_kept, w_next_product, w_next_sum, w_next_less, w_next_times, w_next_out, q_runF, q_kFin, q_kFinN, q_mC, q_v0, q_v1, q_v2, q_v3, q_v4, q_v5, q_v6, q_v7, q_v8, q_v9, q_v10, q_v11, q_v12, q_v13, q_mOp, q_mTest, q_kB, q_kAnd, q_kOr, q_kNot, q_kNeg, q_kChT, q_kChF, q_mTru, q_tAnd, q_tOr, q_tNot, q_tYes, q_eAnd, q_eOr, q_eNot, q_mIf, q_aNil, q_aCons, q_mTup, q_mLst, q_mB, q_mCall, q_mNeg, q_mChain, q_sNil, q_sSeq, q_sExpr, q_sRet, q_sRetN, q_sBk, q_sCt, q_sIf, q_sAsg, q_kPutN, q_sBox, q_kBox, q_sApp, q_sSetI, q_sAug, q_kAug, q_kAug2, q_sFor, q_mRng1, q_kR1, q_kR2, q_mRng2, q_mIt, q_kItL, q_kItT, q_addI, q_addS, q_addT, q_addL, q_sub, q_mul, q_mod, q_fdv, q_pow, q_lt, q_le, q_gt, q_ge, q_iadd, q_isub, q_isN, q_notN, q_isNon_non, q_isNon_int, q_isNon_tup, q_isNon_lst, q_eqI, q_eqS, q_neI, q_neS, q_ixT, q_ixL, q_ixS, q_ixR0, q_int, q_intb, q_lenT, q_lenC, q_lenL, q_min, q_max, q_tupL, q_tupT, q_listL, q_listT, q_truB, q_truI, q_truT, q_truL, q_truN, q_bind, q_toS, q_nx, q_rt, q_bk, q_ct, q_ofO, q_noex, List.set_cons_zero, List.set_cons_succ, List.getElem?_cons_zero, List.getElem?_cons_succ, Option.map_some, Option.bind_some, List.length_cons, List.length_nil, List.map_cons, List.map_nil, Nat.reduceAdd, Nat.reduceSub, Nat.reduceLeDiff, Nat.reduceEqDiff, List.replicate_succ, List.replicate_zero, List.cons_append, List.nil_append, ↓reduceIte, if_true, if_false, Bool.false_eq_true, decide_true, decide_false, Bool.not_true, Bool.not_false, and_self, and_true, true_and, or_true, true_or, not_true_eq_false, not_false_eq_true, q_v14, q_v15, q_v16, q_v17, q_mEnum, q_kEnum, q_mZip, q_kZip, q_mRev, q_kRev, q_aStar, q_kSt, q_pNone, q_pSome, q_kPart, q_mSl, q_kSl2, q_kSl3, q_kCutT, q_kCutL, q_wkL, q_wkT, q_wkS]
      | sm a b =>
        have ha := hrf a (by simp [Rw.refs])
        have hb := hrf b (by simp [Rw.refs])
        refine go (some (.str "sum")) (some (oD (Rw.val p ins u f (.sm a b)))) (some (.int (gv f a))) (some (.int (gv f b))) u ?_ rfl
        have eo : D.int ((gv f a + gv f b) % p) = oD (Rw.val p ins u f (.sm a b)) := rfl
        simp only [B__law_values1, Rw.d, at0, at1, at2, ix_gv hk ha, ix_gv hk hb, gb a ha, hp, z3, in_three, y3, q_mIndex, q_kIxA, ix_sum, eo, q_kApp hk, q_kApp2 hk hl, set_last, et, w_in_const, w_in_kept, w_in_product, w_in_sum, w_in_less, w_in_times, w_in_out, w_in_next, w_const_in, w_const_kept, w_const_product, w_const_sum, w_const_less, w_const_times, w_const_out, w_const_next, w_kept_in, w_kept_const, w_kept_product, w_kept_sum, w_kept_less, w_kept_times, w_kept_out, w_kept_next, w_product_in, w_product_const, w_product_kept, w_product_sum, w_product_less, w_product_times, w_product_out, w_product_next, w_sum_in, w_sum_const, w_sum_kept, w_sum_product, w_sum_less, w_sum_times, w_sum_out, w_sum_next, w_less_in, w_less_const, w_less_kept, w_less_product, w_less_sum, w_less_times, w_less_out, w_less_next, w_times_in, w_times_const, w_times_kept, w_times_product, w_times_sum, w_times_less, w_times_out, w_times_next, w_out_in, w_out_const, w_out_kept, w_out_product, w_out_sum, w_out_less, w_out_times, w_out_next, w_next_in, w_next_const, w_next_kept, w_next_product, w_next_sum, w_next_less, w_next_times, w_next_out, q_runF, q_kFin, q_kFinN, q_mC, q_v0, q_v1, q_v2, q_v3, q_v4, q_v5, q_v6, q_v7, q_v8, q_v9, q_v10, q_v11, q_v12, q_v13, q_mOp, q_mTest, q_kB, q_kAnd, q_kOr, q_kNot, q_kNeg, q_kChT, q_kChF, q_mTru, q_tAnd, q_tOr, q_tNot, q_tYes, q_eAnd, q_eOr, q_eNot, q_mIf, q_aNil, q_aCons, q_mTup, q_mLst, q_mB, q_mCall, q_mNeg, q_mChain, q_sNil, q_sSeq, q_sExpr, q_sRet, q_sRetN, q_sBk, q_sCt, q_sIf, q_sAsg, q_kPutN, q_sBox, q_kBox, q_sApp, q_sSetI, q_sAug, q_kAug, q_kAug2, q_sFor, q_mRng1, q_kR1, q_kR2, q_mRng2, q_mIt, q_kItL, q_kItT, q_addI, q_addS, q_addT, q_addL, q_sub, q_mul, q_mod, q_fdv, q_pow, q_lt, q_le, q_gt, q_ge, q_iadd, q_isub, q_isN, q_notN, q_isNon_non, q_isNon_int, q_isNon_tup, q_isNon_lst, q_eqI, q_eqS, q_neI, q_neS, q_ixT, q_ixL, q_ixS, q_ixR0, q_int, q_intb, q_lenT, q_lenC, q_lenL, q_min, q_max, q_tupL, q_tupT, q_listL, q_listT, q_truB, q_truI, q_truT, q_truL, q_truN, q_bind, q_toS, q_nx, q_rt, q_bk, q_ct, q_ofO, q_noex, List.set_cons_zero, List.set_cons_succ, List.getElem?_cons_zero, List.getElem?_cons_succ, Option.map_some, Option.bind_some, List.length_cons, List.length_nil, List.map_cons, List.map_nil, Nat.reduceAdd, Nat.reduceSub, Nat.reduceLeDiff, Nat.reduceEqDiff, List.replicate_succ, List.replicate_zero, List.cons_append, List.nil_append, ↓reduceIte, if_true, if_false, Bool.false_eq_true, decide_true, decide_false, Bool.not_true, Bool.not_false, and_self, and_true, true_and, or_true, true_or, not_true_eq_false, not_false_eq_true, q_v14, q_v15, q_v16, q_v17, q_mEnum, q_kEnum, q_mZip, q_kZip, q_mRev, q_kRev, q_aStar, q_kSt, q_pNone, q_pSome, q_kPart, q_mSl, q_kSl2, q_kSl3, q_kCutT, q_kCutL, q_wkL, q_wkT, q_wkS]
      | les a b =>
        have ha := hrf a (by simp [Rw.refs])
        have hb := hrf b (by simp [Rw.refs])
        refine go (some (.str "less")) (some (oD (Rw.val p ins u f (.les a b)))) (some (.int (gv f a))) (some (.int (gv f b))) u ?_ rfl
        have eo : D.int ((gv f a - gv f b) % p) = oD (Rw.val p ins u f (.les a b)) := rfl
        simp only [B__law_values1, Rw.d, at0, at1, at2, ix_gv hk ha, ix_gv hk hb, gb a ha, hp, z3, in_three, y4, q_mIndex, q_kIxA, ix_less, eo, q_kApp hk, q_kApp2 hk hl, set_last, et, w_in_const, w_in_kept, w_in_product, w_in_sum, w_in_less, w_in_times, w_in_out, w_in_next, w_const_in, w_const_kept, w_const_product, w_const_sum, w_const_less, w_const_times, w_const_out, w_const_next, w_kept_in, w_kept_const, w_kept_product, w_kept_sum, w_kept_less, w_kept_times, w_kept_out, w_kept_next, w_product_in, w_product_const, w_product_kept, w_product_sum, w_product_less, w_product_times, w_product_out, w_product_next, w_sum_in, w_sum_const, w_sum_kept, w_sum_product, w_sum_less, w_sum_times, w_sum_out, w_sum_next, w_less_in, w_less_const, w_less_kept, w_less_product, w_less_sum, w_less_times, w_less_out, w_less_next, w_times_in, w_times_const, w_times_kept, w_times_product, w_times_sum, w_times_less, w_times_out, w_times_next, w_out_in, w_out_const, w_out_kept, w_out_product, w_out_sum, w_out_less, w_out_times, w_out_next, w_next_in, w_next_const, w_next_kept, w_next_product, w_next_sum, w_next_less, w_next_times, w_next_out, q_runF, q_kFin, q_kFinN, q_mC, q_v0, q_v1, q_v2, q_v3, q_v4, q_v5, q_v6, q_v7, q_v8, q_v9, q_v10, q_v11, q_v12, q_v13, q_mOp, q_mTest, q_kB, q_kAnd, q_kOr, q_kNot, q_kNeg, q_kChT, q_kChF, q_mTru, q_tAnd, q_tOr, q_tNot, q_tYes, q_eAnd, q_eOr, q_eNot, q_mIf, q_aNil, q_aCons, q_mTup, q_mLst, q_mB, q_mCall, q_mNeg, q_mChain, q_sNil, q_sSeq, q_sExpr, q_sRet, q_sRetN, q_sBk, q_sCt, q_sIf, q_sAsg, q_kPutN, q_sBox, q_kBox, q_sApp, q_sSetI, q_sAug, q_kAug, q_kAug2, q_sFor, q_mRng1, q_kR1, q_kR2, q_mRng2, q_mIt, q_kItL, q_kItT, q_addI, q_addS, q_addT, q_addL, q_sub, q_mul, q_mod, q_fdv, q_pow, q_lt, q_le, q_gt, q_ge, q_iadd, q_isub, q_isN, q_notN, q_isNon_non, q_isNon_int, q_isNon_tup, q_isNon_lst, q_eqI, q_eqS, q_neI, q_neS, q_ixT, q_ixL, q_ixS, q_ixR0, q_int, q_intb, q_lenT, q_lenC, q_lenL, q_min, q_max, q_tupL, q_tupT, q_listL, q_listT, q_truB, q_truI, q_truT, q_truL, q_truN, q_bind, q_toS, q_nx, q_rt, q_bk, q_ct, q_ofO, q_noex, List.set_cons_zero, List.set_cons_succ, List.getElem?_cons_zero, List.getElem?_cons_succ, Option.map_some, Option.bind_some, List.length_cons, List.length_nil, List.map_cons, List.map_nil, Nat.reduceAdd, Nat.reduceSub, Nat.reduceLeDiff, Nat.reduceEqDiff, List.replicate_succ, List.replicate_zero, List.cons_append, List.nil_append, ↓reduceIte, if_true, if_false, Bool.false_eq_true, decide_true, decide_false, Bool.not_true, Bool.not_false, and_self, and_true, true_and, or_true, true_or, not_true_eq_false, not_false_eq_true, q_v14, q_v15, q_v16, q_v17, q_mEnum, q_kEnum, q_mZip, q_kZip, q_mRev, q_kRev, q_aStar, q_kSt, q_pNone, q_pSome, q_kPart, q_mSl, q_kSl2, q_kSl3, q_kCutT, q_kCutL, q_wkL, q_wkT, q_wkS]
      | pro a b =>
        have ha := hrf a (by simp [Rw.refs])
        have hb := hrf b (by simp [Rw.refs])
        refine go (some (.str "product")) (some (oD (Rw.val p ins u f (.pro a b)))) (some (.int (gv f a))) (some (.int (gv f b))) u ?_ rfl
        have eo : D.int (gv f a * gv f b % p) = oD (Rw.val p ins u f (.pro a b)) := rfl
        simp only [B__law_values1, Rw.d, at0, at1, at2, ix_gv hk ha, ix_gv hk hb, gb a ha, hp, z3, in_three, y5, q_mIndex, q_kIxA, ix_product, eo, q_kApp hk, q_kApp2 hk hl, set_last, et, w_in_const, w_in_kept, w_in_product, w_in_sum, w_in_less, w_in_times, w_in_out, w_in_next, w_const_in, w_const_kept, w_const_product, w_const_sum, w_const_less, w_const_times, w_const_out, w_const_next, w_kept_in, w_kept_const, w_kept_product, w_kept_sum, w_kept_less, w_kept_times, w_kept_out, w_kept_next, w_product_in, w_product_const, w_product_kept, w_product_sum, w_product_less, w_product_times, w_product_out, w_product_next, w_sum_in, w_sum_const, w_sum_kept, w_sum_product, w_sum_less, w_sum_times, w_sum_out, w_sum_next, w_less_in, w_less_const, w_less_kept, w_less_product, w_less_sum, w_less_times, w_less_out, w_less_next, w_times_in, w_times_const, w_times_kept, w_times_product, w_times_sum, w_times_less, w_times_out, w_times_next, w_out_in, w_out_const, w_out_kept, w_out_product, w_out_sum, w_out_less, w_out_times, w_out_next, w_next_in, w_next_const, w_next_kept, w_next_product, w_next_sum, w_next_less, w_next_times, w_next_out, q_runF, q_kFin, q_kFinN, q_mC, q_v0, q_v1, q_v2, q_v3, q_v4, q_v5, q_v6, q_v7, q_v8, q_v9, q_v10, q_v11, q_v12, q_v13, q_mOp, q_mTest, q_kB, q_kAnd, q_kOr, q_kNot, q_kNeg, q_kChT, q_kChF, q_mTru, q_tAnd, q_tOr, q_tNot, q_tYes, q_eAnd, q_eOr, q_eNot, q_mIf, q_aNil, q_aCons, q_mTup, q_mLst, q_mB, q_mCall, q_mNeg, q_mChain, q_sNil, q_sSeq, q_sExpr, q_sRet, q_sRetN, q_sBk, q_sCt, q_sIf, q_sAsg, q_kPutN, q_sBox, q_kBox, q_sApp, q_sSetI, q_sAug, q_kAug, q_kAug2, q_sFor, q_mRng1, q_kR1, q_kR2, q_mRng2, q_mIt, q_kItL, q_kItT, q_addI, q_addS, q_addT, q_addL, q_sub, q_mul, q_mod, q_fdv, q_pow, q_lt, q_le, q_gt, q_ge, q_iadd, q_isub, q_isN, q_notN, q_isNon_non, q_isNon_int, q_isNon_tup, q_isNon_lst, q_eqI, q_eqS, q_neI, q_neS, q_ixT, q_ixL, q_ixS, q_ixR0, q_int, q_intb, q_lenT, q_lenC, q_lenL, q_min, q_max, q_tupL, q_tupT, q_listL, q_listT, q_truB, q_truI, q_truT, q_truL, q_truN, q_bind, q_toS, q_nx, q_rt, q_bk, q_ct, q_ofO, q_noex, List.set_cons_zero, List.set_cons_succ, List.getElem?_cons_zero, List.getElem?_cons_succ, Option.map_some, Option.bind_some, List.length_cons, List.length_nil, List.map_cons, List.map_nil, Nat.reduceAdd, Nat.reduceSub, Nat.reduceLeDiff, Nat.reduceEqDiff, List.replicate_succ, List.replicate_zero, List.cons_append, List.nil_append, ↓reduceIte, if_true, if_false, Bool.false_eq_true, decide_true, decide_false, Bool.not_true, Bool.not_false, and_self, and_true, true_and, or_true, true_or, not_true_eq_false, not_false_eq_true, q_v14, q_v15, q_v16, q_v17, q_mEnum, q_kEnum, q_mZip, q_kZip, q_mRev, q_kRev, q_aStar, q_kSt, q_pNone, q_pSome, q_kPart, q_mSl, q_kSl2, q_kSl3, q_kCutT, q_kCutL, q_wkL, q_wkT, q_wkS]
      | out a q =>
        refine go (some (.str "out")) (some (oD (Rw.val p ins u f (.out a q)))) o9 o10 u ?_ rfl
        have eo : D.non = oD (Rw.val p ins u f (.out a q)) := rfl
        simp only [B__law_values1, Rw.d, at0, at1, at2, z3, in_three, y6, eo, q_kApp hk, q_kApp2 hk hl, set_last, et, w_in_const, w_in_kept, w_in_product, w_in_sum, w_in_less, w_in_times, w_in_out, w_in_next, w_const_in, w_const_kept, w_const_product, w_const_sum, w_const_less, w_const_times, w_const_out, w_const_next, w_kept_in, w_kept_const, w_kept_product, w_kept_sum, w_kept_less, w_kept_times, w_kept_out, w_kept_next, w_product_in, w_product_const, w_product_kept, w_product_sum, w_product_less, w_product_times, w_product_out, w_product_next, w_sum_in, w_sum_const, w_sum_kept, w_sum_product, w_sum_less, w_sum_times, w_sum_out, w_sum_next, w_less_in, w_less_const, w_less_kept, w_less_product, w_less_sum, w_less_times, w_less_out, w_less_next, w_times_in, w_times_const, w_times_kept, w_times_product, w_times_sum, w_times_less, w_times_out, w_times_next, w_out_in, w_out_const, w_out_kept, w_out_product, w_out_sum, w_out_less, w_out_times, w_out_next, w_next_in, w_next_const, w_next_kept, w_next_product, w_next_sum, w_next_less, w_next_times, w_next_out, q_runF, q_kFin, q_kFinN, q_mC, q_v0, q_v1, q_v2, q_v3, q_v4, q_v5, q_v6, q_v7, q_v8, q_v9, q_v10, q_v11, q_v12, q_v13, q_mOp, q_mTest, q_kB, q_kAnd, q_kOr, q_kNot, q_kNeg, q_kChT, q_kChF, q_mTru, q_tAnd, q_tOr, q_tNot, q_tYes, q_eAnd, q_eOr, q_eNot, q_mIf, q_aNil, q_aCons, q_mTup, q_mLst, q_mB, q_mCall, q_mNeg, q_mChain, q_sNil, q_sSeq, q_sExpr, q_sRet, q_sRetN, q_sBk, q_sCt, q_sIf, q_sAsg, q_kPutN, q_sBox, q_kBox, q_sApp, q_sSetI, q_sAug, q_kAug, q_kAug2, q_sFor, q_mRng1, q_kR1, q_kR2, q_mRng2, q_mIt, q_kItL, q_kItT, q_addI, q_addS, q_addT, q_addL, q_sub, q_mul, q_mod, q_fdv, q_pow, q_lt, q_le, q_gt, q_ge, q_iadd, q_isub, q_isN, q_notN, q_isNon_non, q_isNon_int, q_isNon_tup, q_isNon_lst, q_eqI, q_eqS, q_neI, q_neS, q_ixT, q_ixL, q_ixS, q_ixR0, q_int, q_intb, q_lenT, q_lenC, q_lenL, q_min, q_max, q_tupL, q_tupT, q_listL, q_listT, q_truB, q_truI, q_truT, q_truL, q_truN, q_bind, q_toS, q_nx, q_rt, q_bk, q_ct, q_ofO, q_noex, List.set_cons_zero, List.set_cons_succ, List.getElem?_cons_zero, List.getElem?_cons_succ, Option.map_some, Option.bind_some, List.length_cons, List.length_nil, List.map_cons, List.map_nil, Nat.reduceAdd, Nat.reduceSub, Nat.reduceLeDiff, Nat.reduceEqDiff, List.replicate_succ, List.replicate_zero, List.cons_append, List.nil_append, ↓reduceIte, if_true, if_false, Bool.false_eq_true, decide_true, decide_false, Bool.not_true, Bool.not_false, and_self, and_true, true_and, or_true, true_or, not_true_eq_false, not_false_eq_true, q_v14, q_v15, q_v16, q_v17, q_mEnum, q_kEnum, q_mZip, q_kZip, q_mRev, q_kRev, q_aStar, q_kSt, q_pNone, q_pSome, q_kPart, q_mSl, q_kSl2, q_kSl3, q_kCutT, q_kCutL, q_wkL, q_wkT, q_wkS]
      | nxt =>
        refine go (some (.str "next")) (some (oD (Rw.val p ins u f .nxt))) o9 o10 u ?_ rfl
        have eo : D.non = oD (Rw.val p ins u f .nxt) := rfl
        simp only [B__law_values1, Rw.d, at0, at1, at2, z3, in_three, y7, eo, q_kApp hk, q_kApp2 hk hl, set_last, et, w_in_const, w_in_kept, w_in_product, w_in_sum, w_in_less, w_in_times, w_in_out, w_in_next, w_const_in, w_const_kept, w_const_product, w_const_sum, w_const_less, w_const_times, w_const_out, w_const_next, w_kept_in, w_kept_const, w_kept_product, w_kept_sum, w_kept_less, w_kept_times, w_kept_out, w_kept_next, w_product_in, w_product_const, w_product_kept, w_product_sum, w_product_less, w_product_times, w_product_out, w_product_next, w_sum_in, w_sum_const, w_sum_kept, w_sum_product, w_sum_less, w_sum_times, w_sum_out, w_sum_next, w_less_in, w_less_const, w_less_kept, w_less_product, w_less_sum, w_less_times, w_less_out, w_less_next, w_times_in, w_times_const, w_times_kept, w_times_product, w_times_sum, w_times_less, w_times_out, w_times_next, w_out_in, w_out_const, w_out_kept, w_out_product, w_out_sum, w_out_less, w_out_times, w_out_next, w_next_in, w_next_const, w_next_kept, w_next_product, w_next_sum, w_next_less, w_next_times, w_next_out, q_runF, q_kFin, q_kFinN, q_mC, q_v0, q_v1, q_v2, q_v3, q_v4, q_v5, q_v6, q_v7, q_v8, q_v9, q_v10, q_v11, q_v12, q_v13, q_mOp, q_mTest, q_kB, q_kAnd, q_kOr, q_kNot, q_kNeg, q_kChT, q_kChF, q_mTru, q_tAnd, q_tOr, q_tNot, q_tYes, q_eAnd, q_eOr, q_eNot, q_mIf, q_aNil, q_aCons, q_mTup, q_mLst, q_mB, q_mCall, q_mNeg, q_mChain, q_sNil, q_sSeq, q_sExpr, q_sRet, q_sRetN, q_sBk, q_sCt, q_sIf, q_sAsg, q_kPutN, q_sBox, q_kBox, q_sApp, q_sSetI, q_sAug, q_kAug, q_kAug2, q_sFor, q_mRng1, q_kR1, q_kR2, q_mRng2, q_mIt, q_kItL, q_kItT, q_addI, q_addS, q_addT, q_addL, q_sub, q_mul, q_mod, q_fdv, q_pow, q_lt, q_le, q_gt, q_ge, q_iadd, q_isub, q_isN, q_notN, q_isNon_non, q_isNon_int, q_isNon_tup, q_isNon_lst, q_eqI, q_eqS, q_neI, q_neS, q_ixT, q_ixL, q_ixS, q_ixR0, q_int, q_intb, q_lenT, q_lenC, q_lenL, q_min, q_max, q_tupL, q_tupT, q_listL, q_listT, q_truB, q_truI, q_truT, q_truL, q_truN, q_bind, q_toS, q_nx, q_rt, q_bk, q_ct, q_ofO, q_noex, List.set_cons_zero, List.set_cons_succ, List.getElem?_cons_zero, List.getElem?_cons_succ, Option.map_some, Option.bind_some, List.length_cons, List.length_nil, List.map_cons, List.map_nil, Nat.reduceAdd, Nat.reduceSub, Nat.reduceLeDiff, Nat.reduceEqDiff, List.replicate_succ, List.replicate_zero, List.cons_append, List.nil_append, ↓reduceIte, if_true, if_false, Bool.false_eq_true, decide_true, decide_false, Bool.not_true, Bool.not_false, and_self, and_true, true_and, or_true, true_or, not_true_eq_false, not_false_eq_true, q_v14, q_v15, q_v16, q_v17, q_mEnum, q_kEnum, q_mZip, q_kZip, q_mRev, q_kRev, q_aStar, q_kSt, q_pNone, q_pSome, q_kPart, q_mSl, q_kSl2, q_kSl3, q_kCutT, q_kCutL, q_wkL, q_wkT, q_wkS])
    (fun _ _ _ => trivial) ⟨_, _, _, _, _, rfl, rfl⟩
  rw [Nat.zero_add, List.length_map, List.take_length] at e
  have z0 : 0 ≤ sizeLine := Nat.zero_le _
  simp only [F__law_values, M__law_values, z0, at1, e, q_runF, q_kFin, q_kFinN, q_mC, q_v0, q_v1, q_v2, q_v3, q_v4, q_v5, q_v6, q_v7, q_v8, q_v9, q_v10, q_v11, q_v12, q_v13, q_mOp, q_mTest, q_kB, q_kAnd, q_kOr, q_kNot, q_kNeg, q_kChT, q_kChF, q_mTru, q_tAnd, q_tOr, q_tNot, q_tYes, q_eAnd, q_eOr, q_eNot, q_mIf, q_aNil, q_aCons, q_mTup, q_mLst, q_mB, q_mCall, q_mNeg, q_mChain, q_sNil, q_sSeq, q_sExpr, q_sRet, q_sRetN, q_sBk, q_sCt, q_sIf, q_sAsg, q_kPutN, q_sBox, q_kBox, q_sApp, q_sSetI, q_sAug, q_kAug, q_kAug2, q_sFor, q_mRng1, q_kR1, q_kR2, q_mRng2, q_mIt, q_kItL, q_kItT, q_addI, q_addS, q_addT, q_addL, q_sub, q_mul, q_mod, q_fdv, q_pow, q_lt, q_le, q_gt, q_ge, q_iadd, q_isub, q_isN, q_notN, q_isNon_non, q_isNon_int, q_isNon_tup, q_isNon_lst, q_eqI, q_eqS, q_neI, q_neS, q_ixT, q_ixL, q_ixS, q_ixR0, q_int, q_intb, q_lenT, q_lenC, q_lenL, q_min, q_max, q_tupL, q_tupT, q_listL, q_listT, q_truB, q_truI, q_truT, q_truL, q_truN, q_bind, q_toS, q_nx, q_rt, q_bk, q_ct, q_ofO, q_noex, List.set_cons_zero, List.set_cons_succ, List.getElem?_cons_zero, List.getElem?_cons_succ, Option.map_some, Option.bind_some, List.length_cons, List.length_nil, List.map_cons, List.map_nil, Nat.reduceAdd, Nat.reduceSub, Nat.reduceLeDiff, Nat.reduceEqDiff, List.replicate_succ, List.replicate_zero, List.cons_append, List.nil_append, ↓reduceIte, if_true, if_false, Bool.false_eq_true, decide_true, decide_false, Bool.not_true, Bool.not_false, and_self, and_true, true_and, or_true, true_or, not_true_eq_false, not_false_eq_true, q_v14, q_v15, q_v16, q_v17, q_mEnum, q_kEnum, q_mZip, q_kZip, q_mRev, q_kRev, q_aStar, q_kSt, q_pNone, q_pSome, q_kPart, q_mSl, q_kSl2, q_kSl3, q_kCutT, q_kCutL, q_wkL, q_wkT, q_wkS]
  refine leave_new (more := []) ?_
  rw [los_iff]
  intro d hd
  obtain ⟨x, _, rfl⟩ := List.mem_map.mp hd
  cases x <;> simp [oD, D.lo]
end Zp
namespace Zp
open PySem L2 Zv PyProof.Rows Zn
theorem lcL_if {α : Type} {t : Tg} {tt : TM} {elt : EM} {P : Store → Prop} {es : Sl} {st : Store} (hP : P st) (emb f : α → D) (g : α → Bool) : ∀ (as : List α),
    (∀ a ∈ as, ∃ es1, t.put (emb a) es = some es1 ∧ tt es1 st = .ok (g a) st ∧ (g a = true → elt es1 st = .ok (f a) st)) → lcL t tt elt P es (as.map emb) st = .ok ((as.filter g).map f) st
  | [], _ => by
    rw [List.map_nil]
    unfold lcL
    rw [if_pos hP]
    rfl
  | a :: as, h => by
    obtain ⟨es1, e1, e2, e3⟩ := h a List.mem_cons_self
    have ih := lcL_if hP emb f g as fun x hx => h x (List.mem_cons_of_mem _ hx)
    rw [List.map_cons]
    unfold lcL
    rw [if_pos hP, e1]
    cases hg : g a with
    | true => simp only [e2, hg, e3 hg, R.noex_ok, R.bind_ok, ih, if_true, List.filter_cons, List.map_cons]
    | false => simp only [e2, hg, R.noex_ok, R.bind_ok, ih, Bool.false_eq_true, if_false, List.filter_cons]
theorem inputs_is {ds : List Int} {m : Nat} {st : Store} {p n t : Int} {rs : List Rw} (hp : 0 < p) (hz : rs.length ≤ 1000) : ∃ (ins : List Int) (m' : Nat), ins.length = (rs.filter Rw.isIn).length ∧ lowP p ins ∧
    F__law_inputs [.ref 0, settD p n t, progD rs] (Box ds m :: st) = .ok (itup ins) (Box ds m' :: st) := by
  have hc : (rs.filter Rw.isIn).length ≤ rs.length := List.length_filter_le _ _
  obtain ⟨ins, h1, h2, e1⟩ := numbers_is (p := p) (ds := ds) (n := m) (many := (rs.filter Rw.isIn).length) (st := st) hp (by omega)
  have e := lcL_if (t := .nm 3) (tt := mTest (mOp dEq (mOp dIx (mVar 3) (mC (.int 0))) (mC (.str "in")))) (elt := mVar 3) (P := Held []) (es := [some (.ref 0), some (settD p n t), some (progD rs), none]) (st := Box ds m :: st) trivial Rw.d Rw.d Rw.isIn rs
    (fun r _ => ⟨[some (.ref 0), some (settD p n t), some (progD rs), some r.d], rfl, by cases r <;> simp only [Rw.d, Rw.isIn, at0, w_in_const, w_in_kept, w_in_product, w_in_sum, w_in_less, w_in_times, w_in_out, w_in_next, w_const_in, w_const_kept, w_const_product, w_const_sum, w_const_less, w_const_times, w_const_out, w_const_next, w_kept_in, w_kept_const, w_kept_product, w_kept_sum, w_kept_less, w_kept_times, w_kept_out, w_kept_next, w_product_in, w_product_const, w_product_kept, w_product_sum, w_product_less, w_product_times, w_product_out, w_product_next, w_sum_in, w_sum_const, w_sum_kept, w_sum_product, w_sum_less, w_sum_times, w_sum_out, w_sum_next, w_less_in, w_less_const, w_less_kept, w_less_product, w_less_sum, w_less_times, w_less_out, w_less_next, w_times_in, w_times_const, w_times_kept, w_times_product, w_times_sum, w_times_less, w_times_out, w_times_next, w_out_in, w_out_const, w_out_kept, w_out_product, w_out_sum, w_out_less, w_out_times, w_out_next, w_next_in, w_next_const, w_next_kept, w_next_product, w_next_sum, w_next_less, w_next_times, w_next_out, q_runF, q_kFin, q_kFinN, q_mC, q_v0, q_v1, q_v2, q_v3, q_v4, q_v5, q_v6, q_v7, q_v8, q_v9, q_v10, q_v11, q_v12, q_v13, q_mOp, q_mTest, q_kB, q_kAnd, q_kOr, q_kNot, q_kNeg, q_kChT, q_kChF, q_mTru, q_tAnd, q_tOr, q_tNot, q_tYes, q_eAnd, q_eOr, q_eNot, q_mIf, q_aNil, q_aCons, q_mTup, q_mLst, q_mB, q_mCall, q_mNeg, q_mChain, q_sNil, q_sSeq, q_sExpr, q_sRet, q_sRetN, q_sBk, q_sCt, q_sIf, q_sAsg, q_kPutN, q_sBox, q_kBox, q_sApp, q_sSetI, q_sAug, q_kAug, q_kAug2, q_sFor, q_mRng1, q_kR1, q_kR2, q_mRng2, q_mIt, q_kItL, q_kItT, q_addI, q_addS, q_addT, q_addL, q_sub, q_mul, q_mod, q_fdv, q_pow, q_lt, q_le, q_gt, q_ge, q_iadd, q_isub, q_isN, q_notN, q_isNon_non, q_isNon_int, q_isNon_tup, q_isNon_lst, q_eqI, q_eqS, q_neI, q_neS, q_ixT, q_ixL, q_ixS, q_ixR0, q_int, q_intb, q_lenT, q_lenC, q_lenL, q_min, q_max, q_tupL, q_tupT, q_listL, q_listT, q_truB, q_truI, q_truT, q_truL, q_truN, q_bind, q_toS, q_nx, q_rt, q_bk, q_ct, q_ofO, q_noex, List.set_cons_zero, List.set_cons_succ, List.getElem?_cons_zero, List.getElem?_cons_succ, Option.map_some, Option.bind_some, List.length_cons, List.length_nil, List.map_cons, List.map_nil, Nat.reduceAdd, Nat.reduceSub, Nat.reduceLeDiff, Nat.reduceEqDiff, List.replicate_succ, List.replicate_zero, List.cons_append, List.nil_append, ↓reduceIte, if_true, if_false, Bool.false_eq_true, decide_true, decide_false, Bool.not_true, Bool.not_false, and_self, and_true, true_and, or_true, true_or, not_true_eq_false, not_false_eq_true, q_v14, q_v15, q_v16, q_v17, q_mEnum, q_kEnum, q_mZip, q_kZip, q_mRev, q_kRev, q_aStar, q_kSt, q_pNone, q_pSome, q_kPart, q_mSl, q_kSl2, q_kSl3, q_kCutT, q_kCutL, q_wkL, q_wkT, q_wkS], fun _ => by simp only [q_runF, q_kFin, q_kFinN, q_mC, q_v0, q_v1, q_v2, q_v3, q_v4, q_v5, q_v6, q_v7, q_v8, q_v9, q_v10, q_v11, q_v12, q_v13, q_mOp, q_mTest, q_kB, q_kAnd, q_kOr, q_kNot, q_kNeg, q_kChT, q_kChF, q_mTru, q_tAnd, q_tOr, q_tNot, q_tYes, q_eAnd, q_eOr, q_eNot, q_mIf, q_aNil, q_aCons, q_mTup, q_mLst, q_mB, q_mCall, q_mNeg, q_mChain, q_sNil, q_sSeq, q_sExpr, q_sRet, q_sRetN, q_sBk, q_sCt, q_sIf, q_sAsg, q_kPutN, q_sBox, q_kBox, q_sApp, q_sSetI, q_sAug, q_kAug, q_kAug2, q_sFor, q_mRng1, q_kR1, q_kR2, q_mRng2, q_mIt, q_kItL, q_kItT, q_addI, q_addS, q_addT, q_addL, q_sub, q_mul, q_mod, q_fdv, q_pow, q_lt, q_le, q_gt, q_ge, q_iadd, q_isub, q_isN, q_notN, q_isNon_non, q_isNon_int, q_isNon_tup, q_isNon_lst, q_eqI, q_eqS, q_neI, q_neS, q_ixT, q_ixL, q_ixS, q_ixR0, q_int, q_intb, q_lenT, q_lenC, q_lenL, q_min, q_max, q_tupL, q_tupT, q_listL, q_listT, q_truB, q_truI, q_truT, q_truL, q_truN, q_bind, q_toS, q_nx, q_rt, q_bk, q_ct, q_ofO, q_noex, List.set_cons_zero, List.set_cons_succ, List.getElem?_cons_zero, List.getElem?_cons_succ, Option.map_some, Option.bind_some, List.length_cons, List.length_nil, List.map_cons, List.map_nil, Nat.reduceAdd, Nat.reduceSub, Nat.reduceLeDiff, Nat.reduceEqDiff, List.replicate_succ, List.replicate_zero, List.cons_append, List.nil_append, ↓reduceIte, if_true, if_false, Bool.false_eq_true, decide_true, decide_false, Bool.not_true, Bool.not_false, and_self, and_true, true_and, or_true, true_or, not_true_eq_false, not_false_eq_true, q_v14, q_v15, q_v16, q_v17, q_mEnum, q_kEnum, q_mZip, q_kZip, q_mRev, q_kRev, q_aStar, q_kSt, q_pNone, q_pSome, q_kPart, q_mSl, q_kSl2, q_kSl3, q_kCutT, q_kCutL, q_wkL, q_wkT, q_wkS]⟩)
  have ez : rs.length ≤ sizeLine := by rw [sz]; omega
  have ew : wipeD [some (.ref 0), some (settD p n t), some (progD rs), none] [3] = [some (.ref 0), some (settD p n t), some (progD rs), none] := rfl
  refine ⟨ins, m + 2 * (rs.filter Rw.isIn).length, h1, h2, ?_⟩
  simp only [F__law_inputs, M__law_inputs, q_mLC, at1, List.length_map, ez, ew, e, e1, q_runF, q_kFin, q_kFinN, q_mC, q_v0, q_v1, q_v2, q_v3, q_v4, q_v5, q_v6, q_v7, q_v8, q_v9, q_v10, q_v11, q_v12, q_v13, q_mOp, q_mTest, q_kB, q_kAnd, q_kOr, q_kNot, q_kNeg, q_kChT, q_kChF, q_mTru, q_tAnd, q_tOr, q_tNot, q_tYes, q_eAnd, q_eOr, q_eNot, q_mIf, q_aNil, q_aCons, q_mTup, q_mLst, q_mB, q_mCall, q_mNeg, q_mChain, q_sNil, q_sSeq, q_sExpr, q_sRet, q_sRetN, q_sBk, q_sCt, q_sIf, q_sAsg, q_kPutN, q_sBox, q_kBox, q_sApp, q_sSetI, q_sAug, q_kAug, q_kAug2, q_sFor, q_mRng1, q_kR1, q_kR2, q_mRng2, q_mIt, q_kItL, q_kItT, q_addI, q_addS, q_addT, q_addL, q_sub, q_mul, q_mod, q_fdv, q_pow, q_lt, q_le, q_gt, q_ge, q_iadd, q_isub, q_isN, q_notN, q_isNon_non, q_isNon_int, q_isNon_tup, q_isNon_lst, q_eqI, q_eqS, q_neI, q_neS, q_ixT, q_ixL, q_ixS, q_ixR0, q_int, q_intb, q_lenT, q_lenC, q_lenL, q_min, q_max, q_tupL, q_tupT, q_listL, q_listT, q_truB, q_truI, q_truT, q_truL, q_truN, q_bind, q_toS, q_nx, q_rt, q_bk, q_ct, q_ofO, q_noex, List.set_cons_zero, List.set_cons_succ, List.getElem?_cons_zero, List.getElem?_cons_succ, Option.map_some, Option.bind_some, List.length_cons, List.length_nil, List.map_cons, List.map_nil, Nat.reduceAdd, Nat.reduceSub, Nat.reduceLeDiff, Nat.reduceEqDiff, List.replicate_succ, List.replicate_zero, List.cons_append, List.nil_append, ↓reduceIte, if_true, if_false, Bool.false_eq_true, decide_true, decide_false, Bool.not_true, Bool.not_false, and_self, and_true, true_and, or_true, true_or, not_true_eq_false, not_false_eq_true, q_v14, q_v15, q_v16, q_v17, q_mEnum, q_kEnum, q_mZip, q_kZip, q_mRev, q_kRev, q_aStar, q_kSt, q_pNone, q_pSome, q_kPart, q_mSl, q_kSl2, q_kSl3, q_kCutT, q_kCutL, q_wkL, q_wkT, q_wkS]
  exact leave_head (box_lo _ _ _) (by simp only [D.lo]; exact los_ints _ _)
end Zp
namespace Zp
open PySem L2 Zv PyProof.Rows

/-! rows_of: program word k row -/
noncomputable def M_rows_of : SM :=
    (sRet (mB bTuple (aCons (mLC [2, 3] (mEnum (aCons (mOp dIx (mVar 0) (mC (.int 1))) aNil)) (.tp [(.nm 2), (.nm 3)]) (mTest (mOp dEq (mOp dIx (mVar 3) (mC (.int 0))) (mVar 1))) (mVar 2)) aNil)))
noncomputable def F_rows_of : FM := runF 4 M_rows_of

/-! output_rows: program -/
noncomputable def M_output_rows : SM :=
    (sRet (mCall 2 F_rows_of (aCons (mVar 0) (aCons (mC (.str "out")) aNil))))
noncomputable def F_output_rows : FM := runF 1 M_output_rows

/-! shown: setting program inputs found rows k -/
noncomputable def M_shown : SM :=
    (sSeq (sAsg (.nm 3) (mCall 3 F_values (aCons (mVar 0) (aCons (mVar 1) (aCons (mVar 2) aNil)))))
    (sSeq (sAsg (.nm 4) (mOp dIx (mVar 1) (mC (.int 1))))
    (sRet (mB bTuple (aCons (mLC [5] (mIt (mCall 1 F_output_rows (aCons (mVar 1) aNil))) (.nm 5) tYes (mTup (aCons (mVar 5) (aCons (mOp dIx (mOp dIx (mVar 4) (mVar 5)) (mC (.int 2))) (aCons (mOp dIx (mVar 3) (mOp dIx (mOp dIx (mVar 4) (mVar 5)) (mC (.int 1)))) aNil))))) aNil)))))
noncomputable def F_shown : FM := runF 6 M_shown

/-! _law_shown: setting program inputs found rows k -/
noncomputable def M__law_shown : SM :=
    (sSeq (sAsg (.nm 3) (mCall 3 F__law_values (aCons (mVar 0) (aCons (mVar 1) (aCons (mVar 2) aNil)))))
    (sSeq (sAsg (.nm 4) (mOp dIx (mVar 1) (mC (.int 1))))
    (sRet (mB bTuple (aCons (mLC [5] (mRng1 (aCons (mB bLen (aCons (mVar 4) aNil)) aNil)) (.nm 5) (mTest (mOp dEq (mOp dIx (mOp dIx (mVar 4) (mVar 5)) (mC (.int 0))) (mC (.str "out")))) (mTup (aCons (mVar 5) (aCons (mOp dIx (mOp dIx (mVar 4) (mVar 5)) (mC (.int 2))) (aCons (mOp dIx (mVar 3) (mOp dIx (mOp dIx (mVar 4) (mVar 5)) (mC (.int 1)))) aNil))))) aNil)))))
noncomputable def F__law_shown : FM := runF 6 M__law_shown

/-! sharings: setting row -/
noncomputable def M_sharings : SM :=
    (sSeq (sIf (mTest (mOp dEq (mOp dIx (mVar 1) (mC (.int 0))) (mC (.str "in"))))
    (sRet (mC (.int 1)))
    sNil)
    (sSeq (sIf (mTest (mOp (dInF false) (mOp dIx (mVar 1) (mC (.int 0))) (mTup (aCons (mC (.str "product")) (aCons (mC (.str "kept")) aNil)))))
    (sRet (mOp dIx (mVar 0) (mC (.int 2))))
    sNil)
    (sRet (mC (.int 0)))))
noncomputable def F_sharings : FM := runF 2 M_sharings

/-! coins_of: setting program row -/
noncomputable def M_coins_of : SM :=
    (sRet (mOp dMul (mOp dIx (mVar 0) (mC (.int 3))) (mB bSum (aCons (mLC [2] (mIt (mOp dIx (mVar 1) (mC (.int 1)))) (.nm 2) tYes (mCall 2 F_sharings (aCons (mVar 0) (aCons (mVar 2) aNil)))) aNil))))
noncomputable def F_coins_of : FM := runF 3 M_coins_of

end Zp
namespace Zp
open PySem L2 Zv PyProof.Rows Zn
def Rw.isOut : Rw → Bool
  | .out _ _ => true
  | _ => false
theorem enum_rows : ∀ (rs : List Rw) (k : Nat), enumD k (rs.map Rw.d) = (rs.zipIdx k).map fun q => .tup [.int (q.2 : Int), q.1.d]
  | [], _ => rfl
  | x :: xs, k => by rw [List.map_cons, enumD, enum_rows xs (k + 1), List.zipIdx_cons, List.map_cons]
/-- the places of the rows out -/
def outs (rs : List Rw) : List (Rw × Nat) := rs.zipIdx.filter fun q => q.1.isOut
theorem outs_get {rs : List Rw} {q : Rw × Nat} (h : q ∈ outs rs) : rs[q.2]? = some q.1 ∧ q.1.isOut = true := by
  unfold outs at h
  obtain ⟨h1, h2⟩ := List.mem_filter.mp h
  refine ⟨?_, h2⟩
  obtain ⟨i, hi, e⟩ := List.getElem_of_mem h1
  rw [List.getElem_zipIdx] at e
  have hi2 : i < rs.length := by rw [List.length_zipIdx] at hi; exact hi
  subst e
  simp [hi2]
theorem output_rows_is {st : Store} {rs : List Rw} (hz : rs.length ≤ 1000) : F_output_rows [progD rs] st = .ok (.tup ((outs rs).map fun q => .int (q.2 : Int))) st := by
  have ew : wipeD [some (progD rs), some (.str "out"), none, none] [2, 3] = [some (progD rs), some (.str "out"), none, none] := rfl
  have e := lcL_if (t := .tp [.nm 2, .nm 3]) (tt := mTest (mOp dEq (mOp dIx (mVar 3) (mC (.int 0))) (mVar 1))) (elt := mVar 2) (P := Held []) (es := [some (progD rs), some (.str "out"), none, none]) (st := st) trivial (fun q : Rw × Nat => .tup [.int (q.2 : Int), q.1.d]) (fun q => .int (q.2 : Int)) (fun q => q.1.isOut) rs.zipIdx
    (fun q _ => ⟨[some (progD rs), some (.str "out"), some (.int (q.2 : Int)), some q.1.d], rfl, by cases q.1 <;> simp only [Rw.d, Rw.isOut, at0, w_in_const, w_in_kept, w_in_product, w_in_sum, w_in_less, w_in_times, w_in_out, w_in_next, w_const_in, w_const_kept, w_const_product, w_const_sum, w_const_less, w_const_times, w_const_out, w_const_next, w_kept_in, w_kept_const, w_kept_product, w_kept_sum, w_kept_less, w_kept_times, w_kept_out, w_kept_next, w_product_in, w_product_const, w_product_kept, w_product_sum, w_product_less, w_product_times, w_product_out, w_product_next, w_sum_in, w_sum_const, w_sum_kept, w_sum_product, w_sum_less, w_sum_times, w_sum_out, w_sum_next, w_less_in, w_less_const, w_less_kept, w_less_product, w_less_sum, w_less_times, w_less_out, w_less_next, w_times_in, w_times_const, w_times_kept, w_times_product, w_times_sum, w_times_less, w_times_out, w_times_next, w_out_in, w_out_const, w_out_kept, w_out_product, w_out_sum, w_out_less, w_out_times, w_out_next, w_next_in, w_next_const, w_next_kept, w_next_product, w_next_sum, w_next_less, w_next_times, w_next_out, q_runF, q_kFin, q_kFinN, q_mC, q_v0, q_v1, q_v2, q_v3, q_v4, q_v5, q_v6, q_v7, q_v8, q_v9, q_v10, q_v11, q_v12, q_v13, q_mOp, q_mTest, q_kB, q_kAnd, q_kOr, q_kNot, q_kNeg, q_kChT, q_kChF, q_mTru, q_tAnd, q_tOr, q_tNot, q_tYes, q_eAnd, q_eOr, q_eNot, q_mIf, q_aNil, q_aCons, q_mTup, q_mLst, q_mB, q_mCall, q_mNeg, q_mChain, q_sNil, q_sSeq, q_sExpr, q_sRet, q_sRetN, q_sBk, q_sCt, q_sIf, q_sAsg, q_kPutN, q_sBox, q_kBox, q_sApp, q_sSetI, q_sAug, q_kAug, q_kAug2, q_sFor, q_mRng1, q_kR1, q_kR2, q_mRng2, q_mIt, q_kItL, q_kItT, q_addI, q_addS, q_addT, q_addL, q_sub, q_mul, q_mod, q_fdv, q_pow, q_lt, q_le, q_gt, q_ge, q_iadd, q_isub, q_isN, q_notN, q_isNon_non, q_isNon_int, q_isNon_tup, q_isNon_lst, q_eqI, q_eqS, q_neI, q_neS, q_ixT, q_ixL, q_ixS, q_ixR0, q_int, q_intb, q_lenT, q_lenC, q_lenL, q_min, q_max, q_tupL, q_tupT, q_listL, q_listT, q_truB, q_truI, q_truT, q_truL, q_truN, q_bind, q_toS, q_nx, q_rt, q_bk, q_ct, q_ofO, q_noex, List.set_cons_zero, List.set_cons_succ, List.getElem?_cons_zero, List.getElem?_cons_succ, Option.map_some, Option.bind_some, List.length_cons, List.length_nil, List.map_cons, List.map_nil, Nat.reduceAdd, Nat.reduceSub, Nat.reduceLeDiff, Nat.reduceEqDiff, List.replicate_succ, List.replicate_zero, List.cons_append, List.nil_append, ↓reduceIte, if_true, if_false, Bool.false_eq_true, decide_true, decide_false, Bool.not_true, Bool.not_false, and_self, and_true, true_and, or_true, true_or, not_true_eq_false, not_false_eq_true, q_v14, q_v15, q_v16, q_v17, q_mEnum, q_kEnum, q_mZip, q_kZip, q_mRev, q_kRev, q_aStar, q_kSt, q_pNone, q_pSome, q_kPart, q_mSl, q_kSl2, q_kSl3, q_kCutT, q_kCutL, q_wkL, q_wkT, q_wkS], fun _ => by simp only [q_runF, q_kFin, q_kFinN, q_mC, q_v0, q_v1, q_v2, q_v3, q_v4, q_v5, q_v6, q_v7, q_v8, q_v9, q_v10, q_v11, q_v12, q_v13, q_mOp, q_mTest, q_kB, q_kAnd, q_kOr, q_kNot, q_kNeg, q_kChT, q_kChF, q_mTru, q_tAnd, q_tOr, q_tNot, q_tYes, q_eAnd, q_eOr, q_eNot, q_mIf, q_aNil, q_aCons, q_mTup, q_mLst, q_mB, q_mCall, q_mNeg, q_mChain, q_sNil, q_sSeq, q_sExpr, q_sRet, q_sRetN, q_sBk, q_sCt, q_sIf, q_sAsg, q_kPutN, q_sBox, q_kBox, q_sApp, q_sSetI, q_sAug, q_kAug, q_kAug2, q_sFor, q_mRng1, q_kR1, q_kR2, q_mRng2, q_mIt, q_kItL, q_kItT, q_addI, q_addS, q_addT, q_addL, q_sub, q_mul, q_mod, q_fdv, q_pow, q_lt, q_le, q_gt, q_ge, q_iadd, q_isub, q_isN, q_notN, q_isNon_non, q_isNon_int, q_isNon_tup, q_isNon_lst, q_eqI, q_eqS, q_neI, q_neS, q_ixT, q_ixL, q_ixS, q_ixR0, q_int, q_intb, q_lenT, q_lenC, q_lenL, q_min, q_max, q_tupL, q_tupT, q_listL, q_listT, q_truB, q_truI, q_truT, q_truL, q_truN, q_bind, q_toS, q_nx, q_rt, q_bk, q_ct, q_ofO, q_noex, List.set_cons_zero, List.set_cons_succ, List.getElem?_cons_zero, List.getElem?_cons_succ, Option.map_some, Option.bind_some, List.length_cons, List.length_nil, List.map_cons, List.map_nil, Nat.reduceAdd, Nat.reduceSub, Nat.reduceLeDiff, Nat.reduceEqDiff, List.replicate_succ, List.replicate_zero, List.cons_append, List.nil_append, ↓reduceIte, if_true, if_false, Bool.false_eq_true, decide_true, decide_false, Bool.not_true, Bool.not_false, and_self, and_true, true_and, or_true, true_or, not_true_eq_false, not_false_eq_true, q_v14, q_v15, q_v16, q_v17, q_mEnum, q_kEnum, q_mZip, q_kZip, q_mRev, q_kRev, q_aStar, q_kSt, q_pNone, q_pSome, q_kPart, q_mSl, q_kSl2, q_kSl3, q_kCutT, q_kCutL, q_wkL, q_wkT, q_wkS]⟩)
  have ez : rs.length ≤ sizeLine := by rw [sz]; omega
  have el : ∀ c : Nat, D.los c ((outs rs).map fun q => D.int (q.2 : Int)) = true := fun c => by
    rw [los_iff]
    intro d hd
    obtain ⟨q, _, rfl⟩ := List.mem_map.mp hd
    simp [D.lo]
  have eo : (rs.zipIdx.filter fun q => q.1.isOut) = outs rs := rfl
  have e1 : F_rows_of [progD rs, .str "out"] st = .ok (.tup ((outs rs).map fun q => .int (q.2 : Int))) st := by
    simp only [F_rows_of, M_rows_of, q_mLC, at1, enum_rows, List.length_map, List.length_zipIdx, ez, ew, e, eo, q_runF, q_kFin, q_kFinN, q_mC, q_v0, q_v1, q_v2, q_v3, q_v4, q_v5, q_v6, q_v7, q_v8, q_v9, q_v10, q_v11, q_v12, q_v13, q_mOp, q_mTest, q_kB, q_kAnd, q_kOr, q_kNot, q_kNeg, q_kChT, q_kChF, q_mTru, q_tAnd, q_tOr, q_tNot, q_tYes, q_eAnd, q_eOr, q_eNot, q_mIf, q_aNil, q_aCons, q_mTup, q_mLst, q_mB, q_mCall, q_mNeg, q_mChain, q_sNil, q_sSeq, q_sExpr, q_sRet, q_sRetN, q_sBk, q_sCt, q_sIf, q_sAsg, q_kPutN, q_sBox, q_kBox, q_sApp, q_sSetI, q_sAug, q_kAug, q_kAug2, q_sFor, q_mRng1, q_kR1, q_kR2, q_mRng2, q_mIt, q_kItL, q_kItT, q_addI, q_addS, q_addT, q_addL, q_sub, q_mul, q_mod, q_fdv, q_pow, q_lt, q_le, q_gt, q_ge, q_iadd, q_isub, q_isN, q_notN, q_isNon_non, q_isNon_int, q_isNon_tup, q_isNon_lst, q_eqI, q_eqS, q_neI, q_neS, q_ixT, q_ixL, q_ixS, q_ixR0, q_int, q_intb, q_lenT, q_lenC, q_lenL, q_min, q_max, q_tupL, q_tupT, q_listL, q_listT, q_truB, q_truI, q_truT, q_truL, q_truN, q_bind, q_toS, q_nx, q_rt, q_bk, q_ct, q_ofO, q_noex, List.set_cons_zero, List.set_cons_succ, List.getElem?_cons_zero, List.getElem?_cons_succ, Option.map_some, Option.bind_some, List.length_cons, List.length_nil, List.map_cons, List.map_nil, Nat.reduceAdd, Nat.reduceSub, Nat.reduceLeDiff, Nat.reduceEqDiff, List.replicate_succ, List.replicate_zero, List.cons_append, List.nil_append, ↓reduceIte, if_true, if_false, Bool.false_eq_true, decide_true, decide_false, Bool.not_true, Bool.not_false, and_self, and_true, true_and, or_true, true_or, not_true_eq_false, not_false_eq_true, q_v14, q_v15, q_v16, q_v17, q_mEnum, q_kEnum, q_mZip, q_kZip, q_mRev, q_kRev, q_aStar, q_kSt, q_pNone, q_pSome, q_kPart, q_mSl, q_kSl2, q_kSl3, q_kCutT, q_kCutL, q_wkL, q_wkT, q_wkS]
    exact leave_same (by simp only [D.lo]; exact el _)
  simp only [F_output_rows, M_output_rows, e1, q_runF, q_kFin, q_kFinN, q_mC, q_v0, q_v1, q_v2, q_v3, q_v4, q_v5, q_v6, q_v7, q_v8, q_v9, q_v10, q_v11, q_v12, q_v13, q_mOp, q_mTest, q_kB, q_kAnd, q_kOr, q_kNot, q_kNeg, q_kChT, q_kChF, q_mTru, q_tAnd, q_tOr, q_tNot, q_tYes, q_eAnd, q_eOr, q_eNot, q_mIf, q_aNil, q_aCons, q_mTup, q_mLst, q_mB, q_mCall, q_mNeg, q_mChain, q_sNil, q_sSeq, q_sExpr, q_sRet, q_sRetN, q_sBk, q_sCt, q_sIf, q_sAsg, q_kPutN, q_sBox, q_kBox, q_sApp, q_sSetI, q_sAug, q_kAug, q_kAug2, q_sFor, q_mRng1, q_kR1, q_kR2, q_mRng2, q_mIt, q_kItL, q_kItT, q_addI, q_addS, q_addT, q_addL, q_sub, q_mul, q_mod, q_fdv, q_pow, q_lt, q_le, q_gt, q_ge, q_iadd, q_isub, q_isN, q_notN, q_isNon_non, q_isNon_int, q_isNon_tup, q_isNon_lst, q_eqI, q_eqS, q_neI, q_neS, q_ixT, q_ixL, q_ixS, q_ixR0, q_int, q_intb, q_lenT, q_lenC, q_lenL, q_min, q_max, q_tupL, q_tupT, q_listL, q_listT, q_truB, q_truI, q_truT, q_truL, q_truN, q_bind, q_toS, q_nx, q_rt, q_bk, q_ct, q_ofO, q_noex, List.set_cons_zero, List.set_cons_succ, List.getElem?_cons_zero, List.getElem?_cons_succ, Option.map_some, Option.bind_some, List.length_cons, List.length_nil, List.map_cons, List.map_nil, Nat.reduceAdd, Nat.reduceSub, Nat.reduceLeDiff, Nat.reduceEqDiff, List.replicate_succ, List.replicate_zero, List.cons_append, List.nil_append, ↓reduceIte, if_true, if_false, Bool.false_eq_true, decide_true, decide_false, Bool.not_true, Bool.not_false, and_self, and_true, true_and, or_true, true_or, not_true_eq_false, not_false_eq_true, q_v14, q_v15, q_v16, q_v17, q_mEnum, q_kEnum, q_mZip, q_kZip, q_mRev, q_kRev, q_aStar, q_kSt, q_pNone, q_pSome, q_kPart, q_mSl, q_kSl2, q_kSl3, q_kCutT, q_kCutL, q_wkL, q_wkT, q_wkS]
  exact leave_same (by simp only [D.lo]; exact el _)
/-- what is shown: (the row, its party, the value) -/
def tellO (f : List (Option Int)) (q : Rw × Nat) : D := match q.1 with
  | .out a b => .tup [.int (q.2 : Int), .int b, .int (gv f a)]
  | _ => .non
theorem tell_lo (c : Nat) (f : List (Option Int)) (q : Rw × Nat) : (tellO f q).lo c = true := by
  unfold tellO
  split <;> simp [D.lo, D.los]
theorem atI_map {α : Type} {f : α → D} {xs : List α} {k : Nat} {x : α} (h : xs[k]? = some x) : atI (xs.map f) (k : Int) = some (f x) := L2.atI_nat (by rw [List.getElem?_map, h]; rfl)
theorem shown_is {st : Store} {p n t : Int} {ins : List Int} {rs : List Rw} (hp : 0 < p) (hp2 : p < 20000) (hz : rs.length ≤ 1000) (hin : ins.length = (rs.filter Rw.isIn).length) (href : ∀ (i : Nat) (r : Rw), rs[i]? = some r → ∀ a ∈ r.refs, Has p (vals p ins (rs.take i)).1 a)
    (hall : ∀ (i : Nat) (r : Rw), rs[i]? = some r → ∀ a ∈ r.refs, Has p (vals p ins rs).1 a) :
    F_shown [settD p n t, progD rs, itup ins] st = .ok (.tup ((outs rs).map (tellO (vals p ins rs).1))) st := by
  have e1 := values_is (st := st) (n := n) (t := t) hp hp2 hz hin href
  obtain ⟨f, hf⟩ : ∃ f, (vals p ins rs).1 = f := ⟨_, rfl⟩
  rw [hf] at e1 hall ⊢
  have e2 := output_rows_is (st := st) hz
  have z3 : 3 ≤ sizeLine := by rw [sz]; omega
  have e := lcL_map (t := .nm 5) (tt := tYes) (elt := mTup (aCons (mVar 5) (aCons (mOp dIx (mOp dIx (mVar 4) (mVar 5)) (mC (.int 2))) (aCons (mOp dIx (mVar 3) (mOp dIx (mOp dIx (mVar 4) (mVar 5)) (mC (.int 1)))) aNil)))) (P := Held []) (es := [some (settD p n t), some (progD rs), some (itup ins), some (.tup (f.map oD)), some (.tup (rs.map Rw.d)), none]) (st := st) trivial
    (fun q : Rw × Nat => .int (q.2 : Int)) (tellO f) (outs rs) (fun q hq => by
      obtain ⟨h1, h2⟩ := outs_get hq
      refine ⟨[some (settD p n t), some (progD rs), some (itup ins), some (.tup (f.map oD)), some (.tup (rs.map Rw.d)), some (.int (q.2 : Int))], rfl, by simp only [q_runF, q_kFin, q_kFinN, q_mC, q_v0, q_v1, q_v2, q_v3, q_v4, q_v5, q_v6, q_v7, q_v8, q_v9, q_v10, q_v11, q_v12, q_v13, q_mOp, q_mTest, q_kB, q_kAnd, q_kOr, q_kNot, q_kNeg, q_kChT, q_kChF, q_mTru, q_tAnd, q_tOr, q_tNot, q_tYes, q_eAnd, q_eOr, q_eNot, q_mIf, q_aNil, q_aCons, q_mTup, q_mLst, q_mB, q_mCall, q_mNeg, q_mChain, q_sNil, q_sSeq, q_sExpr, q_sRet, q_sRetN, q_sBk, q_sCt, q_sIf, q_sAsg, q_kPutN, q_sBox, q_kBox, q_sApp, q_sSetI, q_sAug, q_kAug, q_kAug2, q_sFor, q_mRng1, q_kR1, q_kR2, q_mRng2, q_mIt, q_kItL, q_kItT, q_addI, q_addS, q_addT, q_addL, q_sub, q_mul, q_mod, q_fdv, q_pow, q_lt, q_le, q_gt, q_ge, q_iadd, q_isub, q_isN, q_notN, q_isNon_non, q_isNon_int, q_isNon_tup, q_isNon_lst, q_eqI, q_eqS, q_neI, q_neS, q_ixT, q_ixL, q_ixS, q_ixR0, q_int, q_intb, q_lenT, q_lenC, q_lenL, q_min, q_max, q_tupL, q_tupT, q_listL, q_listT, q_truB, q_truI, q_truT, q_truL, q_truN, q_bind, q_toS, q_nx, q_rt, q_bk, q_ct, q_ofO, q_noex, List.set_cons_zero, List.set_cons_succ, List.getElem?_cons_zero, List.getElem?_cons_succ, Option.map_some, Option.bind_some, List.length_cons, List.length_nil, List.map_cons, List.map_nil, Nat.reduceAdd, Nat.reduceSub, Nat.reduceLeDiff, Nat.reduceEqDiff, List.replicate_succ, List.replicate_zero, List.cons_append, List.nil_append, ↓reduceIte, if_true, if_false, Bool.false_eq_true, decide_true, decide_false, Bool.not_true, Bool.not_false, and_self, and_true, true_and, or_true, true_or, not_true_eq_false, not_false_eq_true, q_v14, q_v15, q_v16, q_v17, q_mEnum, q_kEnum, q_mZip, q_kZip, q_mRev, q_kRev, q_aStar, q_kSt, q_pNone, q_pSome, q_kPart, q_mSl, q_kSl2, q_kSl3, q_kCutT, q_kCutL, q_wkL, q_wkT, q_wkS], ?_⟩
      obtain ⟨r, k⟩ := q
      cases r with
      | out a b =>
        have a1 := atI_map (f := Rw.d) h1
        have hg := (hall _ _ h1 a (by simp [Rw.refs])).gv.1
        have a2 := atI_map (f := oD) hg
        simp only [Rw.d] at a1
        simp only [oD] at a2
        simp only [a1, a2, at1, at2, z3, tellO, q_runF, q_kFin, q_kFinN, q_mC, q_v0, q_v1, q_v2, q_v3, q_v4, q_v5, q_v6, q_v7, q_v8, q_v9, q_v10, q_v11, q_v12, q_v13, q_mOp, q_mTest, q_kB, q_kAnd, q_kOr, q_kNot, q_kNeg, q_kChT, q_kChF, q_mTru, q_tAnd, q_tOr, q_tNot, q_tYes, q_eAnd, q_eOr, q_eNot, q_mIf, q_aNil, q_aCons, q_mTup, q_mLst, q_mB, q_mCall, q_mNeg, q_mChain, q_sNil, q_sSeq, q_sExpr, q_sRet, q_sRetN, q_sBk, q_sCt, q_sIf, q_sAsg, q_kPutN, q_sBox, q_kBox, q_sApp, q_sSetI, q_sAug, q_kAug, q_kAug2, q_sFor, q_mRng1, q_kR1, q_kR2, q_mRng2, q_mIt, q_kItL, q_kItT, q_addI, q_addS, q_addT, q_addL, q_sub, q_mul, q_mod, q_fdv, q_pow, q_lt, q_le, q_gt, q_ge, q_iadd, q_isub, q_isN, q_notN, q_isNon_non, q_isNon_int, q_isNon_tup, q_isNon_lst, q_eqI, q_eqS, q_neI, q_neS, q_ixT, q_ixL, q_ixS, q_ixR0, q_int, q_intb, q_lenT, q_lenC, q_lenL, q_min, q_max, q_tupL, q_tupT, q_listL, q_listT, q_truB, q_truI, q_truT, q_truL, q_truN, q_bind, q_toS, q_nx, q_rt, q_bk, q_ct, q_ofO, q_noex, List.set_cons_zero, List.set_cons_succ, List.getElem?_cons_zero, List.getElem?_cons_succ, Option.map_some, Option.bind_some, List.length_cons, List.length_nil, List.map_cons, List.map_nil, Nat.reduceAdd, Nat.reduceSub, Nat.reduceLeDiff, Nat.reduceEqDiff, List.replicate_succ, List.replicate_zero, List.cons_append, List.nil_append, ↓reduceIte, if_true, if_false, Bool.false_eq_true, decide_true, decide_false, Bool.not_true, Bool.not_false, and_self, and_true, true_and, or_true, true_or, not_true_eq_false, not_false_eq_true, q_v14, q_v15, q_v16, q_v17, q_mEnum, q_kEnum, q_mZip, q_kZip, q_mRev, q_kRev, q_aStar, q_kSt, q_pNone, q_pSome, q_kPart, q_mSl, q_kSl2, q_kSl3, q_kCutT, q_kCutL, q_wkL, q_wkT, q_wkS]
      | _ => cases h2)
  have hlo : (outs rs).length ≤ rs.length := by unfold outs; exact Nat.le_trans (List.length_filter_le _ _) (by rw [List.length_zipIdx]; exact Nat.le_refl _)
  have ez : (outs rs).length ≤ sizeLine := by rw [sz]; omega
  have ew : wipeD [some (settD p n t), some (progD rs), some (itup ins), some (.tup (f.map oD)), some (.tup (rs.map Rw.d)), none] [5] = [some (settD p n t), some (progD rs), some (itup ins), some (.tup (f.map oD)), some (.tup (rs.map Rw.d)), none] := rfl
  simp only [F_shown, M_shown, e1, e2, at1, q_mLC, List.length_map, ez, ew, e, q_runF, q_kFin, q_kFinN, q_mC, q_v0, q_v1, q_v2, q_v3, q_v4, q_v5, q_v6, q_v7, q_v8, q_v9, q_v10, q_v11, q_v12, q_v13, q_mOp, q_mTest, q_kB, q_kAnd, q_kOr, q_kNot, q_kNeg, q_kChT, q_kChF, q_mTru, q_tAnd, q_tOr, q_tNot, q_tYes, q_eAnd, q_eOr, q_eNot, q_mIf, q_aNil, q_aCons, q_mTup, q_mLst, q_mB, q_mCall, q_mNeg, q_mChain, q_sNil, q_sSeq, q_sExpr, q_sRet, q_sRetN, q_sBk, q_sCt, q_sIf, q_sAsg, q_kPutN, q_sBox, q_kBox, q_sApp, q_sSetI, q_sAug, q_kAug, q_kAug2, q_sFor, q_mRng1, q_kR1, q_kR2, q_mRng2, q_mIt, q_kItL, q_kItT, q_addI, q_addS, q_addT, q_addL, q_sub, q_mul, q_mod, q_fdv, q_pow, q_lt, q_le, q_gt, q_ge, q_iadd, q_isub, q_isN, q_notN, q_isNon_non, q_isNon_int, q_isNon_tup, q_isNon_lst, q_eqI, q_eqS, q_neI, q_neS, q_ixT, q_ixL, q_ixS, q_ixR0, q_int, q_intb, q_lenT, q_lenC, q_lenL, q_min, q_max, q_tupL, q_tupT, q_listL, q_listT, q_truB, q_truI, q_truT, q_truL, q_truN, q_bind, q_toS, q_nx, q_rt, q_bk, q_ct, q_ofO, q_noex, List.set_cons_zero, List.set_cons_succ, List.getElem?_cons_zero, List.getElem?_cons_succ, Option.map_some, Option.bind_some, List.length_cons, List.length_nil, List.map_cons, List.map_nil, Nat.reduceAdd, Nat.reduceSub, Nat.reduceLeDiff, Nat.reduceEqDiff, List.replicate_succ, List.replicate_zero, List.cons_append, List.nil_append, ↓reduceIte, if_true, if_false, Bool.false_eq_true, decide_true, decide_false, Bool.not_true, Bool.not_false, and_self, and_true, true_and, or_true, true_or, not_true_eq_false, not_false_eq_true, q_v14, q_v15, q_v16, q_v17, q_mEnum, q_kEnum, q_mZip, q_kZip, q_mRev, q_kRev, q_aStar, q_kSt, q_pNone, q_pSome, q_kPart, q_mSl, q_kSl2, q_kSl3, q_kCutT, q_kCutL, q_wkL, q_wkT, q_wkS]
  refine leave_same ?_
  simp only [D.lo]
  rw [los_iff]
  intro d hd
  obtain ⟨q, _, rfl⟩ := List.mem_map.mp hd
  exact tell_lo _ _ _
theorem zip_range (rs : List Rw) : rs.zipIdx = (List.range rs.length).map fun i => (rs[i]?.getD .nxt, i) := by
  apply List.ext_getElem?
  intro i
  rw [List.getElem?_zipIdx, List.getElem?_map]
  by_cases c : i < rs.length
  · rw [List.getElem?_range c, List.getElem?_eq_getElem c]
    simp [c]
  · rw [List.getElem?_eq_none (by omega), List.getElem?_eq_none (by simp; omega)]
    rfl
theorem lshown_is {st : Store} {p n t : Int} {ins : List Int} {rs : List Rw} (hp : 0 < p) (hp2 : p < 20000) (hz : rs.length ≤ 1000) (hin : ins.length = (rs.filter Rw.isIn).length) (href : ∀ (i : Nat) (r : Rw), rs[i]? = some r → ∀ a ∈ r.refs, Has p (vals p ins (rs.take i)).1 a)
    (hall : ∀ (i : Nat) (r : Rw), rs[i]? = some r → ∀ a ∈ r.refs, Has p (vals p ins rs).1 a) :
    F__law_shown [settD p n t, progD rs, itup ins] st = .ok (.tup ((outs rs).map (tellO (vals p ins rs).1))) st := by
  have e1 := lvalues_is (st := st) (n := n) (t := t) hp hp2 hz hin href
  obtain ⟨f, hf⟩ : ∃ f, (vals p ins rs).1 = f := ⟨_, rfl⟩
  rw [hf] at e1 hall ⊢
  have z3 : 3 ≤ sizeLine := by rw [sz]; omega
  have e := lcL_if (t := .nm 5) (tt := mTest (mOp dEq (mOp dIx (mOp dIx (mVar 4) (mVar 5)) (mC (.int 0))) (mC (.str "out")))) (elt := mTup (aCons (mVar 5) (aCons (mOp dIx (mOp dIx (mVar 4) (mVar 5)) (mC (.int 2))) (aCons (mOp dIx (mVar 3) (mOp dIx (mOp dIx (mVar 4) (mVar 5)) (mC (.int 1)))) aNil)))) (P := Held []) (es := [some (settD p n t), some (progD rs), some (itup ins), some (.lst (f.map oD)), some (.tup (rs.map Rw.d)), none]) (st := st) trivial
    (fun i : Nat => .int (0 + (i : Int))) (fun i => tellO f (rs[i]?.getD .nxt, i)) (fun i => (rs[i]?.getD .nxt).isOut) (List.range rs.length) (fun i hi => by
      have hi' := List.mem_range.mp hi
      have h1 : rs[i]? = some rs[i] := List.getElem?_eq_getElem hi'
      obtain ⟨r, hr⟩ : ∃ r, rs[i] = r := ⟨_, rfl⟩
      rw [hr] at h1
      have eg : rs[i]?.getD .nxt = r := by rw [h1]; rfl
      have a1 := atI_map (f := Rw.d) h1
      have e0 : (0 : Int) + (i : Int) = (i : Int) := Int.zero_add _
      rw [eg, e0]
      refine ⟨[some (settD p n t), some (progD rs), some (itup ins), some (.lst (f.map oD)), some (.tup (rs.map Rw.d)), some (.int (i : Int))], rfl, ?_, fun hg => ?_⟩
      · cases r <;> (simp only [Rw.d] at a1; simp only [a1, Rw.isOut, at0, w_in_const, w_in_kept, w_in_product, w_in_sum, w_in_less, w_in_times, w_in_out, w_in_next, w_const_in, w_const_kept, w_const_product, w_const_sum, w_const_less, w_const_times, w_const_out, w_const_next, w_kept_in, w_kept_const, w_kept_product, w_kept_sum, w_kept_less, w_kept_times, w_kept_out, w_kept_next, w_product_in, w_product_const, w_product_kept, w_product_sum, w_product_less, w_product_times, w_product_out, w_product_next, w_sum_in, w_sum_const, w_sum_kept, w_sum_product, w_sum_less, w_sum_times, w_sum_out, w_sum_next, w_less_in, w_less_const, w_less_kept, w_less_product, w_less_sum, w_less_times, w_less_out, w_less_next, w_times_in, w_times_const, w_times_kept, w_times_product, w_times_sum, w_times_less, w_times_out, w_times_next, w_out_in, w_out_const, w_out_kept, w_out_product, w_out_sum, w_out_less, w_out_times, w_out_next, w_next_in, w_next_const, w_next_kept, w_next_product, w_next_sum, w_next_less, w_next_times, w_next_out, q_runF, q_kFin, q_kFinN, q_mC, q_v0, q_v1, q_v2, q_v3, q_v4, q_v5, q_v6, q_v7, q_v8, q_v9, q_v10, q_v11, q_v12, q_v13, q_mOp, q_mTest, q_kB, q_kAnd, q_kOr, q_kNot, q_kNeg, q_kChT, q_kChF, q_mTru, q_tAnd, q_tOr, q_tNot, q_tYes, q_eAnd, q_eOr, q_eNot, q_mIf, q_aNil, q_aCons, q_mTup, q_mLst, q_mB, q_mCall, q_mNeg, q_mChain, q_sNil, q_sSeq, q_sExpr, q_sRet, q_sRetN, q_sBk, q_sCt, q_sIf, q_sAsg, q_kPutN, q_sBox, q_kBox, q_sApp, q_sSetI, q_sAug, q_kAug, q_kAug2, q_sFor, q_mRng1, q_kR1, q_kR2, q_mRng2, q_mIt, q_kItL, q_kItT, q_addI, q_addS, q_addT, q_addL, q_sub, q_mul, q_mod, q_fdv, q_pow, q_lt, q_le, q_gt, q_ge, q_iadd, q_isub, q_isN, q_notN, q_isNon_non, q_isNon_int, q_isNon_tup, q_isNon_lst, q_eqI, q_eqS, q_neI, q_neS, q_ixT, q_ixL, q_ixS, q_ixR0, q_int, q_intb, q_lenT, q_lenC, q_lenL, q_min, q_max, q_tupL, q_tupT, q_listL, q_listT, q_truB, q_truI, q_truT, q_truL, q_truN, q_bind, q_toS, q_nx, q_rt, q_bk, q_ct, q_ofO, q_noex, List.set_cons_zero, List.set_cons_succ, List.getElem?_cons_zero, List.getElem?_cons_succ, Option.map_some, Option.bind_some, List.length_cons, List.length_nil, List.map_cons, List.map_nil, Nat.reduceAdd, Nat.reduceSub, Nat.reduceLeDiff, Nat.reduceEqDiff, List.replicate_succ, List.replicate_zero, List.cons_append, List.nil_append, ↓reduceIte, if_true, if_false, Bool.false_eq_true, decide_true, decide_false, Bool.not_true, Bool.not_false, and_self, and_true, true_and, or_true, true_or, not_true_eq_false, not_false_eq_true, q_v14, q_v15, q_v16, q_v17, q_mEnum, q_kEnum, q_mZip, q_kZip, q_mRev, q_kRev, q_aStar, q_kSt, q_pNone, q_pSome, q_kPart, q_mSl, q_kSl2, q_kSl3, q_kCutT, q_kCutL, q_wkL, q_wkT, q_wkS])
      · cases r with
        | out a b =>
          have hg2 := (hall _ _ h1 a (by simp [Rw.refs])).gv.1
          have a2 := atI_map (f := oD) hg2
          simp only [Rw.d] at a1
          simp only [oD] at a2
          simp only [a1, a2, at1, at2, z3, tellO, q_runF, q_kFin, q_kFinN, q_mC, q_v0, q_v1, q_v2, q_v3, q_v4, q_v5, q_v6, q_v7, q_v8, q_v9, q_v10, q_v11, q_v12, q_v13, q_mOp, q_mTest, q_kB, q_kAnd, q_kOr, q_kNot, q_kNeg, q_kChT, q_kChF, q_mTru, q_tAnd, q_tOr, q_tNot, q_tYes, q_eAnd, q_eOr, q_eNot, q_mIf, q_aNil, q_aCons, q_mTup, q_mLst, q_mB, q_mCall, q_mNeg, q_mChain, q_sNil, q_sSeq, q_sExpr, q_sRet, q_sRetN, q_sBk, q_sCt, q_sIf, q_sAsg, q_kPutN, q_sBox, q_kBox, q_sApp, q_sSetI, q_sAug, q_kAug, q_kAug2, q_sFor, q_mRng1, q_kR1, q_kR2, q_mRng2, q_mIt, q_kItL, q_kItT, q_addI, q_addS, q_addT, q_addL, q_sub, q_mul, q_mod, q_fdv, q_pow, q_lt, q_le, q_gt, q_ge, q_iadd, q_isub, q_isN, q_notN, q_isNon_non, q_isNon_int, q_isNon_tup, q_isNon_lst, q_eqI, q_eqS, q_neI, q_neS, q_ixT, q_ixL, q_ixS, q_ixR0, q_int, q_intb, q_lenT, q_lenC, q_lenL, q_min, q_max, q_tupL, q_tupT, q_listL, q_listT, q_truB, q_truI, q_truT, q_truL, q_truN, q_bind, q_toS, q_nx, q_rt, q_bk, q_ct, q_ofO, q_noex, List.set_cons_zero, List.set_cons_succ, List.getElem?_cons_zero, List.getElem?_cons_succ, Option.map_some, Option.bind_some, List.length_cons, List.length_nil, List.map_cons, List.map_nil, Nat.reduceAdd, Nat.reduceSub, Nat.reduceLeDiff, Nat.reduceEqDiff, List.replicate_succ, List.replicate_zero, List.cons_append, List.nil_append, ↓reduceIte, if_true, if_false, Bool.false_eq_true, decide_true, decide_false, Bool.not_true, Bool.not_false, and_self, and_true, true_and, or_true, true_or, not_true_eq_false, not_false_eq_true, q_v14, q_v15, q_v16, q_v17, q_mEnum, q_kEnum, q_mZip, q_kZip, q_mRev, q_kRev, q_aStar, q_kSt, q_pNone, q_pSome, q_kPart, q_mSl, q_kSl2, q_kSl3, q_kCutT, q_kCutL, q_wkL, q_wkT, q_wkS]
        | _ => cases hg)
  have em : ((List.range rs.length).filter fun i => (rs[i]?.getD .nxt).isOut).map (fun i => tellO f (rs[i]?.getD .nxt, i)) = (outs rs).map (tellO f) := by
    unfold outs
    rw [zip_range, List.filter_map, List.map_map]
    rfl
  rw [em] at e
  have er : (List.range rs.length).map (fun i : Nat => D.int (0 + (i : Int))) = rngD 0 rs.length := rfl
  rw [er] at e
  have ez : (rngD 0 rs.length).length ≤ sizeLine := by unfold rngD; rw [List.length_map, List.length_range, sz]; omega
  have wr : -(2 ^ 62) ≤ (rs.length : Int) ∧ (rs.length : Int) < 2 ^ 62 := by constructor <;> omega
  have ew : wipeD [some (settD p n t), some (progD rs), some (itup ins), some (.lst (f.map oD)), some (.tup (rs.map Rw.d)), none] [5] = [some (settD p n t), some (progD rs), some (itup ins), some (.lst (f.map oD)), some (.tup (rs.map Rw.d)), none] := rfl
  simp only [F__law_shown, M__law_shown, e1, at1, q_mLC, List.length_map, wr, Int.toNat_natCast, ez, ew, e, q_runF, q_kFin, q_kFinN, q_mC, q_v0, q_v1, q_v2, q_v3, q_v4, q_v5, q_v6, q_v7, q_v8, q_v9, q_v10, q_v11, q_v12, q_v13, q_mOp, q_mTest, q_kB, q_kAnd, q_kOr, q_kNot, q_kNeg, q_kChT, q_kChF, q_mTru, q_tAnd, q_tOr, q_tNot, q_tYes, q_eAnd, q_eOr, q_eNot, q_mIf, q_aNil, q_aCons, q_mTup, q_mLst, q_mB, q_mCall, q_mNeg, q_mChain, q_sNil, q_sSeq, q_sExpr, q_sRet, q_sRetN, q_sBk, q_sCt, q_sIf, q_sAsg, q_kPutN, q_sBox, q_kBox, q_sApp, q_sSetI, q_sAug, q_kAug, q_kAug2, q_sFor, q_mRng1, q_kR1, q_kR2, q_mRng2, q_mIt, q_kItL, q_kItT, q_addI, q_addS, q_addT, q_addL, q_sub, q_mul, q_mod, q_fdv, q_pow, q_lt, q_le, q_gt, q_ge, q_iadd, q_isub, q_isN, q_notN, q_isNon_non, q_isNon_int, q_isNon_tup, q_isNon_lst, q_eqI, q_eqS, q_neI, q_neS, q_ixT, q_ixL, q_ixS, q_ixR0, q_int, q_intb, q_lenT, q_lenC, q_lenL, q_min, q_max, q_tupL, q_tupT, q_listL, q_listT, q_truB, q_truI, q_truT, q_truL, q_truN, q_bind, q_toS, q_nx, q_rt, q_bk, q_ct, q_ofO, q_noex, List.set_cons_zero, List.set_cons_succ, List.getElem?_cons_zero, List.getElem?_cons_succ, Option.map_some, Option.bind_some, List.length_cons, List.length_nil, List.map_cons, List.map_nil, Nat.reduceAdd, Nat.reduceSub, Nat.reduceLeDiff, Nat.reduceEqDiff, List.replicate_succ, List.replicate_zero, List.cons_append, List.nil_append, ↓reduceIte, if_true, if_false, Bool.false_eq_true, decide_true, decide_false, Bool.not_true, Bool.not_false, and_self, and_true, true_and, or_true, true_or, not_true_eq_false, not_false_eq_true, q_v14, q_v15, q_v16, q_v17, q_mEnum, q_kEnum, q_mZip, q_kZip, q_mRev, q_kRev, q_aStar, q_kSt, q_pNone, q_pSome, q_kPart, q_mSl, q_kSl2, q_kSl3, q_kCutT, q_kCutL, q_wkL, q_wkT, q_wkS]
  refine leave_same ?_
  simp only [D.lo]
  rw [los_iff]
  intro d hd
  obtain ⟨q, _, rfl⟩ := List.mem_map.mp hd
  exact tell_lo _ _ _
/-! ## coins -/
def shr (n : Int) : Rw → Int
  | .inp _ => 1
  | .kep _ => n
  | .pro _ _ => n
  | _ => 0
theorem sharings_is {st : Store} {p n t : Int} {r : Rw} : F_sharings [settD p n t, r.d] st = .ok (.int (shr n r)) st := by
  have z2 : 2 ≤ sizeLine := by rw [sz]; omega
  have y : ∀ s : Str, dInF false st (.str s) (.tup [.str "product", .str "kept"]) = some (.bl (decide (s ∈ (["product", "kept"] : List Str)))) := fun s => q_inFS (ss := ["product", "kept"]) (neg := false)
  have y2 : decide (("const" : Str) ∈ (["product", "kept"] : List Str)) = false := by decide
  have y3 : decide (("kept" : Str) ∈ (["product", "kept"] : List Str)) = true := by decide
  have y4 : decide (("product" : Str) ∈ (["product", "kept"] : List Str)) = true := by decide
  have y5 : decide (("sum" : Str) ∈ (["product", "kept"] : List Str)) = false := by decide
  have y6 : decide (("less" : Str) ∈ (["product", "kept"] : List Str)) = false := by decide
  have y7 : decide (("times" : Str) ∈ (["product", "kept"] : List Str)) = false := by decide
  have y8 : decide (("out" : Str) ∈ (["product", "kept"] : List Str)) = false := by decide
  have y9 : decide (("next" : Str) ∈ (["product", "kept"] : List Str)) = false := by decide
  cases r
  all_goals
    simp only [F_sharings, M_sharings, Rw.d, shr, at0, at2, z2, y, y2, y3, y4, y5, y6, y7, y8, y9, w_in_const, w_in_kept, w_in_product, w_in_sum, w_in_less, w_in_times, w_in_out, w_in_next, w_const_in, w_const_kept, w_const_product, w_const_sum, w_const_less, w_const_times, w_const_out, w_const_next, w_kept_in, w_kept_const, w_kept_product, w_kept_sum, w_kept_less, w_kept_times, w_kept_out, w_kept_next, w_product_in, w_product_const, w_product_kept, w_product_sum, w_product_less, w_product_times, w_product_out, w_product_next, w_sum_in, w_sum_const, w_sum_kept, w_sum_product, w_sum_less, w_sum_times, w_sum_out, w_sum_next, w_less_in, w_less_const, w_less_kept, w_less_product, w_less_sum, w_less_times, w_less_out, w_less_next, w_times_in, w_times_const, w_times_kept, w_times_product, w_times_sum, w_times_less, w_times_out, w_times_next, w_out_in, w_out_const, w_out_kept, w_out_product, w_out_sum, w_out_less, w_out_times, w_out_next, w_next_in, w_next_const, w_next_kept, w_next_product, w_next_sum, w_next_less, w_next_times, w_next_out, q_runF, q_kFin, q_kFinN, q_mC, q_v0, q_v1, q_v2, q_v3, q_v4, q_v5, q_v6, q_v7, q_v8, q_v9, q_v10, q_v11, q_v12, q_v13, q_mOp, q_mTest, q_kB, q_kAnd, q_kOr, q_kNot, q_kNeg, q_kChT, q_kChF, q_mTru, q_tAnd, q_tOr, q_tNot, q_tYes, q_eAnd, q_eOr, q_eNot, q_mIf, q_aNil, q_aCons, q_mTup, q_mLst, q_mB, q_mCall, q_mNeg, q_mChain, q_sNil, q_sSeq, q_sExpr, q_sRet, q_sRetN, q_sBk, q_sCt, q_sIf, q_sAsg, q_kPutN, q_sBox, q_kBox, q_sApp, q_sSetI, q_sAug, q_kAug, q_kAug2, q_sFor, q_mRng1, q_kR1, q_kR2, q_mRng2, q_mIt, q_kItL, q_kItT, q_addI, q_addS, q_addT, q_addL, q_sub, q_mul, q_mod, q_fdv, q_pow, q_lt, q_le, q_gt, q_ge, q_iadd, q_isub, q_isN, q_notN, q_isNon_non, q_isNon_int, q_isNon_tup, q_isNon_lst, q_eqI, q_eqS, q_neI, q_neS, q_ixT, q_ixL, q_ixS, q_ixR0, q_int, q_intb, q_lenT, q_lenC, q_lenL, q_min, q_max, q_tupL, q_tupT, q_listL, q_listT, q_truB, q_truI, q_truT, q_truL, q_truN, q_bind, q_toS, q_nx, q_rt, q_bk, q_ct, q_ofO, q_noex, List.set_cons_zero, List.set_cons_succ, List.getElem?_cons_zero, List.getElem?_cons_succ, Option.map_some, Option.bind_some, List.length_cons, List.length_nil, List.map_cons, List.map_nil, Nat.reduceAdd, Nat.reduceSub, Nat.reduceLeDiff, Nat.reduceEqDiff, List.replicate_succ, List.replicate_zero, List.cons_append, List.nil_append, ↓reduceIte, if_true, if_false, Bool.false_eq_true, decide_true, decide_false, Bool.not_true, Bool.not_false, and_self, and_true, true_and, or_true, true_or, not_true_eq_false, not_false_eq_true, q_v14, q_v15, q_v16, q_v17, q_mEnum, q_kEnum, q_mZip, q_kZip, q_mRev, q_kRev, q_aStar, q_kSt, q_pNone, q_pSome, q_kPart, q_mSl, q_kSl2, q_kSl3, q_kCutT, q_kCutL, q_wkL, q_wkT, q_wkS]
    exact leave_same (by simp [D.lo])
theorem coins_of_is {st : Store} {p n t : Int} {rs : List Rw} (hz : rs.length ≤ 1000) (ht : 0 ≤ t) (ht2 : t < 1000) : F_coins_of [settD p n t, progD rs] st = .ok (.int (t * (rs.map (shr n)).sum)) st := by
  have e := lcL_map (t := .nm 2) (tt := tYes) (elt := mCall 2 F_sharings (aCons (mVar 0) (aCons (mVar 2) aNil))) (P := Held []) (es := [some (settD p n t), some (progD rs), none]) (st := st) trivial Rw.d (fun r => .int (shr n r)) rs
    (fun r _ => by
      have e1 := sharings_is (st := st) (p := p) (n := n) (t := t) (r := r)
      exact ⟨[some (settD p n t), some (progD rs), some r.d], rfl, by simp only [q_runF, q_kFin, q_kFinN, q_mC, q_v0, q_v1, q_v2, q_v3, q_v4, q_v5, q_v6, q_v7, q_v8, q_v9, q_v10, q_v11, q_v12, q_v13, q_mOp, q_mTest, q_kB, q_kAnd, q_kOr, q_kNot, q_kNeg, q_kChT, q_kChF, q_mTru, q_tAnd, q_tOr, q_tNot, q_tYes, q_eAnd, q_eOr, q_eNot, q_mIf, q_aNil, q_aCons, q_mTup, q_mLst, q_mB, q_mCall, q_mNeg, q_mChain, q_sNil, q_sSeq, q_sExpr, q_sRet, q_sRetN, q_sBk, q_sCt, q_sIf, q_sAsg, q_kPutN, q_sBox, q_kBox, q_sApp, q_sSetI, q_sAug, q_kAug, q_kAug2, q_sFor, q_mRng1, q_kR1, q_kR2, q_mRng2, q_mIt, q_kItL, q_kItT, q_addI, q_addS, q_addT, q_addL, q_sub, q_mul, q_mod, q_fdv, q_pow, q_lt, q_le, q_gt, q_ge, q_iadd, q_isub, q_isN, q_notN, q_isNon_non, q_isNon_int, q_isNon_tup, q_isNon_lst, q_eqI, q_eqS, q_neI, q_neS, q_ixT, q_ixL, q_ixS, q_ixR0, q_int, q_intb, q_lenT, q_lenC, q_lenL, q_min, q_max, q_tupL, q_tupT, q_listL, q_listT, q_truB, q_truI, q_truT, q_truL, q_truN, q_bind, q_toS, q_nx, q_rt, q_bk, q_ct, q_ofO, q_noex, List.set_cons_zero, List.set_cons_succ, List.getElem?_cons_zero, List.getElem?_cons_succ, Option.map_some, Option.bind_some, List.length_cons, List.length_nil, List.map_cons, List.map_nil, Nat.reduceAdd, Nat.reduceSub, Nat.reduceLeDiff, Nat.reduceEqDiff, List.replicate_succ, List.replicate_zero, List.cons_append, List.nil_append, ↓reduceIte, if_true, if_false, Bool.false_eq_true, decide_true, decide_false, Bool.not_true, Bool.not_false, and_self, and_true, true_and, or_true, true_or, not_true_eq_false, not_false_eq_true, q_v14, q_v15, q_v16, q_v17, q_mEnum, q_kEnum, q_mZip, q_kZip, q_mRev, q_kRev, q_aStar, q_kSt, q_pNone, q_pSome, q_kPart, q_mSl, q_kSl2, q_kSl3, q_kCutT, q_kCutL, q_wkL, q_wkT, q_wkS], by simp only [e1, q_runF, q_kFin, q_kFinN, q_mC, q_v0, q_v1, q_v2, q_v3, q_v4, q_v5, q_v6, q_v7, q_v8, q_v9, q_v10, q_v11, q_v12, q_v13, q_mOp, q_mTest, q_kB, q_kAnd, q_kOr, q_kNot, q_kNeg, q_kChT, q_kChF, q_mTru, q_tAnd, q_tOr, q_tNot, q_tYes, q_eAnd, q_eOr, q_eNot, q_mIf, q_aNil, q_aCons, q_mTup, q_mLst, q_mB, q_mCall, q_mNeg, q_mChain, q_sNil, q_sSeq, q_sExpr, q_sRet, q_sRetN, q_sBk, q_sCt, q_sIf, q_sAsg, q_kPutN, q_sBox, q_kBox, q_sApp, q_sSetI, q_sAug, q_kAug, q_kAug2, q_sFor, q_mRng1, q_kR1, q_kR2, q_mRng2, q_mIt, q_kItL, q_kItT, q_addI, q_addS, q_addT, q_addL, q_sub, q_mul, q_mod, q_fdv, q_pow, q_lt, q_le, q_gt, q_ge, q_iadd, q_isub, q_isN, q_notN, q_isNon_non, q_isNon_int, q_isNon_tup, q_isNon_lst, q_eqI, q_eqS, q_neI, q_neS, q_ixT, q_ixL, q_ixS, q_ixR0, q_int, q_intb, q_lenT, q_lenC, q_lenL, q_min, q_max, q_tupL, q_tupT, q_listL, q_listT, q_truB, q_truI, q_truT, q_truL, q_truN, q_bind, q_toS, q_nx, q_rt, q_bk, q_ct, q_ofO, q_noex, List.set_cons_zero, List.set_cons_succ, List.getElem?_cons_zero, List.getElem?_cons_succ, Option.map_some, Option.bind_some, List.length_cons, List.length_nil, List.map_cons, List.map_nil, Nat.reduceAdd, Nat.reduceSub, Nat.reduceLeDiff, Nat.reduceEqDiff, List.replicate_succ, List.replicate_zero, List.cons_append, List.nil_append, ↓reduceIte, if_true, if_false, Bool.false_eq_true, decide_true, decide_false, Bool.not_true, Bool.not_false, and_self, and_true, true_and, or_true, true_or, not_true_eq_false, not_false_eq_true, q_v14, q_v15, q_v16, q_v17, q_mEnum, q_kEnum, q_mZip, q_kZip, q_mRev, q_kRev, q_aStar, q_kSt, q_pNone, q_pSome, q_kPart, q_mSl, q_kSl2, q_kSl3, q_kCutT, q_kCutL, q_wkL, q_wkT, q_wkS]⟩)
  have em : rs.map (fun r => D.int (shr n r)) = (rs.map (shr n)).map .int := by rw [List.map_map]; rfl
  rw [em] at e
  have ez : rs.length ≤ sizeLine := by rw [sz]; omega
  have ew : wipeD [some (settD p n t), some (progD rs), none] [2] = [some (settD p n t), some (progD rs), none] := rfl
  have eS : bSum [.lst ((rs.map (shr n)).map .int)] st = some (.int (rs.map (shr n)).sum) := by
    unfold bSum
    simp only [D.items, Option.bind_some, intsOf_ints, Option.map_some]
  have hb : -(2 ^ 64) < t ∧ t < 2 ^ 64 := by constructor <;> omega
  simp only [F_coins_of, M_coins_of, at1, at3, q_mLC, List.length_map, ez, ew, e, eS, hb, q_runF, q_kFin, q_kFinN, q_mC, q_v0, q_v1, q_v2, q_v3, q_v4, q_v5, q_v6, q_v7, q_v8, q_v9, q_v10, q_v11, q_v12, q_v13, q_mOp, q_mTest, q_kB, q_kAnd, q_kOr, q_kNot, q_kNeg, q_kChT, q_kChF, q_mTru, q_tAnd, q_tOr, q_tNot, q_tYes, q_eAnd, q_eOr, q_eNot, q_mIf, q_aNil, q_aCons, q_mTup, q_mLst, q_mB, q_mCall, q_mNeg, q_mChain, q_sNil, q_sSeq, q_sExpr, q_sRet, q_sRetN, q_sBk, q_sCt, q_sIf, q_sAsg, q_kPutN, q_sBox, q_kBox, q_sApp, q_sSetI, q_sAug, q_kAug, q_kAug2, q_sFor, q_mRng1, q_kR1, q_kR2, q_mRng2, q_mIt, q_kItL, q_kItT, q_addI, q_addS, q_addT, q_addL, q_sub, q_mul, q_mod, q_fdv, q_pow, q_lt, q_le, q_gt, q_ge, q_iadd, q_isub, q_isN, q_notN, q_isNon_non, q_isNon_int, q_isNon_tup, q_isNon_lst, q_eqI, q_eqS, q_neI, q_neS, q_ixT, q_ixL, q_ixS, q_ixR0, q_int, q_intb, q_lenT, q_lenC, q_lenL, q_min, q_max, q_tupL, q_tupT, q_listL, q_listT, q_truB, q_truI, q_truT, q_truL, q_truN, q_bind, q_toS, q_nx, q_rt, q_bk, q_ct, q_ofO, q_noex, List.set_cons_zero, List.set_cons_succ, List.getElem?_cons_zero, List.getElem?_cons_succ, Option.map_some, Option.bind_some, List.length_cons, List.length_nil, List.map_cons, List.map_nil, Nat.reduceAdd, Nat.reduceSub, Nat.reduceLeDiff, Nat.reduceEqDiff, List.replicate_succ, List.replicate_zero, List.cons_append, List.nil_append, ↓reduceIte, if_true, if_false, Bool.false_eq_true, decide_true, decide_false, Bool.not_true, Bool.not_false, and_self, and_true, true_and, or_true, true_or, not_true_eq_false, not_false_eq_true, q_v14, q_v15, q_v16, q_v17, q_mEnum, q_kEnum, q_mZip, q_kZip, q_mRev, q_kRev, q_aStar, q_kSt, q_pNone, q_pSome, q_kPart, q_mSl, q_kSl2, q_kSl3, q_kCutT, q_kCutL, q_wkL, q_wkT, q_wkS]
  exact leave_same (by simp [D.lo])
end Zp
namespace Zp
open PySem L2 Zv PyProof.Rows Zn
/-! ## the second set of equations: conditions are asked of the discharger, places in the store are looked up by rules -/
theorem r_wipe0 {es : Sl} : wipeD es [] = es := rfl
theorem r_wipe1 {es : Sl} {v : Nat} {vs : List Nat} : wipeD es (v :: vs) = (wipeD es vs).set v none := rfl
def kTup (ds : List D) (st : Store) : R D := if ds.length ≤ sizeLine then .ok (.tup ds) st else .no
def kLstD (ds : List D) (st : Store) : R D := if ds.length ≤ sizeLine then .ok (.lst ds) st else .no
def kOkL (ys : List D) (st : Store) : R D := .ok (.lst ys) st
noncomputable def kLC (vs : List Nat) (t : Tg) (tt : TM) (elt : EM) (es : Sl) (p : Its) (st : Store) : R D := if p.1.length ≤ sizeLine then (lcL t tt elt (Held p.2) (wipeD es vs) p.1 st).bind kOkL else .no
noncomputable def kFor (t : Tg) (body : SM) (es : Sl) (p : Its) (st : Store) : RS := forL t body (Held p.2) p.1 es st
section
variable {es : Sl} {st st1 : Store} {d d2 x y z : D} {f g : F2} {ma mb mc me : EM} {mr : AM} {t ta tb : TM} {m1 m2 : SM} {i j : Int} {n k : Nat} {tg : Tg} {mi : IM} {s s' : Str} {xs ys : List D} {hs : List (Nat × List D)} {vs : List Nat} {tt : TM} {elt : EM} {body : SM} {ml mh : OM} {lo hi : Option Int}
theorem r_mTup : mTup mr es st = (mr es st).bind kTup := by unfold mTup; rfl
theorem r_kTup (h : xs.length ≤ sizeLine) : kTup xs st = .ok (.tup xs) st := by rw [kTup, if_pos h]
theorem r_mLst : mLst mr es st = (mr es st).bind kLstD := by unfold mLst; rfl
theorem r_kLst (h : xs.length ≤ sizeLine) : kLstD xs st = .ok (.lst xs) st := by rw [kLstD, if_pos h]
theorem r_mLC : mLC vs mi tg tt elt es st = (mi es st).bind (kLC vs tg tt elt es) := by unfold mLC; rfl
theorem r_kLC (h : xs.length ≤ sizeLine) : kLC vs tg tt elt es (xs, hs) st = (lcL tg tt elt (Held hs) (wipeD es vs) xs st).bind kOkL := by rw [kLC]; exact if_pos h
theorem r_kOkL : kOkL xs st = .ok (.lst xs) st := by rw [kOkL]
theorem r_sFor : sFor mi tg body es st = (mi es st).toS es (kFor tg body es) := by unfold sFor; rfl
theorem r_kFor : kFor tg body es (xs, hs) st = forL tg body (Held hs) xs es st := by rw [kFor]
theorem r_mod (h : 0 < j) : dMod st (.int i) (.int j) = some (.int (i % j)) := by rw [q_mod, if_pos h]
theorem r_mul (h : (-(2 ^ 64) < i ∧ i < 2 ^ 64) ∨ (-(2 ^ 64) < j ∧ j < 2 ^ 64)) : dMul st (.int i) (.int j) = some (.int (i * j)) := by rw [q_mul, if_pos h]
theorem r_fdv (h : 0 < j ∧ j < 1073741824) : dFdv st (.int i) (.int j) = some (.int (i / j)) := by rw [q_fdv, if_pos h]
theorem r_addT (h : xs.length + ys.length ≤ sizeLine) : dAdd st (.tup xs) (.tup ys) = some (.tup (xs ++ ys)) := by rw [q_addT, if_pos h]
theorem r_addL (h : xs.length + ys.length ≤ sizeLine) : dAdd st (.lst xs) (.lst ys) = some (.lst (xs ++ ys)) := by rw [q_addL, if_pos h]
theorem r_kR1 (h : -(2 ^ 62) ≤ j ∧ j < 2 ^ 62) : kR1 [.int j] st = .ok (rngD 0 j.toNat, []) st := by rw [q_kR1, if_pos h]
theorem r_kR2 (h : -(2 ^ 62) ≤ i ∧ i < 2 ^ 62 ∧ -(2 ^ 62) ≤ j ∧ j < 2 ^ 62) : kR2 [.int i, .int j] st = .ok (rngD i (j - i).toNat, []) st := by rw [q_kR2, if_pos h]
theorem r_kRgT (h : -(2 ^ 62) ≤ i ∧ i < 2 ^ 62 ∧ -(2 ^ 62) ≤ j ∧ j < 2 ^ 62 ∧ (j - i).toNat ≤ 2 ^ 24) : kRgT i j st = .ok (.tup (rngD i (j - i).toNat)) st := by rw [q_kRgT, if_pos h]
theorem r_kRgL (h : -(2 ^ 62) ≤ i ∧ i < 2 ^ 62 ∧ -(2 ^ 62) ≤ j ∧ j < 2 ^ 62 ∧ (j - i).toNat ≤ 2 ^ 24) : kRgL i j st = .ok (.lst (rngD i (j - i).toNat)) st := by rw [q_kRgL, if_pos h]
/-! places of the store -/
def oApp (me : EM) (n : Nat) (es : Sl) (st : Store) (o : Option Cell) : RS := match o with
  | some (.lst _) => (me es st).toS es (kApp2 n es)
  | _ => .no
def oApp2 (n : Nat) (es : Sl) (d : D) (st : Store) (o : Option Cell) : RS := match o with
  | some (.lst ds) => if ds.length < sizeLine then .ok .nx es (st.set n (.lst (ds ++ [d]))) else .no
  | _ => .no
def oItems (o : Option Cell) : Option (List D) := match o with
  | some (.lst ds) => some ds
  | _ => none
def oIx (o : Option Cell) (i : Int) : Option D := (oItems o).bind fun xs => atI xs i
def oIt (n : Nat) (o : Option Cell) (st : Store) : R Its := match o with
  | some (.lst ds) => .ok (ds, [(n, ds)]) st
  | _ => .no
def oSet (d : D) (n : Nat) (i : Int) (es : Sl) (st : Store) (o : Option Cell) : RS := match o with
  | some (.lst ds) => match ixN ds.length i with
    | some j => .ok .nx es (st.set n (.lst (ds.set j d)))
    | none => .no
  | _ => .no
theorem r_kApp : kApp me es (.ref n) st = oApp me n es st st[n]? := by
  unfold kApp oApp; rfl
theorem r_oApp : oApp me n es st (some (.lst xs)) = (me es st).toS es (kApp2 n es) := by rw [oApp]
theorem r_kApp2 : kApp2 n es d st = oApp2 n es d st st[n]? := by unfold kApp2 oApp2; rfl
theorem r_oApp2 (h : xs.length < sizeLine) : oApp2 n es d st (some (.lst xs)) = .ok .nx es (st.set n (.lst (xs ++ [d]))) := by rw [oApp2, if_pos h]
theorem r_kItR : kIt (.ref n) st = oIt n st[n]? st := by
  unfold kIt oIt; rfl
theorem r_oIt : oIt n (some (.lst xs)) st = .ok (xs, [(n, xs)]) st := by rw [oIt]
theorem r_oItems : oItems (some (.lst xs)) = some xs := by rw [oItems]
theorem r_itemsR : (D.ref n).items st = oItems st[n]? := by
  unfold D.items oItems
  rfl
theorem r_ixR : dIx st (.ref n) (.int i) = oIx st[n]? i := by
  rw [oIx, ← r_itemsR]
  rw [dIx]
  · intro _ h; cases h
  · intro _ h; cases h
  · intro _ h; cases h
theorem r_oIx : oIx (some (.lst xs)) i = atI xs i := by rw [oIx, r_oItems]; rfl
theorem r_lenR : bLen [.ref n] st = (oItems st[n]?).map fun xs => .int xs.length := by rw [← r_itemsR]; rfl
theorem r_tupR : bTuple [.ref n] st = (oItems st[n]?).map .tup := by rw [← r_itemsR]; rfl
theorem r_listR : bList [.ref n] st = (oItems st[n]?).map .lst := by rw [← r_itemsR]; rfl
theorem r_kSet2 : kSet2 d (.ref n) es (.int i) st = oSet d n i es st st[n]? := by unfold kSet2 oSet; rfl
theorem r_oSet {j : Nat} (hj : ixN xs.length i = some j) : oSet d n i es st (some (.lst xs)) = .ok .nx es (st.set n (.lst (xs.set j d))) := by rw [oSet, hj]
theorem r_kCutR : kCut (.ref n) lo hi st = (R.ofO (oItems st[n]?) st).bind fun xs _ => .ok (.lst (cutD xs lo hi)) st := by
  unfold kCut
  simp only [r_itemsR]
  cases oItems st[n]? <;> rfl
theorem r_walkR : (D.ref n).walk st = (oItems st[n]?).map fun xs => (xs, [(n, xs)]) := by
  unfold D.walk oItems
  cases h : st[n]? with
  | none => simp only [h]; rfl
  | some c => cases c <;> (simp only [h]; rfl)
theorem r_at0 {c : List Cell} : (st ++ c)[st.length]? = c[0]? := by rw [List.getElem?_append_right (Nat.le_refl _), Nat.sub_self]
theorem r_atk {c : List Cell} : (st ++ c)[st.length + k]? = c[k]? := by rw [List.getElem?_append_right (Nat.le_add_right _ _), Nat.add_sub_cancel_left]
theorem r_set0 {c : List Cell} {e : Cell} : (st ++ c).set st.length e = st ++ c.set 0 e := by rw [List.set_append_right _ _ (Nat.le_refl _), Nat.sub_self]
theorem r_setk {c : List Cell} {e : Cell} : (st ++ c).set (st.length + k) e = st ++ c.set k e := by rw [List.set_append_right _ _ (Nat.le_add_right _ _), Nat.add_sub_cancel_left]
end
/-! ### loops -/
/-- the run ends as it should, and K holds behind it -/
def To (r : RS) (K : Sl → Store → Prop) : Prop := ∃ es st, r = .ok .nx es st ∧ K es st
def To2 (r : RS) (K : Sl → Store → Prop) : Prop := ∃ es st, (r = .ok .nx es st ∨ r = .ok .ct es st) ∧ K es st
theorem To_ok {es : Sl} {st : Store} {K : Sl → Store → Prop} : To (.ok .nx es st) K = K es st := propext ⟨fun ⟨_, _, e, h⟩ => by cases e; exact h, fun h => ⟨_, _, rfl, h⟩⟩
theorem To2_ok {es : Sl} {st : Store} {K : Sl → Store → Prop} : To2 (.ok .nx es st) K = K es st := propext ⟨fun ⟨_, _, e, h⟩ => by rcases e with e | e <;> cases e; exact h, fun h => ⟨_, _, .inl rfl, h⟩⟩
theorem To2_ct {es : Sl} {st : Store} {K : Sl → Store → Prop} : To2 (.ok .ct es st) K = K es st := propext ⟨fun ⟨_, _, e, h⟩ => by rcases e with e | e <;> cases e; exact h, fun h => ⟨_, _, .inr rfl, h⟩⟩
theorem forL_pre {α : Type} {k : Tg} {body : SM} {P : Store → Prop} {emb : α → D} {as : List α} {es : Sl} {st : Store} {r : RS} (hL : forL k body P (as.map emb) es st = r) (Inv : List α → Sl → Store → Prop) (h0 : Inv [] es st) (hP : ∀ l es st, Inv l es st → P st)
    (hs : ∀ pre a post es s, as = pre ++ a :: post → Inv pre es s → ∃ es1, k.put (emb a) es = some es1 ∧ To2 (body es1 s) (Inv (pre ++ [a]))) : ∃ es' st', r = .ok .nx es' st' ∧ Inv as es' st' := by
  subst hL
  have main : ∀ (post pre : List α) (es : Sl) (st : Store), as = pre ++ post → Inv pre es st → ∃ es' st', forL k body P (post.map emb) es st = .ok .nx es' st' ∧ Inv as es' st' := by
    intro post
    induction post with
    | nil =>
      intro pre es st e h
      rw [List.append_nil] at e
      subst e
      refine ⟨es, st, ?_, h⟩
      rw [List.map_nil]
      unfold forL
      rw [if_pos (hP _ _ _ h)]
    | cons a post ih =>
      intro pre es st e h
      obtain ⟨es1, e1, es2, st2, e2, h2⟩ := hs pre a post es st e h
      obtain ⟨es', st', e3, h3⟩ := ih (pre ++ [a]) es2 st2 (by rw [e, List.append_assoc]; rfl) h2
      refine ⟨es', st', ?_, h3⟩
      rw [List.map_cons]
      unfold forL
      rw [if_pos (hP _ _ _ h), e1]
      simp only
      rcases e2 with e2 | e2
      · rw [e2]; exact e3
      · rw [e2]; exact e3
  exact main as ([] : List α) es st rfl h0
/-- a comprehension of all: what stands for each -/
theorem lcA {α : Type} {k : Tg} {elt : EM} {hs : List (Nat × List D)} {es : Sl} {st : Store} {emb f : α → D} {as : List α} (hP : Held hs st) (h : ∀ a ∈ as, ∃ es1, k.put (emb a) es = some es1 ∧ elt es1 st = .ok (f a) st) : lcL k Zv.tYes elt (Held hs) es (as.map emb) st = .ok (as.map f) st := by
  induction as with
  | nil => rw [List.map_nil]; unfold lcL; rw [if_pos hP]; rfl
  | cons a as ih =>
    obtain ⟨es1, e1, e2⟩ := h a List.mem_cons_self
    have ih := ih fun x hx => h x (List.mem_cons_of_mem _ hx)
    rw [List.map_cons]
    unfold lcL
    rw [if_pos hP, e1]
    simp only [Zv.tYes, e2, R.noex_ok, R.bind_ok, ih, if_true, List.map_cons]
theorem lcN {α : Type} {k : Nat} {elt : EM} {es : Sl} {st : Store} {emb f : α → D} {as : List α} (h : ∀ a ∈ as, elt (es.set k (some (emb a))) st = .ok (f a) st) : lcL (.nm k) Zv.tYes elt (Held []) es (as.map emb) st = .ok (as.map f) st :=
  lcA trivial fun a ha => ⟨_, rfl, h a ha⟩
theorem lcN1 {α : Type} {k n : Nat} {ds : List D} {elt : EM} {es : Sl} {st : Store} {emb f : α → D} {as : List α} (hP : st[n]? = some (.lst ds)) (h : ∀ a ∈ as, elt (es.set k (some (emb a))) st = .ok (f a) st) : lcL (.nm k) Zv.tYes elt (Held [(n, ds)]) es (as.map emb) st = .ok (as.map f) st :=
  lcA ⟨hP, trivial⟩ fun a ha => ⟨_, rfl, h a ha⟩
theorem lcP {α : Type} {k : Tg} {elt : EM} {es : Sl} {st : Store} {emb f : α → D} {as : List α} (h : ∀ a ∈ as, ∃ es1, k.put (emb a) es = some es1 ∧ elt es1 st = .ok (f a) st) : lcL k Zv.tYes elt (Held []) es (as.map emb) st = .ok (as.map f) st := lcA trivial h
/-- a comprehension with an if -/
theorem lcI {α : Type} {k : Nat} {tt : TM} {elt : EM} {es : Sl} {st : Store} {emb f : α → D} {g : α → Bool} {as : List α} (h : ∀ a ∈ as, tt (es.set k (some (emb a))) st = .ok (g a) st ∧ (g a = true → elt (es.set k (some (emb a))) st = .ok (f a) st)) : lcL (.nm k) tt elt (Held []) es (as.map emb) st = .ok ((as.filter g).map f) st :=
  lcL_if (P := Held []) trivial emb f g as fun a ha => ⟨_, rfl, h a ha⟩
/-! ### data without references -/
theorem lo_tup {b : Nat} {xs : List D} (h : D.los b xs = true) : (D.tup xs).lo b = true := by simpa [D.lo] using h
theorem lo_lst {b : Nat} {xs : List D} (h : D.los b xs = true) : (D.lst xs).lo b = true := by simpa [D.lo] using h
theorem los_map {α : Type} {b : Nat} {f : α → D} {xs : List α} (h : ∀ a ∈ xs, (f a).lo b = true) : D.los b (xs.map f) = true := by
  rw [los_iff]
  intro d hd
  obtain ⟨a, ha, rfl⟩ := List.mem_map.mp hd
  exact h a ha
theorem los_cons {b : Nat} {x : D} {xs : List D} (h : x.lo b = true) (hs : D.los b xs = true) : D.los b (x :: xs) = true := by rw [D.los, h, hs]; rfl
theorem lo_int {b : Nat} {i : Int} : (D.int i).lo b = true := by simp [D.lo]
theorem lo_str {b : Nat} {i : Str} : (D.str i).lo b = true := by simp [D.lo]
theorem lo_bl {b : Nat} {i : Bool} : (D.bl i).lo b = true := by simp [D.lo]
theorem lo_non {b : Nat} : D.non.lo b = true := by simp [D.lo]
theorem lo_itup {b : Nat} {ns : List Int} : (itup ns).lo b = true := by simp [D.lo]
theorem lo_oD {b : Nat} {o : Option Int} : (oD o).lo b = true := by cases o <;> simp [oD, D.lo]
theorem lo_row {b : Nat} {r : Rw} : (Rw.d r).lo b = true := by cases r <;> simp [Rw.d, D.lo, D.los]
theorem lo_nil {b : Nat} : D.los b [] = true := by simp [D.los]
theorem los_rngD {b k : Nat} {lo : Int} : D.los b (rngD lo k) = true := los_map fun _ _ => lo_int
end Zp
namespace Zp
open PySem L2 Zv PyProof.Rows
/-! coins_by_row: coins where parts part place -/
noncomputable def M_coins_by_row : SM :=
    (sRet (mLC [2] (mIt (mVar 1)) (.nm 2) tYes (mB bTuple (aCons (mLC [3] (mIt (mVar 2)) (.nm 3) tYes (mB bTuple (aCons (mLC [4] (mIt (mVar 3)) (.nm 4) tYes (mOp dIx (mVar 0) (mVar 4))) aNil))) aNil))))
noncomputable def F_coins_by_row : FM := runF 5 M_coins_by_row

/-! placed: sizes found done row parts many -/
noncomputable def B_placed1 : SM :=
    (sSeq (sApp (mVar 4) (mRgT2 (mVar 2) (mOp dAdd (mVar 2) (mVar 5))))
    (sAug 2 dIadd (mVar 5)))
noncomputable def B_placed2 : SM :=
    (sSeq (sBox 4 (mLst aNil))
    (sSeq (sFor (mIt (mVar 3)) (.nm 5) B_placed1)
    (sApp (mVar 1) (mB bTuple (aCons (mVar 4) aNil)))))
noncomputable def M_placed : SM :=
    (sSeq (sBox 1 (mLst aNil))
    (sSeq (sAsg (.nm 2) (mC (.int 0)))
    (sSeq (sFor (mIt (mVar 0)) (.nm 3) B_placed2)
    (sRet (mB bTuple (aCons (mVar 1) aNil))))))
noncomputable def F_placed : FM := runF 6 M_placed

/-! places: setting program row -/
noncomputable def M_places : SM :=
    (sRet (mCall 1 F_placed (aCons (mLC [2] (mIt (mOp dIx (mVar 1) (mC (.int 1)))) (.nm 2) tYes (mOp dRep (mTup (aCons (mOp dIx (mVar 0) (mC (.int 3))) aNil)) (mCall 2 F_sharings (aCons (mVar 0) (aCons (mVar 2) aNil))))) aNil)))
noncomputable def F_places : FM := runF 3 M_places

end Zp
namespace Zp
open PySem L2 Zv PyProof.Rows Zn
abbrev natT (ns : List Nat) : D := .tup (ns.map fun (n : Nat) => .int n)
def partsN : Nat → List Nat → List (List Nat)
  | _, [] => []
  | d, m :: ms => List.range' d m :: partsN (d + m) ms
def placedN : Nat → List (List Nat) → List (List (List Nat))
  | _, [] => []
  | d, r :: rs => partsN d r :: placedN (d + r.sum) rs
theorem partsN_snoc (m : Nat) : ∀ (ms : List Nat) (d : Nat), partsN d (ms ++ [m]) = partsN d ms ++ [List.range' (d + ms.sum) m]
  | [], d => by simp [partsN]
  | x :: xs, d => by rw [List.cons_append, partsN, partsN, partsN_snoc m xs, List.cons_append, List.sum_cons, Nat.add_assoc]
theorem placedN_snoc (r : List Nat) : ∀ (rs : List (List Nat)) (d : Nat), placedN d (rs ++ [r]) = placedN d rs ++ [partsN (d + rs.flatten.sum) r]
  | [], d => by simp [placedN]
  | x :: xs, d => by rw [List.cons_append, placedN, placedN, placedN_snoc r xs, List.cons_append, List.flatten_cons, List.sum_append, Nat.add_assoc]
theorem partsN_len : ∀ (ms : List Nat) (d : Nat), (partsN d ms).length = ms.length
  | [], _ => rfl
  | _ :: ms, d => by rw [partsN, List.length_cons, List.length_cons, partsN_len ms]
theorem placedN_len : ∀ (rs : List (List Nat)) (d : Nat), (placedN d rs).length = rs.length
  | [], _ => rfl
  | _ :: rs, d => by rw [placedN, List.length_cons, List.length_cons, placedN_len rs]
theorem rngD_nat (d m : Nat) : rngD (d : Int) m = (List.range' d m).map fun (n : Nat) => D.int n := by
  unfold rngD
  rw [List.range'_eq_map_range, List.map_map]
  rfl
abbrev plcD (ps : List (List (List Nat))) : List D := ps.map fun r => .tup (r.map natT)
abbrev szD (sz : List (List Nat)) : D := .lst (sz.map natT)
theorem placed_is {st : Store} {sizes : List (List Nat)} (hl : sizes.length ≤ 1000) (hr : ∀ r ∈ sizes, r.length ≤ 1000) (hs : sizes.flatten.sum ≤ 1000000) : F_placed [szD sizes] st = .ok (.tup (plcD (placedN 0 sizes))) st := by
  simp (disch := (first | assumption | omega | (simp only [List.length_map, List.length_range, List.length_append, List.length_cons, List.length_nil, List.length_replicate, List.length_zipIdx, List.length_zip, rngD, sz]; omega))) only [F_placed, M_placed, q_runF, q_kFin, q_kFinN, q_mC, q_v0, q_v1, q_v2, q_v3, q_v4, q_v5, q_v6, q_v7, q_v8, q_v9, q_v10, q_v11, q_v12, q_v13, q_mOp, q_mTest, q_kB, q_kAnd, q_kOr, q_kNot, q_kNeg, q_kChT, q_kChF, q_mTru, q_tAnd, q_tOr, q_tNot, q_tYes, q_eAnd, q_eOr, q_eNot, q_mIf, q_aNil, q_aCons, q_mB, q_mCall, q_mNeg, q_mChain, q_sNil, q_sSeq, q_sExpr, q_sRet, q_sRetN, q_sBk, q_sCt, q_sIf, q_sAsg, q_kPutN, q_sBox, q_kBox, q_sApp, q_sSetI, q_sAug, q_kAug, q_kAug2, q_mRng1, q_mRng2, q_mIt, q_kItL, q_kItT, q_addI, q_addS, q_sub, q_lt, q_le, q_gt, q_ge, q_iadd, q_isub, q_isN, q_notN, q_isNon_non, q_isNon_int, q_isNon_tup, q_isNon_lst, q_eqI, q_eqS, q_neI, q_neS, q_ixT, q_ixL, q_ixS, q_int, q_intb, q_lenT, q_lenC, q_lenL, q_min, q_max, q_tupL, q_tupT, q_listL, q_listT, q_truB, q_truI, q_truT, q_truL, q_truN, q_bind, q_toS, q_nx, q_rt, q_bk, q_ct, q_ofO, q_noex, List.set_cons_zero, List.set_cons_succ, List.getElem?_cons_zero, List.getElem?_cons_succ, Option.map_some, Option.bind_some, List.length_cons, List.length_nil, List.map_cons, List.map_nil, Nat.reduceAdd, Nat.reduceSub, Nat.reduceLeDiff, Nat.reduceEqDiff, List.replicate_succ, List.replicate_zero, List.cons_append, List.nil_append, ↓reduceIte, if_true, if_false, Bool.false_eq_true, decide_true, decide_false, Bool.not_true, Bool.not_false, and_self, and_true, true_and, or_true, true_or, not_true_eq_false, not_false_eq_true, q_v14, q_v15, q_v16, q_v17, q_mEnum, q_kEnum, q_mZip, q_kZip, q_mRev, q_kRev, q_aStar, q_kSt, q_pNone, q_pSome, q_kPart, q_mSl, q_kSl2, q_kSl3, q_kCutT, q_kCutL, q_wkL, q_wkT, q_wkS, r_wipe0, r_wipe1, r_mTup, r_kTup, r_mLst, r_kLst, r_mLC, r_kLC, r_kOkL, r_sFor, r_kFor, r_mod, r_mul, r_fdv, r_addT, r_addL, r_kR1, r_kR2, r_kRgT, r_kRgL, r_kApp, r_oApp, r_kApp2, r_oApp2, r_kItR, r_oIt, r_oItems, r_itemsR, r_ixR, r_oIx, r_lenR, r_tupR, r_listR, r_kSet2, r_kCutR, r_walkR, r_at0, r_atk, r_set0, r_setk, To_ok, To2_ok, To2_ct, q_mRgT2, q_mRgL2, q_mRgT1, q_mRgL1, q_kRgA, q_kRgB, List.length_append, List.append_assoc, Nat.zero_add, at0, at1, at2, at3, setBox]
  generalize hL : forL _ _ _ _ _ _ = r
  obtain ⟨es', st', rfl, o3, o4, o5, more, rfl, rfl⟩ := forL_pre hL (fun pre es s => ∃ (o3 o4 o5 : Option D) (more : Store), es = [some (szD sizes), some (.ref st.length), some (.int (pre.flatten.sum : Nat)), o3, o4, o5] ∧ s = st ++ .lst (plcD (placedN 0 pre)) :: more)
    (by exact ⟨none, none, none, [], rfl, rfl⟩) (fun _ _ _ _ => trivial) (by
      rintro pre a post es s e ⟨o3, o4, o5, more, rfl, rfl⟩
      have ha := hr a (by rw [e]; simp)
      have hS : pre.flatten.sum + a.sum ≤ 1000000 := by
        rw [e] at hs
        simp at hs
        omega
      have hpl : pre.length < 1000 := by rw [e] at hl; simp at hl; omega
      have hpp : (placedN 0 pre).length = pre.length := placedN_len _ _
      refine ⟨_, rfl, ?_⟩
      simp (disch := (first | assumption | omega | (simp only [List.length_map, List.length_range, List.length_append, List.length_cons, List.length_nil, List.length_replicate, List.length_zipIdx, List.length_zip, rngD, sz]; omega))) only [B_placed2, q_runF, q_kFin, q_kFinN, q_mC, q_v0, q_v1, q_v2, q_v3, q_v4, q_v5, q_v6, q_v7, q_v8, q_v9, q_v10, q_v11, q_v12, q_v13, q_mOp, q_mTest, q_kB, q_kAnd, q_kOr, q_kNot, q_kNeg, q_kChT, q_kChF, q_mTru, q_tAnd, q_tOr, q_tNot, q_tYes, q_eAnd, q_eOr, q_eNot, q_mIf, q_aNil, q_aCons, q_mB, q_mCall, q_mNeg, q_mChain, q_sNil, q_sSeq, q_sExpr, q_sRet, q_sRetN, q_sBk, q_sCt, q_sIf, q_sAsg, q_kPutN, q_sBox, q_kBox, q_sApp, q_sSetI, q_sAug, q_kAug, q_kAug2, q_mRng1, q_mRng2, q_mIt, q_kItL, q_kItT, q_addI, q_addS, q_sub, q_lt, q_le, q_gt, q_ge, q_iadd, q_isub, q_isN, q_notN, q_isNon_non, q_isNon_int, q_isNon_tup, q_isNon_lst, q_eqI, q_eqS, q_neI, q_neS, q_ixT, q_ixL, q_ixS, q_int, q_intb, q_lenT, q_lenC, q_lenL, q_min, q_max, q_tupL, q_tupT, q_listL, q_listT, q_truB, q_truI, q_truT, q_truL, q_truN, q_bind, q_toS, q_nx, q_rt, q_bk, q_ct, q_ofO, q_noex, List.set_cons_zero, List.set_cons_succ, List.getElem?_cons_zero, List.getElem?_cons_succ, Option.map_some, Option.bind_some, List.length_cons, List.length_nil, List.map_cons, List.map_nil, Nat.reduceAdd, Nat.reduceSub, Nat.reduceLeDiff, Nat.reduceEqDiff, List.replicate_succ, List.replicate_zero, List.cons_append, List.nil_append, ↓reduceIte, if_true, if_false, Bool.false_eq_true, decide_true, decide_false, Bool.not_true, Bool.not_false, and_self, and_true, true_and, or_true, true_or, not_true_eq_false, not_false_eq_true, q_v14, q_v15, q_v16, q_v17, q_mEnum, q_kEnum, q_mZip, q_kZip, q_mRev, q_kRev, q_aStar, q_kSt, q_pNone, q_pSome, q_kPart, q_mSl, q_kSl2, q_kSl3, q_kCutT, q_kCutL, q_wkL, q_wkT, q_wkS, r_wipe0, r_wipe1, r_mTup, r_kTup, r_mLst, r_kLst, r_mLC, r_kLC, r_kOkL, r_sFor, r_kFor, r_mod, r_mul, r_fdv, r_addT, r_addL, r_kR1, r_kR2, r_kRgT, r_kRgL, r_kApp, r_oApp, r_kApp2, r_oApp2, r_kItR, r_oIt, r_oItems, r_itemsR, r_ixR, r_oIx, r_lenR, r_tupR, r_listR, r_kSet2, r_kCutR, r_walkR, r_at0, r_atk, r_set0, r_setk, To_ok, To2_ok, To2_ct, q_mRgT2, q_mRgL2, q_mRgT1, q_mRgL1, q_kRgA, q_kRgB, List.length_append, List.append_assoc, Nat.zero_add, at0, at1, at2, at3, setBox]
      generalize hL : forL _ _ _ _ _ _ = r
      obtain ⟨es', st', rfl, o5, rfl, rfl⟩ := forL_pre hL (fun q es s => ∃ (o5 : Option D), es = [some (szD sizes), some (.ref st.length), some (.int (pre.flatten.sum + q.sum : Nat)), some (natT a), some (.ref (st.length + (more.length + 1))), o5] ∧ s = st ++ .lst (plcD (placedN 0 pre)) :: (more ++ [.lst ((partsN pre.flatten.sum q).map natT)]))
        (by exact ⟨o5, rfl, rfl⟩) (fun _ _ _ _ => trivial) (by
          rintro q b pst es s e2 ⟨o5, rfl, rfl⟩
          refine ⟨_, rfl, ?_⟩
          have hb : q.sum + b ≤ a.sum := by rw [e2]; simp
          have hq : q.length < a.length := by rw [e2]; simp
          have hp2 := partsN_len q pre.flatten.sum
          simp (disch := (first | assumption | omega | (simp only [List.length_map, List.length_range, List.length_append, List.length_cons, List.length_nil, List.length_replicate, List.length_zipIdx, List.length_zip, rngD, sz]; omega))) only [B_placed1, q_runF, q_kFin, q_kFinN, q_mC, q_v0, q_v1, q_v2, q_v3, q_v4, q_v5, q_v6, q_v7, q_v8, q_v9, q_v10, q_v11, q_v12, q_v13, q_mOp, q_mTest, q_kB, q_kAnd, q_kOr, q_kNot, q_kNeg, q_kChT, q_kChF, q_mTru, q_tAnd, q_tOr, q_tNot, q_tYes, q_eAnd, q_eOr, q_eNot, q_mIf, q_aNil, q_aCons, q_mB, q_mCall, q_mNeg, q_mChain, q_sNil, q_sSeq, q_sExpr, q_sRet, q_sRetN, q_sBk, q_sCt, q_sIf, q_sAsg, q_kPutN, q_sBox, q_kBox, q_sApp, q_sSetI, q_sAug, q_kAug, q_kAug2, q_mRng1, q_mRng2, q_mIt, q_kItL, q_kItT, q_addI, q_addS, q_sub, q_lt, q_le, q_gt, q_ge, q_iadd, q_isub, q_isN, q_notN, q_isNon_non, q_isNon_int, q_isNon_tup, q_isNon_lst, q_eqI, q_eqS, q_neI, q_neS, q_ixT, q_ixL, q_ixS, q_int, q_intb, q_lenT, q_lenC, q_lenL, q_min, q_max, q_tupL, q_tupT, q_listL, q_listT, q_truB, q_truI, q_truT, q_truL, q_truN, q_bind, q_toS, q_nx, q_rt, q_bk, q_ct, q_ofO, q_noex, List.set_cons_zero, List.set_cons_succ, List.getElem?_cons_zero, List.getElem?_cons_succ, Option.map_some, Option.bind_some, List.length_cons, List.length_nil, List.map_cons, List.map_nil, Nat.reduceAdd, Nat.reduceSub, Nat.reduceLeDiff, Nat.reduceEqDiff, List.replicate_succ, List.replicate_zero, List.cons_append, List.nil_append, ↓reduceIte, if_true, if_false, Bool.false_eq_true, decide_true, decide_false, Bool.not_true, Bool.not_false, and_self, and_true, true_and, or_true, true_or, not_true_eq_false, not_false_eq_true, q_v14, q_v15, q_v16, q_v17, q_mEnum, q_kEnum, q_mZip, q_kZip, q_mRev, q_kRev, q_aStar, q_kSt, q_pNone, q_pSome, q_kPart, q_mSl, q_kSl2, q_kSl3, q_kCutT, q_kCutL, q_wkL, q_wkT, q_wkS, r_wipe0, r_wipe1, r_mTup, r_kTup, r_mLst, r_kLst, r_mLC, r_kLC, r_kOkL, r_sFor, r_kFor, r_mod, r_mul, r_fdv, r_addT, r_addL, r_kR1, r_kR2, r_kRgT, r_kRgL, r_kApp, r_oApp, r_kApp2, r_oApp2, r_kItR, r_oIt, r_oItems, r_itemsR, r_ixR, r_oIx, r_lenR, r_tupR, r_listR, r_kSet2, r_kCutR, r_walkR, r_at0, r_atk, r_set0, r_setk, To_ok, To2_ok, To2_ct, q_mRgT2, q_mRgL2, q_mRgT1, q_mRgL1, q_kRgA, q_kRgB, List.length_append, List.append_assoc, Nat.zero_add, at0, at1, at2, at3, setBox]
          refine ⟨some (.int b), ?_, ?_⟩
          · simp only [List.sum_append, List.sum_cons, List.sum_nil, Nat.add_zero, Int.natCast_add, Int.add_assoc]
          · have e5 : ((pre.flatten.sum + q.sum : Nat) : Int) + (b : Int) - ((pre.flatten.sum + q.sum : Nat) : Int) = (b : Int) := by omega
            rw [partsN_snoc, e5, Int.toNat_natCast, rngD_nat]
            simp)
      have e6 : (pre ++ [a]).flatten.sum = pre.flatten.sum + a.sum := by simp
      have e7 : plcD (placedN 0 (pre ++ [a])) = plcD (placedN 0 pre) ++ [.tup ((partsN pre.flatten.sum a).map natT)] := by rw [placedN_snoc, Nat.zero_add]; simp
      simp (disch := (first | assumption | omega | (simp only [List.length_map, List.length_range, List.length_append, List.length_cons, List.length_nil, List.length_replicate, List.length_zipIdx, List.length_zip, rngD, sz]; omega))) only [e6, e7, q_runF, q_kFin, q_kFinN, q_mC, q_v0, q_v1, q_v2, q_v3, q_v4, q_v5, q_v6, q_v7, q_v8, q_v9, q_v10, q_v11, q_v12, q_v13, q_mOp, q_mTest, q_kB, q_kAnd, q_kOr, q_kNot, q_kNeg, q_kChT, q_kChF, q_mTru, q_tAnd, q_tOr, q_tNot, q_tYes, q_eAnd, q_eOr, q_eNot, q_mIf, q_aNil, q_aCons, q_mB, q_mCall, q_mNeg, q_mChain, q_sNil, q_sSeq, q_sExpr, q_sRet, q_sRetN, q_sBk, q_sCt, q_sIf, q_sAsg, q_kPutN, q_sBox, q_kBox, q_sApp, q_sSetI, q_sAug, q_kAug, q_kAug2, q_mRng1, q_mRng2, q_mIt, q_kItL, q_kItT, q_addI, q_addS, q_sub, q_lt, q_le, q_gt, q_ge, q_iadd, q_isub, q_isN, q_notN, q_isNon_non, q_isNon_int, q_isNon_tup, q_isNon_lst, q_eqI, q_eqS, q_neI, q_neS, q_ixT, q_ixL, q_ixS, q_int, q_intb, q_lenT, q_lenC, q_lenL, q_min, q_max, q_tupL, q_tupT, q_listL, q_listT, q_truB, q_truI, q_truT, q_truL, q_truN, q_bind, q_toS, q_nx, q_rt, q_bk, q_ct, q_ofO, q_noex, List.set_cons_zero, List.set_cons_succ, List.getElem?_cons_zero, List.getElem?_cons_succ, Option.map_some, Option.bind_some, List.length_cons, List.length_nil, List.map_cons, List.map_nil, Nat.reduceAdd, Nat.reduceSub, Nat.reduceLeDiff, Nat.reduceEqDiff, List.replicate_succ, List.replicate_zero, List.cons_append, List.nil_append, ↓reduceIte, if_true, if_false, Bool.false_eq_true, decide_true, decide_false, Bool.not_true, Bool.not_false, and_self, and_true, true_and, or_true, true_or, not_true_eq_false, not_false_eq_true, q_v14, q_v15, q_v16, q_v17, q_mEnum, q_kEnum, q_mZip, q_kZip, q_mRev, q_kRev, q_aStar, q_kSt, q_pNone, q_pSome, q_kPart, q_mSl, q_kSl2, q_kSl3, q_kCutT, q_kCutL, q_wkL, q_wkT, q_wkS, r_wipe0, r_wipe1, r_mTup, r_kTup, r_mLst, r_kLst, r_mLC, r_kLC, r_kOkL, r_sFor, r_kFor, r_mod, r_mul, r_fdv, r_addT, r_addL, r_kR1, r_kR2, r_kRgT, r_kRgL, r_kApp, r_oApp, r_kApp2, r_oApp2, r_kItR, r_oIt, r_oItems, r_itemsR, r_ixR, r_oIx, r_lenR, r_tupR, r_listR, r_kSet2, r_kCutR, r_walkR, r_at0, r_atk, r_set0, r_setk, To_ok, To2_ok, To2_ct, q_mRgT2, q_mRgL2, q_mRgT1, q_mRgL1, q_kRgA, q_kRgB, List.length_append, List.append_assoc, Nat.zero_add, at0, at1, at2, at3, setBox]
      exact ⟨_, _, _, _, rfl, rfl⟩)
  simp (disch := (first | assumption | omega | (simp only [List.length_map, List.length_range, List.length_append, List.length_cons, List.length_nil, List.length_replicate, List.length_zipIdx, List.length_zip, rngD, sz]; omega))) only [q_runF, q_kFin, q_kFinN, q_mC, q_v0, q_v1, q_v2, q_v3, q_v4, q_v5, q_v6, q_v7, q_v8, q_v9, q_v10, q_v11, q_v12, q_v13, q_mOp, q_mTest, q_kB, q_kAnd, q_kOr, q_kNot, q_kNeg, q_kChT, q_kChF, q_mTru, q_tAnd, q_tOr, q_tNot, q_tYes, q_eAnd, q_eOr, q_eNot, q_mIf, q_aNil, q_aCons, q_mB, q_mCall, q_mNeg, q_mChain, q_sNil, q_sSeq, q_sExpr, q_sRet, q_sRetN, q_sBk, q_sCt, q_sIf, q_sAsg, q_kPutN, q_sBox, q_kBox, q_sApp, q_sSetI, q_sAug, q_kAug, q_kAug2, q_mRng1, q_mRng2, q_mIt, q_kItL, q_kItT, q_addI, q_addS, q_sub, q_lt, q_le, q_gt, q_ge, q_iadd, q_isub, q_isN, q_notN, q_isNon_non, q_isNon_int, q_isNon_tup, q_isNon_lst, q_eqI, q_eqS, q_neI, q_neS, q_ixT, q_ixL, q_ixS, q_int, q_intb, q_lenT, q_lenC, q_lenL, q_min, q_max, q_tupL, q_tupT, q_listL, q_listT, q_truB, q_truI, q_truT, q_truL, q_truN, q_bind, q_toS, q_nx, q_rt, q_bk, q_ct, q_ofO, q_noex, List.set_cons_zero, List.set_cons_succ, List.getElem?_cons_zero, List.getElem?_cons_succ, Option.map_some, Option.bind_some, List.length_cons, List.length_nil, List.map_cons, List.map_nil, Nat.reduceAdd, Nat.reduceSub, Nat.reduceLeDiff, Nat.reduceEqDiff, List.replicate_succ, List.replicate_zero, List.cons_append, List.nil_append, ↓reduceIte, if_true, if_false, Bool.false_eq_true, decide_true, decide_false, Bool.not_true, Bool.not_false, and_self, and_true, true_and, or_true, true_or, not_true_eq_false, not_false_eq_true, q_v14, q_v15, q_v16, q_v17, q_mEnum, q_kEnum, q_mZip, q_kZip, q_mRev, q_kRev, q_aStar, q_kSt, q_pNone, q_pSome, q_kPart, q_mSl, q_kSl2, q_kSl3, q_kCutT, q_kCutL, q_wkL, q_wkT, q_wkS, r_wipe0, r_wipe1, r_mTup, r_kTup, r_mLst, r_kLst, r_mLC, r_kLC, r_kOkL, r_sFor, r_kFor, r_mod, r_mul, r_fdv, r_addT, r_addL, r_kR1, r_kR2, r_kRgT, r_kRgL, r_kApp, r_oApp, r_kApp2, r_oApp2, r_kItR, r_oIt, r_oItems, r_itemsR, r_ixR, r_oIx, r_lenR, r_tupR, r_listR, r_kSet2, r_kCutR, r_walkR, r_at0, r_atk, r_set0, r_setk, To_ok, To2_ok, To2_ct, q_mRgT2, q_mRgL2, q_mRgT1, q_mRgL1, q_kRgA, q_kRgB, List.length_append, List.append_assoc, Nat.zero_add, at0, at1, at2, at3, setBox]
  (with_reducible first | refine Eq.trans (leave_same (by (repeat with_reducible first | exact lo_int | exact lo_str | exact lo_bl | exact lo_non | exact lo_itup | exact lo_oD | exact lo_row | exact los_ints _ _ | exact los_rngD | exact lo_nil | assumption | refine lo_tup ?_ | refine lo_lst ?_ | refine los_cons ?_ ?_ | refine los_map fun _ _ => ?_))) ?_ | refine Eq.trans (leave_app (by (repeat with_reducible first | exact lo_int | exact lo_str | exact lo_bl | exact lo_non | exact lo_itup | exact lo_oD | exact lo_row | exact los_ints _ _ | exact los_rngD | exact lo_nil | assumption | refine lo_tup ?_ | refine lo_lst ?_ | refine los_cons ?_ ?_ | refine los_map fun _ _ => ?_))) ?_ | refine Eq.trans (leave_new (by (repeat with_reducible first | exact lo_int | exact lo_str | exact lo_bl | exact lo_non | exact lo_itup | exact lo_oD | exact lo_row | exact los_ints _ _ | exact los_rngD | exact lo_nil | assumption | refine lo_tup ?_ | refine lo_lst ?_ | refine los_cons ?_ ?_ | refine los_map fun _ _ => ?_))) ?_ | refine Eq.trans (leave_head (box_lo _ _ _) (by (repeat with_reducible first | exact lo_int | exact lo_str | exact lo_bl | exact lo_non | exact lo_itup | exact lo_oD | exact lo_row | exact los_ints _ _ | exact los_rngD | exact lo_nil | assumption | refine lo_tup ?_ | refine lo_lst ?_ | refine los_cons ?_ ?_ | refine los_map fun _ _ => ?_))) ?_ | refine Eq.trans (leave_head_app (box_lo _ _ _) (by (repeat with_reducible first | exact lo_int | exact lo_str | exact lo_bl | exact lo_non | exact lo_itup | exact lo_oD | exact lo_row | exact los_ints _ _ | exact los_rngD | exact lo_nil | assumption | refine lo_tup ?_ | refine lo_lst ?_ | refine los_cons ?_ ?_ | refine los_map fun _ _ => ?_))) ?_ | refine Eq.trans (leave_head_new (box_lo _ _ _) (by (repeat with_reducible first | exact lo_int | exact lo_str | exact lo_bl | exact lo_non | exact lo_itup | exact lo_oD | exact lo_row | exact los_ints _ _ | exact los_rngD | exact lo_nil | assumption | refine lo_tup ?_ | refine lo_lst ?_ | refine los_cons ?_ ?_ | refine los_map fun _ _ => ?_))) ?_)
  try first | rfl | (simp only [List.map_map]; rfl)
theorem at_g {ns : List Int} {i : Nat} (h : i < ns.length) : atI (ns.map D.int) (i : Int) = some (.int (ns[i]?.getD 0)) := by
  rw [atI_nat' (by rw [List.length_map]; exact h)]
  simp [List.getElem?_eq_getElem h]
def coinsAt (coins : List Int) (ps : List (List (List Nat))) : List (List (List Int)) := ps.map fun r => r.map fun q => q.map fun i => coins[i]?.getD 0
theorem coins_by_row_is {st : Store} {coins : List Int} {ps : List (List (List Nat))} (hl : ps.length ≤ 1000) (h1 : ∀ r ∈ ps, r.length ≤ 1000) (h2 : ∀ r ∈ ps, ∀ q ∈ r, q.length ≤ 1000) (h3 : ∀ r ∈ ps, ∀ q ∈ r, ∀ i ∈ q, i < coins.length) :
    F_coins_by_row [itup coins, .tup (plcD ps)] st = .ok (.lst ((coinsAt coins ps).map fun r => .tup (r.map itup))) st := by
  simp (disch := (first | assumption | omega | (simp only [List.length_map, List.length_range, List.length_append, List.length_cons, List.length_nil, List.length_replicate, List.length_zipIdx, List.length_zip, rngD, sz]; omega))) only [F_coins_by_row, M_coins_by_row, q_runF, q_kFin, q_kFinN, q_mC, q_v0, q_v1, q_v2, q_v3, q_v4, q_v5, q_v6, q_v7, q_v8, q_v9, q_v10, q_v11, q_v12, q_v13, q_mOp, q_mTest, q_kB, q_kAnd, q_kOr, q_kNot, q_kNeg, q_kChT, q_kChF, q_mTru, q_tAnd, q_tOr, q_tNot, q_tYes, q_eAnd, q_eOr, q_eNot, q_mIf, q_aNil, q_aCons, q_mB, q_mCall, q_mNeg, q_mChain, q_sNil, q_sSeq, q_sExpr, q_sRet, q_sRetN, q_sBk, q_sCt, q_sIf, q_sAsg, q_kPutN, q_sBox, q_kBox, q_sApp, q_sSetI, q_sAug, q_kAug, q_kAug2, q_mRng1, q_mRng2, q_mIt, q_kItL, q_kItT, q_addI, q_addS, q_sub, q_lt, q_le, q_gt, q_ge, q_iadd, q_isub, q_isN, q_notN, q_isNon_non, q_isNon_int, q_isNon_tup, q_isNon_lst, q_eqI, q_eqS, q_neI, q_neS, q_ixT, q_ixL, q_ixS, q_int, q_intb, q_lenT, q_lenC, q_lenL, q_min, q_max, q_tupL, q_tupT, q_listL, q_listT, q_truB, q_truI, q_truT, q_truL, q_truN, q_bind, q_toS, q_nx, q_rt, q_bk, q_ct, q_ofO, q_noex, List.set_cons_zero, List.set_cons_succ, List.getElem?_cons_zero, List.getElem?_cons_succ, Option.map_some, Option.bind_some, List.length_cons, List.length_nil, List.map_cons, List.map_nil, Nat.reduceAdd, Nat.reduceSub, Nat.reduceLeDiff, Nat.reduceEqDiff, List.replicate_succ, List.replicate_zero, List.cons_append, List.nil_append, ↓reduceIte, if_true, if_false, Bool.false_eq_true, decide_true, decide_false, Bool.not_true, Bool.not_false, and_self, and_true, true_and, or_true, true_or, not_true_eq_false, not_false_eq_true, q_v14, q_v15, q_v16, q_v17, q_mEnum, q_kEnum, q_mZip, q_kZip, q_mRev, q_kRev, q_aStar, q_kSt, q_pNone, q_pSome, q_kPart, q_mSl, q_kSl2, q_kSl3, q_kCutT, q_kCutL, q_wkL, q_wkT, q_wkS, r_wipe0, r_wipe1, r_mTup, r_kTup, r_mLst, r_kLst, r_mLC, r_kLC, r_kOkL, r_sFor, r_kFor, r_mod, r_mul, r_fdv, r_addT, r_addL, r_kR1, r_kR2, r_kRgT, r_kRgL, r_kApp, r_oApp, r_kApp2, r_oApp2, r_kItR, r_oIt, r_oItems, r_itemsR, r_ixR, r_oIx, r_lenR, r_tupR, r_listR, r_kSet2, r_kCutR, r_walkR, r_at0, r_atk, r_set0, r_setk, To_ok, To2_ok, To2_ct, q_mRgT2, q_mRgL2, q_mRgT1, q_mRgL1, q_kRgA, q_kRgB, List.length_append, List.append_assoc, Nat.zero_add, at0, at1, at2, at3, setBox]
  rw [lcN ?h]
  case h =>
    intro r hr
    have g1 := h1 r hr
    simp (disch := (first | assumption | omega | (simp only [List.length_map, List.length_range, List.length_append, List.length_cons, List.length_nil, List.length_replicate, List.length_zipIdx, List.length_zip, rngD, sz]; omega))) only [q_runF, q_kFin, q_kFinN, q_mC, q_v0, q_v1, q_v2, q_v3, q_v4, q_v5, q_v6, q_v7, q_v8, q_v9, q_v10, q_v11, q_v12, q_v13, q_mOp, q_mTest, q_kB, q_kAnd, q_kOr, q_kNot, q_kNeg, q_kChT, q_kChF, q_mTru, q_tAnd, q_tOr, q_tNot, q_tYes, q_eAnd, q_eOr, q_eNot, q_mIf, q_aNil, q_aCons, q_mB, q_mCall, q_mNeg, q_mChain, q_sNil, q_sSeq, q_sExpr, q_sRet, q_sRetN, q_sBk, q_sCt, q_sIf, q_sAsg, q_kPutN, q_sBox, q_kBox, q_sApp, q_sSetI, q_sAug, q_kAug, q_kAug2, q_mRng1, q_mRng2, q_mIt, q_kItL, q_kItT, q_addI, q_addS, q_sub, q_lt, q_le, q_gt, q_ge, q_iadd, q_isub, q_isN, q_notN, q_isNon_non, q_isNon_int, q_isNon_tup, q_isNon_lst, q_eqI, q_eqS, q_neI, q_neS, q_ixT, q_ixL, q_ixS, q_int, q_intb, q_lenT, q_lenC, q_lenL, q_min, q_max, q_tupL, q_tupT, q_listL, q_listT, q_truB, q_truI, q_truT, q_truL, q_truN, q_bind, q_toS, q_nx, q_rt, q_bk, q_ct, q_ofO, q_noex, List.set_cons_zero, List.set_cons_succ, List.getElem?_cons_zero, List.getElem?_cons_succ, Option.map_some, Option.bind_some, List.length_cons, List.length_nil, List.map_cons, List.map_nil, Nat.reduceAdd, Nat.reduceSub, Nat.reduceLeDiff, Nat.reduceEqDiff, List.replicate_succ, List.replicate_zero, List.cons_append, List.nil_append, ↓reduceIte, if_true, if_false, Bool.false_eq_true, decide_true, decide_false, Bool.not_true, Bool.not_false, and_self, and_true, true_and, or_true, true_or, not_true_eq_false, not_false_eq_true, q_v14, q_v15, q_v16, q_v17, q_mEnum, q_kEnum, q_mZip, q_kZip, q_mRev, q_kRev, q_aStar, q_kSt, q_pNone, q_pSome, q_kPart, q_mSl, q_kSl2, q_kSl3, q_kCutT, q_kCutL, q_wkL, q_wkT, q_wkS, r_wipe0, r_wipe1, r_mTup, r_kTup, r_mLst, r_kLst, r_mLC, r_kLC, r_kOkL, r_sFor, r_kFor, r_mod, r_mul, r_fdv, r_addT, r_addL, r_kR1, r_kR2, r_kRgT, r_kRgL, r_kApp, r_oApp, r_kApp2, r_oApp2, r_kItR, r_oIt, r_oItems, r_itemsR, r_ixR, r_oIx, r_lenR, r_tupR, r_listR, r_kSet2, r_kCutR, r_walkR, r_at0, r_atk, r_set0, r_setk, To_ok, To2_ok, To2_ct, q_mRgT2, q_mRgL2, q_mRgT1, q_mRgL1, q_kRgA, q_kRgB, List.length_append, List.append_assoc, Nat.zero_add, at0, at1, at2, at3, setBox]
    rw [lcN ?h]
    case h =>
      intro q hq
      have g2 := h2 r hr q hq
      simp (disch := (first | assumption | omega | (simp only [List.length_map, List.length_range, List.length_append, List.length_cons, List.length_nil, List.length_replicate, List.length_zipIdx, List.length_zip, rngD, sz]; omega))) only [q_runF, q_kFin, q_kFinN, q_mC, q_v0, q_v1, q_v2, q_v3, q_v4, q_v5, q_v6, q_v7, q_v8, q_v9, q_v10, q_v11, q_v12, q_v13, q_mOp, q_mTest, q_kB, q_kAnd, q_kOr, q_kNot, q_kNeg, q_kChT, q_kChF, q_mTru, q_tAnd, q_tOr, q_tNot, q_tYes, q_eAnd, q_eOr, q_eNot, q_mIf, q_aNil, q_aCons, q_mB, q_mCall, q_mNeg, q_mChain, q_sNil, q_sSeq, q_sExpr, q_sRet, q_sRetN, q_sBk, q_sCt, q_sIf, q_sAsg, q_kPutN, q_sBox, q_kBox, q_sApp, q_sSetI, q_sAug, q_kAug, q_kAug2, q_mRng1, q_mRng2, q_mIt, q_kItL, q_kItT, q_addI, q_addS, q_sub, q_lt, q_le, q_gt, q_ge, q_iadd, q_isub, q_isN, q_notN, q_isNon_non, q_isNon_int, q_isNon_tup, q_isNon_lst, q_eqI, q_eqS, q_neI, q_neS, q_ixT, q_ixL, q_ixS, q_int, q_intb, q_lenT, q_lenC, q_lenL, q_min, q_max, q_tupL, q_tupT, q_listL, q_listT, q_truB, q_truI, q_truT, q_truL, q_truN, q_bind, q_toS, q_nx, q_rt, q_bk, q_ct, q_ofO, q_noex, List.set_cons_zero, List.set_cons_succ, List.getElem?_cons_zero, List.getElem?_cons_succ, Option.map_some, Option.bind_some, List.length_cons, List.length_nil, List.map_cons, List.map_nil, Nat.reduceAdd, Nat.reduceSub, Nat.reduceLeDiff, Nat.reduceEqDiff, List.replicate_succ, List.replicate_zero, List.cons_append, List.nil_append, ↓reduceIte, if_true, if_false, Bool.false_eq_true, decide_true, decide_false, Bool.not_true, Bool.not_false, and_self, and_true, true_and, or_true, true_or, not_true_eq_false, not_false_eq_true, q_v14, q_v15, q_v16, q_v17, q_mEnum, q_kEnum, q_mZip, q_kZip, q_mRev, q_kRev, q_aStar, q_kSt, q_pNone, q_pSome, q_kPart, q_mSl, q_kSl2, q_kSl3, q_kCutT, q_kCutL, q_wkL, q_wkT, q_wkS, r_wipe0, r_wipe1, r_mTup, r_kTup, r_mLst, r_kLst, r_mLC, r_kLC, r_kOkL, r_sFor, r_kFor, r_mod, r_mul, r_fdv, r_addT, r_addL, r_kR1, r_kR2, r_kRgT, r_kRgL, r_kApp, r_oApp, r_kApp2, r_oApp2, r_kItR, r_oIt, r_oItems, r_itemsR, r_ixR, r_oIx, r_lenR, r_tupR, r_listR, r_kSet2, r_kCutR, r_walkR, r_at0, r_atk, r_set0, r_setk, To_ok, To2_ok, To2_ct, q_mRgT2, q_mRgL2, q_mRgT1, q_mRgL1, q_kRgA, q_kRgB, List.length_append, List.append_assoc, Nat.zero_add, at0, at1, at2, at3, setBox]
      rw [lcN ?h]
      case h =>
        intro i hi
        have g3 := h3 r hr q hq i hi
        simp (disch := (first | assumption | omega | (simp only [List.length_map, List.length_range, List.length_append, List.length_cons, List.length_nil, List.length_replicate, List.length_zipIdx, List.length_zip, rngD, sz]; omega))) only [at_g g3, q_runF, q_kFin, q_kFinN, q_mC, q_v0, q_v1, q_v2, q_v3, q_v4, q_v5, q_v6, q_v7, q_v8, q_v9, q_v10, q_v11, q_v12, q_v13, q_mOp, q_mTest, q_kB, q_kAnd, q_kOr, q_kNot, q_kNeg, q_kChT, q_kChF, q_mTru, q_tAnd, q_tOr, q_tNot, q_tYes, q_eAnd, q_eOr, q_eNot, q_mIf, q_aNil, q_aCons, q_mB, q_mCall, q_mNeg, q_mChain, q_sNil, q_sSeq, q_sExpr, q_sRet, q_sRetN, q_sBk, q_sCt, q_sIf, q_sAsg, q_kPutN, q_sBox, q_kBox, q_sApp, q_sSetI, q_sAug, q_kAug, q_kAug2, q_mRng1, q_mRng2, q_mIt, q_kItL, q_kItT, q_addI, q_addS, q_sub, q_lt, q_le, q_gt, q_ge, q_iadd, q_isub, q_isN, q_notN, q_isNon_non, q_isNon_int, q_isNon_tup, q_isNon_lst, q_eqI, q_eqS, q_neI, q_neS, q_ixT, q_ixL, q_ixS, q_int, q_intb, q_lenT, q_lenC, q_lenL, q_min, q_max, q_tupL, q_tupT, q_listL, q_listT, q_truB, q_truI, q_truT, q_truL, q_truN, q_bind, q_toS, q_nx, q_rt, q_bk, q_ct, q_ofO, q_noex, List.set_cons_zero, List.set_cons_succ, List.getElem?_cons_zero, List.getElem?_cons_succ, Option.map_some, Option.bind_some, List.length_cons, List.length_nil, List.map_cons, List.map_nil, Nat.reduceAdd, Nat.reduceSub, Nat.reduceLeDiff, Nat.reduceEqDiff, List.replicate_succ, List.replicate_zero, List.cons_append, List.nil_append, ↓reduceIte, if_true, if_false, Bool.false_eq_true, decide_true, decide_false, Bool.not_true, Bool.not_false, and_self, and_true, true_and, or_true, true_or, not_true_eq_false, not_false_eq_true, q_v14, q_v15, q_v16, q_v17, q_mEnum, q_kEnum, q_mZip, q_kZip, q_mRev, q_kRev, q_aStar, q_kSt, q_pNone, q_pSome, q_kPart, q_mSl, q_kSl2, q_kSl3, q_kCutT, q_kCutL, q_wkL, q_wkT, q_wkS, r_wipe0, r_wipe1, r_mTup, r_kTup, r_mLst, r_kLst, r_mLC, r_kLC, r_kOkL, r_sFor, r_kFor, r_mod, r_mul, r_fdv, r_addT, r_addL, r_kR1, r_kR2, r_kRgT, r_kRgL, r_kApp, r_oApp, r_kApp2, r_oApp2, r_kItR, r_oIt, r_oItems, r_itemsR, r_ixR, r_oIx, r_lenR, r_tupR, r_listR, r_kSet2, r_kCutR, r_walkR, r_at0, r_atk, r_set0, r_setk, To_ok, To2_ok, To2_ct, q_mRgT2, q_mRgL2, q_mRgT1, q_mRgL1, q_kRgA, q_kRgB, List.length_append, List.append_assoc, Nat.zero_add, at0, at1, at2, at3, setBox]
        rfl
      simp (disch := (first | assumption | omega | (simp only [List.length_map, List.length_range, List.length_append, List.length_cons, List.length_nil, List.length_replicate, List.length_zipIdx, List.length_zip, rngD, sz]; omega))) only [q_runF, q_kFin, q_kFinN, q_mC, q_v0, q_v1, q_v2, q_v3, q_v4, q_v5, q_v6, q_v7, q_v8, q_v9, q_v10, q_v11, q_v12, q_v13, q_mOp, q_mTest, q_kB, q_kAnd, q_kOr, q_kNot, q_kNeg, q_kChT, q_kChF, q_mTru, q_tAnd, q_tOr, q_tNot, q_tYes, q_eAnd, q_eOr, q_eNot, q_mIf, q_aNil, q_aCons, q_mB, q_mCall, q_mNeg, q_mChain, q_sNil, q_sSeq, q_sExpr, q_sRet, q_sRetN, q_sBk, q_sCt, q_sIf, q_sAsg, q_kPutN, q_sBox, q_kBox, q_sApp, q_sSetI, q_sAug, q_kAug, q_kAug2, q_mRng1, q_mRng2, q_mIt, q_kItL, q_kItT, q_addI, q_addS, q_sub, q_lt, q_le, q_gt, q_ge, q_iadd, q_isub, q_isN, q_notN, q_isNon_non, q_isNon_int, q_isNon_tup, q_isNon_lst, q_eqI, q_eqS, q_neI, q_neS, q_ixT, q_ixL, q_ixS, q_int, q_intb, q_lenT, q_lenC, q_lenL, q_min, q_max, q_tupL, q_tupT, q_listL, q_listT, q_truB, q_truI, q_truT, q_truL, q_truN, q_bind, q_toS, q_nx, q_rt, q_bk, q_ct, q_ofO, q_noex, List.set_cons_zero, List.set_cons_succ, List.getElem?_cons_zero, List.getElem?_cons_succ, Option.map_some, Option.bind_some, List.length_cons, List.length_nil, List.map_cons, List.map_nil, Nat.reduceAdd, Nat.reduceSub, Nat.reduceLeDiff, Nat.reduceEqDiff, List.replicate_succ, List.replicate_zero, List.cons_append, List.nil_append, ↓reduceIte, if_true, if_false, Bool.false_eq_true, decide_true, decide_false, Bool.not_true, Bool.not_false, and_self, and_true, true_and, or_true, true_or, not_true_eq_false, not_false_eq_true, q_v14, q_v15, q_v16, q_v17, q_mEnum, q_kEnum, q_mZip, q_kZip, q_mRev, q_kRev, q_aStar, q_kSt, q_pNone, q_pSome, q_kPart, q_mSl, q_kSl2, q_kSl3, q_kCutT, q_kCutL, q_wkL, q_wkT, q_wkS, r_wipe0, r_wipe1, r_mTup, r_kTup, r_mLst, r_kLst, r_mLC, r_kLC, r_kOkL, r_sFor, r_kFor, r_mod, r_mul, r_fdv, r_addT, r_addL, r_kR1, r_kR2, r_kRgT, r_kRgL, r_kApp, r_oApp, r_kApp2, r_oApp2, r_kItR, r_oIt, r_oItems, r_itemsR, r_ixR, r_oIx, r_lenR, r_tupR, r_listR, r_kSet2, r_kCutR, r_walkR, r_at0, r_atk, r_set0, r_setk, To_ok, To2_ok, To2_ct, q_mRgT2, q_mRgL2, q_mRgT1, q_mRgL1, q_kRgA, q_kRgB, List.length_append, List.append_assoc, Nat.zero_add, at0, at1, at2, at3, setBox]
      rfl
    simp (disch := (first | assumption | omega | (simp only [List.length_map, List.length_range, List.length_append, List.length_cons, List.length_nil, List.length_replicate, List.length_zipIdx, List.length_zip, rngD, sz]; omega))) only [q_runF, q_kFin, q_kFinN, q_mC, q_v0, q_v1, q_v2, q_v3, q_v4, q_v5, q_v6, q_v7, q_v8, q_v9, q_v10, q_v11, q_v12, q_v13, q_mOp, q_mTest, q_kB, q_kAnd, q_kOr, q_kNot, q_kNeg, q_kChT, q_kChF, q_mTru, q_tAnd, q_tOr, q_tNot, q_tYes, q_eAnd, q_eOr, q_eNot, q_mIf, q_aNil, q_aCons, q_mB, q_mCall, q_mNeg, q_mChain, q_sNil, q_sSeq, q_sExpr, q_sRet, q_sRetN, q_sBk, q_sCt, q_sIf, q_sAsg, q_kPutN, q_sBox, q_kBox, q_sApp, q_sSetI, q_sAug, q_kAug, q_kAug2, q_mRng1, q_mRng2, q_mIt, q_kItL, q_kItT, q_addI, q_addS, q_sub, q_lt, q_le, q_gt, q_ge, q_iadd, q_isub, q_isN, q_notN, q_isNon_non, q_isNon_int, q_isNon_tup, q_isNon_lst, q_eqI, q_eqS, q_neI, q_neS, q_ixT, q_ixL, q_ixS, q_int, q_intb, q_lenT, q_lenC, q_lenL, q_min, q_max, q_tupL, q_tupT, q_listL, q_listT, q_truB, q_truI, q_truT, q_truL, q_truN, q_bind, q_toS, q_nx, q_rt, q_bk, q_ct, q_ofO, q_noex, List.set_cons_zero, List.set_cons_succ, List.getElem?_cons_zero, List.getElem?_cons_succ, Option.map_some, Option.bind_some, List.length_cons, List.length_nil, List.map_cons, List.map_nil, Nat.reduceAdd, Nat.reduceSub, Nat.reduceLeDiff, Nat.reduceEqDiff, List.replicate_succ, List.replicate_zero, List.cons_append, List.nil_append, ↓reduceIte, if_true, if_false, Bool.false_eq_true, decide_true, decide_false, Bool.not_true, Bool.not_false, and_self, and_true, true_and, or_true, true_or, not_true_eq_false, not_false_eq_true, q_v14, q_v15, q_v16, q_v17, q_mEnum, q_kEnum, q_mZip, q_kZip, q_mRev, q_kRev, q_aStar, q_kSt, q_pNone, q_pSome, q_kPart, q_mSl, q_kSl2, q_kSl3, q_kCutT, q_kCutL, q_wkL, q_wkT, q_wkS, r_wipe0, r_wipe1, r_mTup, r_kTup, r_mLst, r_kLst, r_mLC, r_kLC, r_kOkL, r_sFor, r_kFor, r_mod, r_mul, r_fdv, r_addT, r_addL, r_kR1, r_kR2, r_kRgT, r_kRgL, r_kApp, r_oApp, r_kApp2, r_oApp2, r_kItR, r_oIt, r_oItems, r_itemsR, r_ixR, r_oIx, r_lenR, r_tupR, r_listR, r_kSet2, r_kCutR, r_walkR, r_at0, r_atk, r_set0, r_setk, To_ok, To2_ok, To2_ct, q_mRgT2, q_mRgL2, q_mRgT1, q_mRgL1, q_kRgA, q_kRgB, List.length_append, List.append_assoc, Nat.zero_add, at0, at1, at2, at3, setBox]
    rfl
  simp (disch := (first | assumption | omega | (simp only [List.length_map, List.length_range, List.length_append, List.length_cons, List.length_nil, List.length_replicate, List.length_zipIdx, List.length_zip, rngD, sz]; omega))) only [q_runF, q_kFin, q_kFinN, q_mC, q_v0, q_v1, q_v2, q_v3, q_v4, q_v5, q_v6, q_v7, q_v8, q_v9, q_v10, q_v11, q_v12, q_v13, q_mOp, q_mTest, q_kB, q_kAnd, q_kOr, q_kNot, q_kNeg, q_kChT, q_kChF, q_mTru, q_tAnd, q_tOr, q_tNot, q_tYes, q_eAnd, q_eOr, q_eNot, q_mIf, q_aNil, q_aCons, q_mB, q_mCall, q_mNeg, q_mChain, q_sNil, q_sSeq, q_sExpr, q_sRet, q_sRetN, q_sBk, q_sCt, q_sIf, q_sAsg, q_kPutN, q_sBox, q_kBox, q_sApp, q_sSetI, q_sAug, q_kAug, q_kAug2, q_mRng1, q_mRng2, q_mIt, q_kItL, q_kItT, q_addI, q_addS, q_sub, q_lt, q_le, q_gt, q_ge, q_iadd, q_isub, q_isN, q_notN, q_isNon_non, q_isNon_int, q_isNon_tup, q_isNon_lst, q_eqI, q_eqS, q_neI, q_neS, q_ixT, q_ixL, q_ixS, q_int, q_intb, q_lenT, q_lenC, q_lenL, q_min, q_max, q_tupL, q_tupT, q_listL, q_listT, q_truB, q_truI, q_truT, q_truL, q_truN, q_bind, q_toS, q_nx, q_rt, q_bk, q_ct, q_ofO, q_noex, List.set_cons_zero, List.set_cons_succ, List.getElem?_cons_zero, List.getElem?_cons_succ, Option.map_some, Option.bind_some, List.length_cons, List.length_nil, List.map_cons, List.map_nil, Nat.reduceAdd, Nat.reduceSub, Nat.reduceLeDiff, Nat.reduceEqDiff, List.replicate_succ, List.replicate_zero, List.cons_append, List.nil_append, ↓reduceIte, if_true, if_false, Bool.false_eq_true, decide_true, decide_false, Bool.not_true, Bool.not_false, and_self, and_true, true_and, or_true, true_or, not_true_eq_false, not_false_eq_true, q_v14, q_v15, q_v16, q_v17, q_mEnum, q_kEnum, q_mZip, q_kZip, q_mRev, q_kRev, q_aStar, q_kSt, q_pNone, q_pSome, q_kPart, q_mSl, q_kSl2, q_kSl3, q_kCutT, q_kCutL, q_wkL, q_wkT, q_wkS, r_wipe0, r_wipe1, r_mTup, r_kTup, r_mLst, r_kLst, r_mLC, r_kLC, r_kOkL, r_sFor, r_kFor, r_mod, r_mul, r_fdv, r_addT, r_addL, r_kR1, r_kR2, r_kRgT, r_kRgL, r_kApp, r_oApp, r_kApp2, r_oApp2, r_kItR, r_oIt, r_oItems, r_itemsR, r_ixR, r_oIx, r_lenR, r_tupR, r_listR, r_kSet2, r_kCutR, r_walkR, r_at0, r_atk, r_set0, r_setk, To_ok, To2_ok, To2_ct, q_mRgT2, q_mRgL2, q_mRgT1, q_mRgL1, q_kRgA, q_kRgB, List.length_append, List.append_assoc, Nat.zero_add, at0, at1, at2, at3, setBox]
  (with_reducible first | refine Eq.trans (leave_same (by (repeat with_reducible first | exact lo_int | exact lo_str | exact lo_bl | exact lo_non | exact lo_itup | exact lo_oD | exact lo_row | exact los_ints _ _ | exact los_rngD | exact lo_nil | assumption | refine lo_tup ?_ | refine lo_lst ?_ | refine los_cons ?_ ?_ | refine los_map fun _ _ => ?_))) ?_ | refine Eq.trans (leave_app (by (repeat with_reducible first | exact lo_int | exact lo_str | exact lo_bl | exact lo_non | exact lo_itup | exact lo_oD | exact lo_row | exact los_ints _ _ | exact los_rngD | exact lo_nil | assumption | refine lo_tup ?_ | refine lo_lst ?_ | refine los_cons ?_ ?_ | refine los_map fun _ _ => ?_))) ?_ | refine Eq.trans (leave_new (by (repeat with_reducible first | exact lo_int | exact lo_str | exact lo_bl | exact lo_non | exact lo_itup | exact lo_oD | exact lo_row | exact los_ints _ _ | exact los_rngD | exact lo_nil | assumption | refine lo_tup ?_ | refine lo_lst ?_ | refine los_cons ?_ ?_ | refine los_map fun _ _ => ?_))) ?_ | refine Eq.trans (leave_head (box_lo _ _ _) (by (repeat with_reducible first | exact lo_int | exact lo_str | exact lo_bl | exact lo_non | exact lo_itup | exact lo_oD | exact lo_row | exact los_ints _ _ | exact los_rngD | exact lo_nil | assumption | refine lo_tup ?_ | refine lo_lst ?_ | refine los_cons ?_ ?_ | refine los_map fun _ _ => ?_))) ?_ | refine Eq.trans (leave_head_app (box_lo _ _ _) (by (repeat with_reducible first | exact lo_int | exact lo_str | exact lo_bl | exact lo_non | exact lo_itup | exact lo_oD | exact lo_row | exact los_ints _ _ | exact los_rngD | exact lo_nil | assumption | refine lo_tup ?_ | refine lo_lst ?_ | refine los_cons ?_ ?_ | refine los_map fun _ _ => ?_))) ?_ | refine Eq.trans (leave_head_new (box_lo _ _ _) (by (repeat with_reducible first | exact lo_int | exact lo_str | exact lo_bl | exact lo_non | exact lo_itup | exact lo_oD | exact lo_row | exact los_ints _ _ | exact los_rngD | exact lo_nil | assumption | refine lo_tup ?_ | refine lo_lst ?_ | refine los_cons ?_ ?_ | refine los_map fun _ _ => ?_))) ?_)
  simp only [coinsAt, itup, List.map_map, Function.comp_def]
theorem rep1 {st : Store} {x : D} {k : Int} (h0 : -1000 ≤ k) (h1 : k ≤ 1000) : dRep st (.tup [x]) (.int k) = some (.tup (List.replicate k.toNat x)) := by
  rw [q_repT (List.cons_ne_nil _ _) h0 h1 (by simp)]
  congr 2
  generalize k.toNat = m
  induction m with
  | zero => rfl
  | succ m ih => rw [List.replicate_succ, List.flatten_cons, ih, List.replicate_succ]; rfl
def shrN (n : Nat) : Rw → Nat
  | .inp _ => 1
  | .kep _ => n
  | .pro _ _ => n
  | _ => 0
theorem shr_nat (n : Nat) (r : Rw) : shr (n : Int) r = (shrN n r : Int) := by cases r <;> rfl
def sizesOf (n t : Nat) (rs : List Rw) : List (List Nat) := rs.map fun r => List.replicate (shrN n r) t
def plcOf (n t : Nat) (rs : List Rw) : List (List (List Nat)) := placedN 0 (sizesOf n t rs)
theorem shrN_le {n : Nat} (h : n ≤ 9) (r : Rw) : shrN n r ≤ 9 := by cases r <;> simp only [shrN] <;> omega
theorem sizes_sum {n t : Nat} (h : n ≤ 9) (h2 : t ≤ 9) : ∀ rs : List Rw, (sizesOf n t rs).flatten.sum ≤ 81 * rs.length
  | [] => by simp [sizesOf]
  | r :: rs => by
    have a := sizes_sum h h2 rs
    have b := shrN_le h r
    have e : (sizesOf n t (r :: rs)).flatten.sum = shrN n r * t + (sizesOf n t rs).flatten.sum := by simp [sizesOf]
    have c : shrN n r * t ≤ 9 * 9 := Nat.mul_le_mul b h2
    rw [e, List.length_cons]
    omega
theorem places_is {st : Store} {p : Int} {n t : Nat} {rs : List Rw} (hz : rs.length ≤ 1000) (h9 : n ≤ 9) (t9 : t ≤ 9) : F_places [settD p n t, progD rs] st = .ok (.tup (plcD (plcOf n t rs))) st := by
  simp (disch := (first | assumption | omega | (simp only [List.length_map, List.length_range, List.length_append, List.length_cons, List.length_nil, List.length_replicate, List.length_zipIdx, List.length_zip, rngD, sz]; omega))) only [F_places, M_places, q_runF, q_kFin, q_kFinN, q_mC, q_v0, q_v1, q_v2, q_v3, q_v4, q_v5, q_v6, q_v7, q_v8, q_v9, q_v10, q_v11, q_v12, q_v13, q_mOp, q_mTest, q_kB, q_kAnd, q_kOr, q_kNot, q_kNeg, q_kChT, q_kChF, q_mTru, q_tAnd, q_tOr, q_tNot, q_tYes, q_eAnd, q_eOr, q_eNot, q_mIf, q_aNil, q_aCons, q_mB, q_mCall, q_mNeg, q_mChain, q_sNil, q_sSeq, q_sExpr, q_sRet, q_sRetN, q_sBk, q_sCt, q_sIf, q_sAsg, q_kPutN, q_sBox, q_kBox, q_sApp, q_sSetI, q_sAug, q_kAug, q_kAug2, q_mRng1, q_mRng2, q_mIt, q_kItL, q_kItT, q_addI, q_addS, q_sub, q_lt, q_le, q_gt, q_ge, q_iadd, q_isub, q_isN, q_notN, q_isNon_non, q_isNon_int, q_isNon_tup, q_isNon_lst, q_eqI, q_eqS, q_neI, q_neS, q_ixT, q_ixL, q_ixS, q_int, q_intb, q_lenT, q_lenC, q_lenL, q_min, q_max, q_tupL, q_tupT, q_listL, q_listT, q_truB, q_truI, q_truT, q_truL, q_truN, q_bind, q_toS, q_nx, q_rt, q_bk, q_ct, q_ofO, q_noex, List.set_cons_zero, List.set_cons_succ, List.getElem?_cons_zero, List.getElem?_cons_succ, Option.map_some, Option.bind_some, List.length_cons, List.length_nil, List.map_cons, List.map_nil, Nat.reduceAdd, Nat.reduceSub, Nat.reduceLeDiff, Nat.reduceEqDiff, List.replicate_succ, List.replicate_zero, List.cons_append, List.nil_append, ↓reduceIte, if_true, if_false, Bool.false_eq_true, decide_true, decide_false, Bool.not_true, Bool.not_false, and_self, and_true, true_and, or_true, true_or, not_true_eq_false, not_false_eq_true, q_v14, q_v15, q_v16, q_v17, q_mEnum, q_kEnum, q_mZip, q_kZip, q_mRev, q_kRev, q_aStar, q_kSt, q_pNone, q_pSome, q_kPart, q_mSl, q_kSl2, q_kSl3, q_kCutT, q_kCutL, q_wkL, q_wkT, q_wkS, r_wipe0, r_wipe1, r_mTup, r_kTup, r_mLst, r_kLst, r_mLC, r_kLC, r_kOkL, r_sFor, r_kFor, r_mod, r_mul, r_fdv, r_addT, r_addL, r_kR1, r_kR2, r_kRgT, r_kRgL, r_kApp, r_oApp, r_kApp2, r_oApp2, r_kItR, r_oIt, r_oItems, r_itemsR, r_ixR, r_oIx, r_lenR, r_tupR, r_listR, r_kSet2, r_kCutR, r_walkR, r_at0, r_atk, r_set0, r_setk, To_ok, To2_ok, To2_ct, q_mRgT2, q_mRgL2, q_mRgT1, q_mRgL1, q_kRgA, q_kRgB, List.length_append, List.append_assoc, Nat.zero_add, at0, at1, at2, at3, setBox]
  rw [lcN ?h]
  case h =>
    intro r hr
    have e1 := sharings_is (st := st) (p := p) (n := n) (t := t) (r := r)
    rw [shr_nat] at e1
    have b := shrN_le h9 r
    simp (disch := (first | assumption | omega | (simp only [List.length_map, List.length_range, List.length_append, List.length_cons, List.length_nil, List.length_replicate, List.length_zipIdx, List.length_zip, rngD, sz]; omega))) only [e1, rep1, q_runF, q_kFin, q_kFinN, q_mC, q_v0, q_v1, q_v2, q_v3, q_v4, q_v5, q_v6, q_v7, q_v8, q_v9, q_v10, q_v11, q_v12, q_v13, q_mOp, q_mTest, q_kB, q_kAnd, q_kOr, q_kNot, q_kNeg, q_kChT, q_kChF, q_mTru, q_tAnd, q_tOr, q_tNot, q_tYes, q_eAnd, q_eOr, q_eNot, q_mIf, q_aNil, q_aCons, q_mB, q_mCall, q_mNeg, q_mChain, q_sNil, q_sSeq, q_sExpr, q_sRet, q_sRetN, q_sBk, q_sCt, q_sIf, q_sAsg, q_kPutN, q_sBox, q_kBox, q_sApp, q_sSetI, q_sAug, q_kAug, q_kAug2, q_mRng1, q_mRng2, q_mIt, q_kItL, q_kItT, q_addI, q_addS, q_sub, q_lt, q_le, q_gt, q_ge, q_iadd, q_isub, q_isN, q_notN, q_isNon_non, q_isNon_int, q_isNon_tup, q_isNon_lst, q_eqI, q_eqS, q_neI, q_neS, q_ixT, q_ixL, q_ixS, q_int, q_intb, q_lenT, q_lenC, q_lenL, q_min, q_max, q_tupL, q_tupT, q_listL, q_listT, q_truB, q_truI, q_truT, q_truL, q_truN, q_bind, q_toS, q_nx, q_rt, q_bk, q_ct, q_ofO, q_noex, List.set_cons_zero, List.set_cons_succ, List.getElem?_cons_zero, List.getElem?_cons_succ, Option.map_some, Option.bind_some, List.length_cons, List.length_nil, List.map_cons, List.map_nil, Nat.reduceAdd, Nat.reduceSub, Nat.reduceLeDiff, Nat.reduceEqDiff, List.replicate_succ, List.replicate_zero, List.cons_append, List.nil_append, ↓reduceIte, if_true, if_false, Bool.false_eq_true, decide_true, decide_false, Bool.not_true, Bool.not_false, and_self, and_true, true_and, or_true, true_or, not_true_eq_false, not_false_eq_true, q_v14, q_v15, q_v16, q_v17, q_mEnum, q_kEnum, q_mZip, q_kZip, q_mRev, q_kRev, q_aStar, q_kSt, q_pNone, q_pSome, q_kPart, q_mSl, q_kSl2, q_kSl3, q_kCutT, q_kCutL, q_wkL, q_wkT, q_wkS, r_wipe0, r_wipe1, r_mTup, r_kTup, r_mLst, r_kLst, r_mLC, r_kLC, r_kOkL, r_sFor, r_kFor, r_mod, r_mul, r_fdv, r_addT, r_addL, r_kR1, r_kR2, r_kRgT, r_kRgL, r_kApp, r_oApp, r_kApp2, r_oApp2, r_kItR, r_oIt, r_oItems, r_itemsR, r_ixR, r_oIx, r_lenR, r_tupR, r_listR, r_kSet2, r_kCutR, r_walkR, r_at0, r_atk, r_set0, r_setk, To_ok, To2_ok, To2_ct, q_mRgT2, q_mRgL2, q_mRgT1, q_mRgL1, q_kRgA, q_kRgB, List.length_append, List.append_assoc, Nat.zero_add, at0, at1, at2, at3, setBox]
    rfl
  have hs := sizes_sum h9 t9 rs
  have e2 : F_placed [.lst (rs.map fun r => .tup (List.replicate ((shrN n r : Nat) : Int).toNat (.int (t : Int))))] st = .ok (.tup (plcD (plcOf n t rs))) st := by
    have := placed_is (st := st) (sizes := sizesOf n t rs) (by simpa [sizesOf] using hz) (fun r hr => by
      obtain ⟨q, _, rfl⟩ := List.mem_map.mp hr
      have b := shrN_le h9 q
      rw [List.length_replicate]; omega) (by omega)
    rw [← plcOf] at this
    rw [← this]
    simp [szD, sizesOf, natT, Function.comp_def]
  simp (disch := (first | assumption | omega | (simp only [List.length_map, List.length_range, List.length_append, List.length_cons, List.length_nil, List.length_replicate, List.length_zipIdx, List.length_zip, rngD, sz]; omega))) only [e2, q_runF, q_kFin, q_kFinN, q_mC, q_v0, q_v1, q_v2, q_v3, q_v4, q_v5, q_v6, q_v7, q_v8, q_v9, q_v10, q_v11, q_v12, q_v13, q_mOp, q_mTest, q_kB, q_kAnd, q_kOr, q_kNot, q_kNeg, q_kChT, q_kChF, q_mTru, q_tAnd, q_tOr, q_tNot, q_tYes, q_eAnd, q_eOr, q_eNot, q_mIf, q_aNil, q_aCons, q_mB, q_mCall, q_mNeg, q_mChain, q_sNil, q_sSeq, q_sExpr, q_sRet, q_sRetN, q_sBk, q_sCt, q_sIf, q_sAsg, q_kPutN, q_sBox, q_kBox, q_sApp, q_sSetI, q_sAug, q_kAug, q_kAug2, q_mRng1, q_mRng2, q_mIt, q_kItL, q_kItT, q_addI, q_addS, q_sub, q_lt, q_le, q_gt, q_ge, q_iadd, q_isub, q_isN, q_notN, q_isNon_non, q_isNon_int, q_isNon_tup, q_isNon_lst, q_eqI, q_eqS, q_neI, q_neS, q_ixT, q_ixL, q_ixS, q_int, q_intb, q_lenT, q_lenC, q_lenL, q_min, q_max, q_tupL, q_tupT, q_listL, q_listT, q_truB, q_truI, q_truT, q_truL, q_truN, q_bind, q_toS, q_nx, q_rt, q_bk, q_ct, q_ofO, q_noex, List.set_cons_zero, List.set_cons_succ, List.getElem?_cons_zero, List.getElem?_cons_succ, Option.map_some, Option.bind_some, List.length_cons, List.length_nil, List.map_cons, List.map_nil, Nat.reduceAdd, Nat.reduceSub, Nat.reduceLeDiff, Nat.reduceEqDiff, List.replicate_succ, List.replicate_zero, List.cons_append, List.nil_append, ↓reduceIte, if_true, if_false, Bool.false_eq_true, decide_true, decide_false, Bool.not_true, Bool.not_false, and_self, and_true, true_and, or_true, true_or, not_true_eq_false, not_false_eq_true, q_v14, q_v15, q_v16, q_v17, q_mEnum, q_kEnum, q_mZip, q_kZip, q_mRev, q_kRev, q_aStar, q_kSt, q_pNone, q_pSome, q_kPart, q_mSl, q_kSl2, q_kSl3, q_kCutT, q_kCutL, q_wkL, q_wkT, q_wkS, r_wipe0, r_wipe1, r_mTup, r_kTup, r_mLst, r_kLst, r_mLC, r_kLC, r_kOkL, r_sFor, r_kFor, r_mod, r_mul, r_fdv, r_addT, r_addL, r_kR1, r_kR2, r_kRgT, r_kRgL, r_kApp, r_oApp, r_kApp2, r_oApp2, r_kItR, r_oIt, r_oItems, r_itemsR, r_ixR, r_oIx, r_lenR, r_tupR, r_listR, r_kSet2, r_kCutR, r_walkR, r_at0, r_atk, r_set0, r_setk, To_ok, To2_ok, To2_ct, q_mRgT2, q_mRgL2, q_mRgT1, q_mRgL1, q_kRgA, q_kRgB, List.length_append, List.append_assoc, Nat.zero_add, at0, at1, at2, at3, setBox]
  (with_reducible first | refine Eq.trans (leave_same (by (repeat with_reducible first | exact lo_int | exact lo_str | exact lo_bl | exact lo_non | exact lo_itup | exact lo_oD | exact lo_row | exact los_ints _ _ | exact los_rngD | exact lo_nil | assumption | refine lo_tup ?_ | refine lo_lst ?_ | refine los_cons ?_ ?_ | refine los_map fun _ _ => ?_))) ?_ | refine Eq.trans (leave_app (by (repeat with_reducible first | exact lo_int | exact lo_str | exact lo_bl | exact lo_non | exact lo_itup | exact lo_oD | exact lo_row | exact los_ints _ _ | exact los_rngD | exact lo_nil | assumption | refine lo_tup ?_ | refine lo_lst ?_ | refine los_cons ?_ ?_ | refine los_map fun _ _ => ?_))) ?_ | refine Eq.trans (leave_new (by (repeat with_reducible first | exact lo_int | exact lo_str | exact lo_bl | exact lo_non | exact lo_itup | exact lo_oD | exact lo_row | exact los_ints _ _ | exact los_rngD | exact lo_nil | assumption | refine lo_tup ?_ | refine lo_lst ?_ | refine los_cons ?_ ?_ | refine los_map fun _ _ => ?_))) ?_ | refine Eq.trans (leave_head (box_lo _ _ _) (by (repeat with_reducible first | exact lo_int | exact lo_str | exact lo_bl | exact lo_non | exact lo_itup | exact lo_oD | exact lo_row | exact los_ints _ _ | exact los_rngD | exact lo_nil | assumption | refine lo_tup ?_ | refine lo_lst ?_ | refine los_cons ?_ ?_ | refine los_map fun _ _ => ?_))) ?_ | refine Eq.trans (leave_head_app (box_lo _ _ _) (by (repeat with_reducible first | exact lo_int | exact lo_str | exact lo_bl | exact lo_non | exact lo_itup | exact lo_oD | exact lo_row | exact los_ints _ _ | exact los_rngD | exact lo_nil | assumption | refine lo_tup ?_ | refine lo_lst ?_ | refine los_cons ?_ ?_ | refine los_map fun _ _ => ?_))) ?_ | refine Eq.trans (leave_head_new (box_lo _ _ _) (by (repeat with_reducible first | exact lo_int | exact lo_str | exact lo_bl | exact lo_non | exact lo_itup | exact lo_oD | exact lo_row | exact los_ints _ _ | exact los_rngD | exact lo_nil | assumption | refine lo_tup ?_ | refine lo_lst ?_ | refine los_cons ?_ ?_ | refine los_map fun _ _ => ?_))) ?_)
  try first | rfl | (simp only [List.map_map]; rfl)
end Zp
namespace Zp
open PySem L2 Zv PyProof.Rows Zn
/-! ## small data: its text is told -/
structure Sm (k w : Nat) (d : D) : Prop where
  s : d.small = true
  p : d.dep ≤ k
  w : d.wei ≤ w
theorem Sm.int {k w : Nat} {i : Int} (h : -(2 ^ 64) < i ∧ i < 2 ^ 64) (hw : 65 ≤ w) : Sm k w (.int i) := ⟨by simp only [D.small, decide_eq_true_eq]; omega, by simp [D.dep], by simpa [D.wei] using hw⟩
theorem Sm.non {k w : Nat} : Sm k w .non := ⟨rfl, by simp [D.dep], by simp [D.wei]⟩
theorem Sm.mono {k w k' w' : Nat} {d : D} (h : Sm k w d) (hk : k ≤ k') (hw : w ≤ w') : Sm k' w' d := ⟨h.s, Nat.le_trans h.p hk, Nat.le_trans h.w hw⟩
theorem sms {k w : Nat} : ∀ {xs : List D}, (∀ x ∈ xs, Sm k w x) → D.smalls xs = true ∧ D.deps xs ≤ k ∧ D.weis xs ≤ xs.length * (w + 1)
  | [], _ => ⟨rfl, Nat.zero_le _, Nat.zero_le _⟩
  | x :: xs, h => by
    obtain ⟨a, b, c⟩ := sms (xs := xs) fun y hy => h y (List.mem_cons_of_mem _ hy)
    have g := h x List.mem_cons_self
    refine ⟨by rw [D.smalls, g.s, a]; rfl, ?_, ?_⟩
    · rw [D.deps]
      exact Nat.max_le.mpr ⟨g.p, b⟩
    · rw [D.weis, List.length_cons, Nat.succ_mul]
      have := g.w
      omega
theorem Sm.tup {k w m k' w' : Nat} {xs : List D} (h : ∀ x ∈ xs, Sm k w x) (hl : xs.length ≤ m) (hk : k + 1 ≤ k') (hw : m * (w + 1) ≤ w') : Sm k' w' (.tup xs) := by
  obtain ⟨a, b, c⟩ := sms h
  have := Nat.mul_le_mul_right (w + 1) hl
  exact ⟨by simpa [D.small] using a, by rw [D.dep]; omega, by rw [D.wei]; omega⟩
theorem Sm.lst {k w m k' w' : Nat} {xs : List D} (h : ∀ x ∈ xs, Sm k w x) (hl : xs.length ≤ m) (hk : k + 1 ≤ k') (hw : m * (w + 1) ≤ w') : Sm k' w' (.lst xs) := by
  obtain ⟨a, b, c⟩ := sms h
  have := Nat.mul_le_mul_right (w + 1) hl
  exact ⟨by simpa [D.small] using a, by rw [D.dep]; omega, by rw [D.wei]; omega⟩
theorem sm_map {α : Type} {k w : Nat} {f : α → D} {xs : List α} (h : ∀ a ∈ xs, Sm k w (f a)) : ∀ x ∈ xs.map f, Sm k w x := fun x hx => by
  obtain ⟨a, ha, rfl⟩ := List.mem_map.mp hx
  exact h a ha
theorem sm_ints {k w : Nat} {ns : List Int} (h : ∀ n ∈ ns, -(2 ^ 64) < n ∧ n < 2 ^ 64) (hw : 65 ≤ w) : ∀ x ∈ ns.map D.int, Sm k w x := sm_map fun n hn => Sm.int (h n hn) hw
theorem Sm.itup {k' w' m : Nat} {ns : List Int} (h : ∀ n ∈ ns, -(2 ^ 64) < n ∧ n < 2 ^ 64) (hl : ns.length ≤ m) (hk : 1 ≤ k') (hw : m * 66 ≤ w') : Sm k' w' (Zp.itup ns) :=
  Sm.tup (k := 0) (w := 65) (m := m) (sm_ints h (Nat.le_refl _)) (by rw [List.length_map]; exact hl) hk hw
theorem Sm.same {xs : List D} {st : Store} (h : Sm 64 600000 (.tup xs)) : F__law_same [.tup xs, .tup xs] st = .ok (.bl true) st := by
  obtain ⟨s, e⟩ := repr_small (st := st) (fun _ z => by cases z) h.s h.p h.w
  exact same_is e e
/-! ## a right setting, a right program, right inputs -/
structure Gd (p : Int) (n t : Nat) (rs : List Rw) (ins : List Int) : Prop where
  pr : prm p
  p3 : p ≤ 10007
  n1 : 1 ≤ n
  n9 : n ≤ 9
  np : (n : Int) < p
  nt : 2 * t + 1 ≤ n
  pos : 1 ≤ rs.length
  len : rs.length ≤ 60
  pg : ∃ w b, Pg p n rs w b
  inl : ins.length = (rs.filter Rw.isIn).length
  low : lowP p ins
section
variable {p : Int} {n t : Nat} {rs : List Rw} {ins : List Int}
theorem Gd.p0 (g : Gd p n t rs ins) : 0 < p := by have := g.pr.1; omega
theorem Gd.href (g : Gd p n t rs ins) : ∀ (i : Nat) (r : Rw), rs[i]? = some r → ∀ a ∈ r.refs, Has p (vals p ins (rs.take i)).1 a := by
  obtain ⟨w, b, h⟩ := g.pg
  exact pg_refs g.p0 g.low h
theorem vals_pre (p : Int) (ins : List Int) (rs : List Rw) (i : Nat) : ∃ more, (vals p ins rs).1 = (vals p ins (rs.take i)).1 ++ more := by
  have : ∀ (more : List Rw) (s : List (Option Int) × Nat), ∃ l, (more.foldl (stepV p ins) s).1 = s.1 ++ l := by
    intro more
    induction more with
    | nil => intro s; exact ⟨[], by simp⟩
    | cons r more ih =>
      intro s
      obtain ⟨l, e⟩ := ih (stepV p ins s r)
      exact ⟨[r.val p ins s.2 s.1] ++ l, by rw [List.foldl_cons, e]; simp [stepV]⟩
  obtain ⟨l, e⟩ := this (rs.drop i) (vals p ins (rs.take i))
  refine ⟨l, ?_⟩
  rw [← e]
  unfold vals
  rw [← List.foldl_append, List.take_append_drop]
theorem Gd.hall (g : Gd p n t rs ins) : ∀ (i : Nat) (r : Rw), rs[i]? = some r → ∀ a ∈ r.refs, Has p (vals p ins rs).1 a := fun i r h a ha => by
  obtain ⟨more, e⟩ := vals_pre p ins rs i
  rw [e]
  exact (g.href i r h a ha).app
theorem pg_val {p n : Int} (hp : 0 < p) {ins : List Int} (hi : lowP p ins) {rs : List Rw} {w b : List Nat} (h : Pg p n rs w b) : ∀ v, some v ∈ (vals p ins rs).1 → 0 ≤ v ∧ v < p := by
  induction h with
  | nil => intro v hv; simp [vals] at hv
  | @row rs w b r hpg hg ih =>
    intro v hv
    rw [vals_snoc] at hv
    rcases List.mem_append.mp hv with hv | hv
    · exact ih v hv
    · obtain ⟨x, e, bb⟩ := gives_val (used := (vals p ins rs).2) hp hi hg (pg_has hp hi hpg).1 (pg_has hp hi hpg).2
      rw [e] at hv
      simp at hv
      rw [hv]; exact bb
  | @out rs w b a q hpg ha h1 h2 ih =>
    intro v hv
    rw [vals_snoc] at hv
    rcases List.mem_append.mp hv with hv | hv
    · exact ih v hv
    · simp [Rw.val] at hv
  | @nxt rs w b hpg ih =>
    intro v hv
    rw [vals_snoc] at hv
    rcases List.mem_append.mp hv with hv | hv
    · exact ih v hv
    · simp [Rw.val] at hv
theorem Gd.vlow (g : Gd p n t rs ins) : ∀ v, some v ∈ (vals p ins rs).1 → 0 ≤ v ∧ v < p := by
  obtain ⟨w, b, h⟩ := g.pg
  exact pg_val g.p0 g.low h
theorem pg_party {p n : Int} {rs : List Rw} {w b : List Nat} (h : Pg p n rs w b) : ∀ r ∈ rs, (∀ q, r = .inp q → 1 ≤ q ∧ q ≤ n) ∧ (∀ a q, r = .out a q → 1 ≤ q ∧ q ≤ n) ∧ (∀ c, r = .con c → 0 ≤ c ∧ c < p) ∧ (∀ c a, r = .tim c a → 0 ≤ c ∧ c < p) := by
  induction h with
  | nil => intro r hr; cases hr
  | @row rs w b r hpg hg ih =>
    intro s hs
    rcases List.mem_append.mp hs with hs | hs
    · exact ih s hs
    · rw [List.mem_singleton.mp hs]
      cases r <;> simp_all [Rw.gives]
  | @out rs w b a q hpg ha h1 h2 ih =>
    intro s hs
    rcases List.mem_append.mp hs with hs | hs
    · exact ih s hs
    · rw [List.mem_singleton.mp hs]
      simp_all
  | @nxt rs w b hpg ih =>
    intro s hs
    rcases List.mem_append.mp hs with hs | hs
    · exact ih s hs
    · rw [List.mem_singleton.mp hs]
      simp
theorem Gd.party (g : Gd p n t rs ins) : ∀ r ∈ rs, (∀ q, r = .inp q → 1 ≤ q ∧ q ≤ (n : Int)) ∧ (∀ a q, r = .out a q → 1 ≤ q ∧ q ≤ (n : Int)) ∧ (∀ c, r = .con c → 0 ≤ c ∧ c < p) ∧ (∀ c a, r = .tim c a → 0 ≤ c ∧ c < p) := by
  obtain ⟨w, b, h⟩ := g.pg
  exact pg_party h
theorem Gd.sm_vals (g : Gd p n t rs ins) : Sm 64 600000 (.tup ((vals p ins rs).1.map oD)) := by
  have := g.p3
  refine Sm.tup (k := 0) (w := 65) (m := 60) (sm_map fun o ho => ?_) (by rw [List.length_map, vals_len]; exact g.len) (by decide) (by decide)
  cases o with
  | none => exact Sm.non
  | some v => exact Sm.int (by have := g.vlow v ho; constructor <;> omega) (Nat.le_refl _)
theorem outs_len (rs : List Rw) : (outs rs).length ≤ rs.length := by unfold outs; exact Nat.le_trans (List.length_filter_le _ _) (by rw [List.length_zipIdx]; exact Nat.le_refl _)
theorem Gd.sm_tell (g : Gd p n t rs ins) : Sm 64 600000 (.tup ((outs rs).map (tellO (vals p ins rs).1))) := by
  have h1 := g.p3
  have h2 := g.n9
  refine Sm.tup (k := 1) (w := 198) (m := 60) (sm_map fun q hq => ?_) (by rw [List.length_map]; exact Nat.le_trans (outs_len rs) g.len) (by decide) (by decide)
  obtain ⟨e1, e2⟩ := outs_get hq
  obtain ⟨r, k⟩ := q
  have hk := (List.getElem?_eq_some_iff.mp e1).1
  have hlen := g.len
  cases r with
  | out a b =>
    have hv := (g.hall _ _ e1 a (by simp [Rw.refs])).gv.2
    have hb := (g.party _ (List.mem_of_getElem? e1)).2.1 a b rfl
    simp only at hk
    refine Sm.tup (k := 0) (w := 65) (m := 3) (fun x hx => ?_) (by simp) (by decide) (by decide)
    simp only [List.mem_cons, List.not_mem_nil, or_false] at hx
    rcases hx with rfl | rfl | rfl
    · exact Sm.int (by constructor <;> omega) (Nat.le_refl _)
    · exact Sm.int (by constructor <;> omega) (Nat.le_refl _)
    · exact Sm.int (by constructor <;> omega) (Nat.le_refl _)
  | _ => cases e2
end
theorem parts_mem : ∀ (ms : List Nat) (d : Nat) (q : List Nat), q ∈ partsN d ms → q.length ∈ ms ∧ ∀ i ∈ q, i < d + ms.sum
  | [], _, _, h => by simp [partsN] at h
  | m :: ms, d, q, h => by
    rw [partsN] at h
    rcases List.mem_cons.mp h with rfl | h
    · refine ⟨by simp, fun i hi => ?_⟩
      rw [List.mem_range'_1] at hi
      rw [List.sum_cons]
      omega
    · obtain ⟨a, b⟩ := parts_mem ms (d + m) q h
      refine ⟨List.mem_cons_of_mem _ a, fun i hi => ?_⟩
      have := b i hi
      rw [List.sum_cons]
      omega
theorem placed_mem : ∀ (rs : List (List Nat)) (d : Nat) (r : List (List Nat)), r ∈ placedN d rs → (∃ s ∈ rs, r.length = s.length ∧ ∀ q ∈ r, q.length ∈ s) ∧ ∀ q ∈ r, ∀ i ∈ q, i < d + rs.flatten.sum
  | [], _, _, h => by simp [placedN] at h
  | s :: rs, d, r, h => by
    rw [placedN] at h
    rcases List.mem_cons.mp h with rfl | h
    · refine ⟨⟨s, List.mem_cons_self, partsN_len _ _, fun q hq => (parts_mem s d q hq).1⟩, fun q hq i hi => ?_⟩
      have := (parts_mem s d q hq).2 i hi
      rw [List.flatten_cons, List.sum_append]
      omega
    · obtain ⟨⟨s', h1, h2, h3⟩, b⟩ := placed_mem rs (d + s.sum) r h
      refine ⟨⟨s', List.mem_cons_of_mem _ h1, h2, h3⟩, fun q hq i hi => ?_⟩
      have := b q hq i hi
      rw [List.flatten_cons, List.sum_append]
      omega
/-- how many coins a run takes -/
def coinsN (n t : Nat) (rs : List Rw) : Nat := (sizesOf n t rs).flatten.sum
theorem plcOf_len (n t : Nat) (rs : List Rw) : (plcOf n t rs).length = rs.length := by unfold plcOf; rw [placedN_len]; simp [sizesOf]
theorem plcOf_mem {n t : Nat} {rs : List Rw} {r : List (List Nat)} (h : r ∈ plcOf n t rs) (h9 : n ≤ 9) : r.length ≤ 9 ∧ ∀ q ∈ r, q.length = t ∧ ∀ i ∈ q, i < coinsN n t rs := by
  obtain ⟨⟨s, hs, h1, h2⟩, h3⟩ := placed_mem _ _ _ h
  obtain ⟨x, hx, rfl⟩ := List.mem_map.mp hs
  refine ⟨by rw [h1, List.length_replicate]; exact shrN_le h9 x, fun q hq => ⟨(List.mem_replicate.mp (h2 q hq)).2, fun i hi => ?_⟩⟩
  have := h3 q hq i hi
  rw [Nat.zero_add] at this
  exact this
theorem coinsN_le {n t : Nat} {rs : List Rw} (h : n ≤ 9) (h2 : t ≤ 9) : coinsN n t rs ≤ 81 * rs.length := sizes_sum h h2 rs
theorem coinsN_int (n t : Nat) (rs : List Rw) : (t : Int) * (rs.map (shr (n : Int))).sum = (coinsN n t rs : Nat) := by
  unfold coinsN
  induction rs with
  | nil => simp [sizesOf]
  | cons r rs ih =>
    have : (sizesOf n t (r :: rs)).flatten.sum = t * shrN n r + (sizesOf n t rs).flatten.sum := by simp [sizesOf, Nat.mul_comm]
    rw [this, List.map_cons, List.sum_cons, Int.mul_add, ih, shr_nat]
    simp
theorem sm_plc {n t : Nat} {rs : List Rw} (h9 : n ≤ 9) (t4 : t ≤ 4) (hl : rs.length ≤ 60) : Sm 64 600000 (.tup (plcD (plcOf n t rs))) := by
  refine Sm.tup (k := 2) (w := 9 * (4 * 66 + 1)) (m := 60) (sm_map fun r hr => ?_) (by rw [List.length_map, plcOf_len]; exact hl) (by decide) (by decide)
  obtain ⟨a, b⟩ := plcOf_mem hr h9
  refine Sm.tup (k := 1) (w := 4 * 66) (m := 9) (sm_map fun q hq => ?_) (by rw [List.length_map]; exact a) (by decide) (by decide)
  obtain ⟨c, d⟩ := b q hq
  refine Sm.tup (k := 0) (w := 65) (m := 4) (sm_map fun i hi => Sm.int ?_ (by decide)) (by rw [List.length_map]; omega) (by decide) (by decide)
  have := d i hi
  have := coinsN_le (n := n) (t := t) (rs := rs) h9 (by omega)
  constructor <;> omega
theorem good_of {ds : List Int} {m : Nat} {st : Store} : ∃ (p : Int) (n t : Nat), prm p ∧ p ≤ 10007 ∧ 1 ≤ n ∧ n ≤ 9 ∧ (n : Int) < p ∧ 2 * t + 1 ≤ n ∧ F__law_setting [.ref 0] (Box ds m :: st) = .ok (settD p n t) (Box ds (m + 3) :: st) := by
  obtain ⟨p, n, t, S, e⟩ := setting_is (ds := ds) (m := m) (st := st)
  have h1 := S.n1
  have h2 := S.n9
  have h3 := S.np
  have h4 := S.t0
  have h5 := S.tn
  have en : (n.toNat : Int) = n := Int.toNat_of_nonneg (by omega)
  have et : (t.toNat : Int) = t := Int.toNat_of_nonneg h4
  refine ⟨p, n.toNat, t.toNat, S.pr, S.le, by omega, by omega, by omega, by omega, ?_⟩
  rw [en, et]
  exact e
/-- what a law makes first: a setting, a program of at most so many rows, its inputs -/
theorem good_made {ds : List Int} {m most : Nat} {p : Int} {n t : Nat} {st : Store} {turns : Int} (h1 : prm p) (h2 : p ≤ 10007) (h3 : 1 ≤ n) (h4 : n ≤ 9) (h5 : (n : Int) < p) (h6 : 2 * t + 1 ≤ n) (hm : 0 < most) (hm2 : most ≤ 60) :
    ∃ (rs : List Rw) (m2 : Nat), rs.length ≤ most ∧ F__law_program [.ref 0, settD p n t, .int (most : Int), .int turns] (Box ds m :: st) = .ok (progD rs) (Box ds m2 :: st) ∧
      ∀ (m3 : Nat) (st3 : Store), ∃ (ins : List Int) (m4 : Nat), Gd p n t rs ins ∧ F__law_inputs [.ref 0, settD p n t, progD rs] (Box ds m3 :: st3) = .ok (itup ins) (Box ds m4 :: st3) := by
  have hp0 : 0 < p := by have := h1.1; omega
  obtain ⟨rs, w, b, m2, hpg, l1, l2, e⟩ := program_is (ds := ds) (m := m) (st := st) (p := p) (n := n) (t := t) (turns := turns) hp0 (by omega) hm (by omega)
  refine ⟨rs, m2, l2, e, fun m3 st3 => ?_⟩
  obtain ⟨ins, m4, i1, i2, e4⟩ := inputs_is (ds := ds) (m := m3) (st := st3) (p := p) (n := n) (t := t) (rs := rs) hp0 (by omega)
  exact ⟨ins, m4, ⟨h1, h2, h3, h4, h5, h6, l1, by omega, ⟨w, b, hpg⟩, i1, i2⟩, e4⟩
end Zp
namespace Zp
open PySem L2 Zv PyProof.Rows

/-! law: script box setting n t program inputs at due row some k -/
noncomputable def B_law1 : SM :=
    (sSeq (sApp (mVar 10) (mRgT2 (mVar 7) (mOp dAdd (mVar 7) (mVar 4))))
    (sAsg (.nm 7) (mOp dAdd (mVar 7) (mVar 4))))
noncomputable def B_law2 : SM :=
    (sSeq (sBox 10 (mLst aNil))
    (sSeq (sFor (mRng1 (aCons (mDGet [("in", (mC (.int 1))), ("product", (mVar 3)), ("kept", (mVar 3))] (mOp dIx (mVar 9) (mC (.int 0))) (mC (.int 0))) aNil)) (.nm 11) B_law1)
    (sApp (mVar 8) (mB bTuple (aCons (mVar 10) aNil)))))
noncomputable def M_law : SM :=
    (sSeq (sBox 1 (mLst (aCons (mCall 3 F__law_digits (aCons (mVar 0) (aCons (mC (.int 0)) (aCons (mC (.int 63)) aNil)))) (aCons (mC (.int 0)) aNil))))
    (sSeq (sAsg (.nm 2) (mCall 1 F__law_setting (aCons (mVar 1) aNil)))
    (sSeq (sAsg (.tp [(.nm 3), (.nm 4)]) (mSl (mVar 2) (pSome (mC (.int 2))) pNone))
    (sSeq (sAsg (.nm 5) (mCall 4 F__law_program (aCons (mVar 1) (aCons (mVar 2) (aCons (mC (.int 30)) (aCons (mC (.int 2)) aNil))))))
    (sSeq (sAsg (.nm 6) (mCall 3 F__law_inputs (aCons (mVar 1) (aCons (mVar 2) (aCons (mVar 5) aNil)))))
    (sSeq (sIf (Zv.tNot (mTru (mCall 2 F__law_same (aCons (mCall 3 F_values (aCons (mVar 2) (aCons (mVar 5) (aCons (mVar 6) aNil)))) (aCons (mB bTuple (aCons (mCall 3 F__law_values (aCons (mVar 2) (aCons (mVar 5) (aCons (mVar 6) aNil)))) aNil)) aNil)))))
    (sRet (mC (.bl false)))
    sNil)
    (sSeq (sIf (Zv.tNot (mTru (mCall 2 F__law_same (aCons (mCall 3 F_shown (aCons (mVar 2) (aCons (mVar 5) (aCons (mVar 6) aNil)))) (aCons (mCall 3 F__law_shown (aCons (mVar 2) (aCons (mVar 5) (aCons (mVar 6) aNil)))) aNil)))))
    (sRet (mC (.bl false)))
    sNil)
    (sSeq (sAsg (.nm 7) (mC (.int 0)))
    (sSeq (sBox 8 (mLst aNil))
    (sSeq (sFor (mIt (mOp dIx (mVar 5) (mC (.int 1)))) (.nm 9) B_law2)
    (sRet (eAnd (mOp dEq (mCall 2 F_coins_of (aCons (mVar 2) (aCons (mVar 5) aNil))) (mVar 7)) (mCall 2 F__law_same (aCons (mCall 2 F_places (aCons (mVar 2) (aCons (mVar 5) aNil))) (aCons (mB bTuple (aCons (mVar 8) aNil)) aNil)))))))))))))))
noncomputable def F_law : FM := runF 12 M_law

end Zp
namespace Zp
open PySem L2 Zv PyProof.Rows
def top (i : Nat) : Stmt := PySem.Challenge.pw_untold_k09_values_are_told.main.body.getD i (.Pass ⟨0, 0, 0, 0⟩)
structure Tx (mg : Str → Option Value) : Prop where
  b_len : mg "len" = none
  b_int : mg "int" = none
  b_min : mg "min" = none
  b_tuple : mg "tuple" = none
  b_range : mg "range" = none
  b_repr : mg "repr" = none
  b_enumerate : mg "enumerate" = none
  b_sum : mg "sum" = none
section
variable {P : Program} {w : World} {K : PySem.W.Frag} {mg : Str → Option Value} {base : Heap} {cl : Str → Option Addr}
abbrev s__law_draw : Stmt := top 15
theorem sc__law_draw : FnScope ["box", "many", "at"] ["box", "many"] (defScope s__law_draw) := ⟨rfl, rfl, rfl, by decide +kernel, rfl, by decide +kernel, by decide +kernel⟩
set_option maxHeartbeats 0 in
theorem ok__law_draw {f : Addr} {fd : FuncData} (F : Fun K "_law_draw" "_law_draw" s__law_draw f fd) (T : Tx mg)  :
    Gf P w K mg base 1 f fd ["box", "many"] (spF K cl 2 F__law_draw) :=
  gf_is (j := 0) (m := M__law_draw) F sc__law_draw rfl rfl rfl rfl fun cdv A callers s H E room guards =>
    (zscons (zset 2 sc__law_draw.nd (zix (zv 0) zint))
    (zscons (zsseti (zop zo_add (zv 2) zint) (zv 0) zint)
    (zscons (zsif (ztcmp zo_lt (zv 2) (zcallB zb_len rfl T.b_len bo_len (zacons (zix (zv 0) zint) zanil)))
    (zsone (zsret (zop zo_mod (zcallTy zb_int rfl T.b_int bo_int (zacons (zix (zix (zv 0) zint) (zv 2)) zanil)) (zv 1))))
    zsnil)
    (zsone (zsret zint)))))

abbrev s__law_pick : Stmt := top 16
theorem sc__law_pick : FnScope ["box", "things"] ["box", "things"] (defScope s__law_pick) := ⟨rfl, rfl, rfl, by decide +kernel, rfl, by decide +kernel, by decide +kernel⟩
set_option maxHeartbeats 0 in
theorem ok__law_pick {f : Addr} {fd : FuncData} (F : Fun K "_law_pick" "_law_pick" s__law_pick f fd) (T : Tx mg) (C__law_draw : Cal P w K mg base cl "_law_draw" 1 2 F__law_draw) :
    Gf P w K mg base 2 f fd ["box", "things"] (spF K cl 2 F__law_pick) :=
  gf_is (j := 1) (m := M__law_pick) F sc__law_pick rfl rfl rfl rfl fun cdv A callers s H E room guards =>
    (zsone (zsret (zix (zv 1) (zop zo_mod (zcallTy zb_int rfl T.b_int bo_int (zacons (zcalC C__law_draw room guards ztake (zacons (zv 0) (zacons zint zanil))) zanil)) (zcallB zb_len rfl T.b_len bo_len (zacons (zv 1) zanil))))))

abbrev s__law_setting : Stmt := top 18
theorem sc__law_setting : FnScope ["box", "p", "n"] ["box"] (defScope s__law_setting) := ⟨rfl, rfl, rfl, by decide +kernel, rfl, by decide +kernel, by decide +kernel⟩
set_option maxHeartbeats 0 in
theorem ok__law_setting {f : Addr} {fd : FuncData} (F : Fun K "_law_setting" "_law_setting" s__law_setting f fd) (T : Tx mg) (C__law_draw : Cal P w K mg base cl "_law_draw" 1 2 F__law_draw) (C__law_pick : Cal P w K mg base cl "_law_pick" 2 2 F__law_pick) :
    Gf P w K mg base 3 f fd ["box"] (spF K cl 1 F__law_setting) :=
  gf_is (j := 2) (m := M__law_setting) F sc__law_setting rfl rfl rfl rfl fun cdv A callers s H E room guards =>
    (zscons (zset 1 sc__law_setting.nd (zcalC C__law_pick room guards ztake (zacons (zv 0) (zacons (zlst (zacons zint (zacons zint (zacons zint (zacons zint (zacons zint (zacons zint (zacons zint (zacons zint (zacons zint (zacons zint zanil))))))))))) zanil))))
    (zscons (zset 2 sc__law_setting.nd (zop zo_add zint (zcalC C__law_draw room guards ztake (zacons (zv 0) (zacons (zcallB (zb_min rfl) rfl T.b_min bo_min (zacons zint (zacons (zop zo_sub (zv 1) zint) zanil))) zanil)))))
    (zsone (zsret (ztup (zacons zstr (zacons (zv 1) (zacons (zv 2) (zacons (zcalC C__law_draw room guards ztake (zacons (zv 0) (zacons (zop zo_fdv (zop zo_add (zv 2) zint) zint) zanil))) zanil)))))))))

abbrev s__law_number : Stmt := top 19
theorem sc__law_number : FnScope ["box", "p"] ["box", "p"] (defScope s__law_number) := ⟨rfl, rfl, rfl, by decide +kernel, rfl, by decide +kernel, by decide +kernel⟩
set_option maxHeartbeats 0 in
theorem ok__law_number {f : Addr} {fd : FuncData} (F : Fun K "_law_number" "_law_number" s__law_number f fd) (T : Tx mg) (C__law_draw : Cal P w K mg base cl "_law_draw" 1 2 F__law_draw) :
    Gf P w K mg base 2 f fd ["box", "p"] (spF K cl 2 F__law_number) :=
  gf_is (j := 1) (m := M__law_number) F sc__law_number rfl rfl rfl rfl fun cdv A callers s H E room guards =>
    (zsone (zsret (zop zo_mod (zcallTy zb_int rfl T.b_int bo_int (zacons (zop zo_add (zop zo_mul (zcalC C__law_draw room guards ztake (zacons (zv 0) (zacons zint zanil))) zint) (zcalC C__law_draw room guards ztake (zacons (zv 0) (zacons zint zanil)))) zanil)) (zv 1))))

abbrev s__law_program : Stmt := top 21
theorem sc__law_program : FnScope ["box", "setting", "most", "turns", "p", "n", "t", "rows", "wires", "before", "k", "kind", "row", "a", "b"] ["box", "setting", "most", "turns"] (defScope s__law_program) := ⟨rfl, rfl, rfl, by decide +kernel, rfl, by decide +kernel, by decide +kernel⟩
set_option maxHeartbeats 0 in
theorem ok__law_program {f : Addr} {fd : FuncData} (F : Fun K "_law_program" "_law_program" s__law_program f fd) (T : Tx mg) (C__law_draw : Cal P w K mg base cl "_law_draw" 1 2 F__law_draw) (C__law_pick : Cal P w K mg base cl "_law_pick" 2 2 F__law_pick) (C__law_number : Cal P w K mg base cl "_law_number" 2 2 F__law_number) :
    Gf P w K mg base 3 f fd ["box", "setting", "most", "turns"] (spF K cl 4 F__law_program) :=
  gf_is (j := 2) (m := M__law_program) F sc__law_program rfl rfl rfl rfl fun cdv A callers s H E room guards =>
    (zscons (zsasg (zslice (zv 1) (zpsome zint) zpnone) (zgtup rfl (zgcons (zgname 4 sc__law_program.nd) (zgcons (zgname 5 sc__law_program.nd) (zgcons (zgname 6 sc__law_program.nd) zgnil)))))
    (zscons (zbox 7 sc__law_program.nd (zlstF zanil))
    (zscons (zset 8 sc__law_program.nd (zlst zanil))
    (zscons (zset 9 sc__law_program.nd (zlst zanil))
    (zscons (zsfor zpass rfl (zrng1 rfl T.b_range (zacons (zop zo_add zint (zcalC C__law_draw room guards ztake (zacons (zv 0) (zacons (zv 2) zanil)))) zanil)) (zgname 10 sc__law_program.nd)
    (zscons (zset 11 sc__law_program.nd (zcalC C__law_draw room guards ztake (zacons (zv 0) (zacons zint zanil))))
    (zscons (zset 12 sc__law_program.nd (ztup (zacons zstr (zacons (zop zo_add zint (zcalC C__law_draw room guards ztake (zacons (zv 0) (zacons (zv 5) zanil)))) zanil))))
    (zscons (zsif (ztcmp (zo_eq (zu64 room)) (zv 11) zint)
    (zsone (zset 12 sc__law_program.nd (ztup (zacons zstr (zacons (zcalC C__law_number room guards ztake (zacons (zv 0) (zacons (zv 4) zanil))) zanil)))))
    zsnil)
    (zscons (zsif (PW.pt (zwand (ztcmp (zo_ne (zu64 room)) (zv 9) (zlst zanil)) (zwand1 (ztcmp zo_inF (zv 11) (ztup (zacons zint (zacons zint (zacons zint zanil))))))))
    (zsone (zset 12 sc__law_program.nd (ztup (zacons zstr (zacons (zcalC C__law_pick room guards ztake (zacons (zv 0) (zacons (zv 9) zanil))) zanil)))))
    (zsone (zsif (ztcmp (zo_ne (zu64 room)) (zv 8) (zlst zanil))
    (zscons (zset 13 sc__law_program.nd (zcalC C__law_pick room guards ztake (zacons (zv 0) (zacons (zv 8) zanil))))
    (zscons (zset 14 sc__law_program.nd (zcalC C__law_pick room guards ztake (zacons (zv 0) (zacons (zv 8) zanil))))
    (zscons (zsif (ztcmp zo_inF (zv 11) (ztup (zacons zint (zacons zint (zacons zint zanil)))))
    (zsone (zset 12 sc__law_program.nd (ztup (zacons zstr (zacons (zv 13) (zacons (zv 14) zanil))))))
    zsnil)
    (zscons (zsif (ztcmp (zo_eq (zu64 room)) (zv 11) zint)
    (zsone (zset 12 sc__law_program.nd (ztup (zacons zstr (zacons (zv 13) (zacons (zv 14) zanil))))))
    zsnil)
    (zscons (zsif (ztcmp (zo_eq (zu64 room)) (zv 11) zint)
    (zsone (zset 12 sc__law_program.nd (ztup (zacons zstr (zacons (zv 13) (zacons (zv 14) zanil))))))
    zsnil)
    (zscons (zsif (ztcmp (zo_eq (zu64 room)) (zv 11) zint)
    (zsone (zset 12 sc__law_program.nd (ztup (zacons zstr (zacons (zcalC C__law_number room guards ztake (zacons (zv 0) (zacons (zv 4) zanil))) (zacons (zv 13) zanil))))))
    zsnil)
    (zsone (zsif (ztcmp (zo_eq (zu64 room)) (zv 11) zint)
    (zsone (zset 12 sc__law_program.nd (ztup (zacons zstr (zacons (zv 13) (zacons (zop zo_add zint (zcalC C__law_draw room guards ztake (zacons (zv 0) (zacons (zv 5) zanil)))) zanil))))))
    zsnil))))))))
    zsnil)))
    (zscons (zsif (PW.pt (zwand (ztcmp (zo_eq (zu64 room)) (zv 11) zint) (zwand1 (ztcmp zo_gt (zv 3) zint))))
    (zscons (zset 12 sc__law_program.nd (ztup (zacons zstr zanil)))
    (zscons (zset 3 sc__law_program.nd (zop zo_sub (zv 3) zint))
    (zscons (zset 9 sc__law_program.nd (zv 8))
    (zsone (zset 8 sc__law_program.nd (zlst zanil))))))
    (zsone (zsif (ztcmp (zo_ne (zu64 room)) (zix (zv 12) zint) zstr)
    (zsone (zset 8 sc__law_program.nd (zop zo_add (zv 8) (zlst (zacons (zv 10) zanil)))))
    zsnil)))
    (zsone (zsapp (zv 7) (zv 12)))))))))
    (zsone (zsret (ztup (zacons zstr (zacons (zcallTy zb_tuple rfl T.b_tuple bo_tuple (zacons (zv 7) zanil)) zanil))))))))))

abbrev s__law_numbers : Stmt := top 20
theorem sc__law_numbers : FnScope ["box", "p", "many", "k"] ["box", "p", "many"] (defScope s__law_numbers) := ⟨rfl, rfl, rfl, by decide +kernel, rfl, by decide +kernel, by decide +kernel⟩
set_option maxHeartbeats 0 in
theorem ok__law_numbers {f : Addr} {fd : FuncData} (F : Fun K "_law_numbers" "_law_numbers" s__law_numbers f fd) (T : Tx mg) (C__law_number : Cal P w K mg base cl "_law_number" 2 2 F__law_number) :
    Gf P w K mg base 3 f fd ["box", "p", "many"] (spF K cl 3 F__law_numbers) :=
  gf_is (j := 2) (m := M__law_numbers) F sc__law_numbers rfl rfl rfl rfl fun cdv A callers s H E room guards =>
    (zsone (zsret (zcallTy zb_tuple rfl T.b_tuple bo_tuple (zacons (zlc (own := [("k", 3)]) rfl sc__law_numbers.nd (zrng1 rfl T.b_range (zacons (zv 2) zanil)) (blkOk_by (N := ["box", "p", "many", "k"]) (sc := defScope s__law_numbers) (by decide +kernel)) (by decide) (fun _ _ _ _ _ => (zgname 3 sc__law_numbers.nd)) (fun _ _ _ _ _ => ztyes) (fun _ _ _ _ _ => (zcalC C__law_number room guards takes0 (zacons (zv 0) (zacons (zv 1) zanil))))) zanil))))

abbrev s__law_inputs : Stmt := top 22
theorem sc__law_inputs : FnScope ["box", "setting", "program", "row"] ["box", "setting", "program"] (defScope s__law_inputs) := ⟨rfl, rfl, rfl, by decide +kernel, rfl, by decide +kernel, by decide +kernel⟩
set_option maxHeartbeats 0 in
theorem ok__law_inputs {f : Addr} {fd : FuncData} (F : Fun K "_law_inputs" "_law_inputs" s__law_inputs f fd) (T : Tx mg) (C__law_numbers : Cal P w K mg base cl "_law_numbers" 3 3 F__law_numbers) :
    Gf P w K mg base 4 f fd ["box", "setting", "program"] (spF K cl 3 F__law_inputs) :=
  gf_is (j := 3) (m := M__law_inputs) F sc__law_inputs rfl rfl rfl rfl fun cdv A callers s H E room guards =>
    (zsone (zsret (zcalC C__law_numbers room guards ztake (zacons (zv 0) (zacons (zix (zv 1) zint) (zacons (zcallB zb_len rfl T.b_len bo_len (zacons (zlc (own := [("row", 3)]) rfl sc__law_inputs.nd (zit (zix (zv 2) zint)) (blkOk_by (N := ["box", "setting", "program", "row"]) (sc := defScope s__law_inputs) (by decide +kernel)) (by decide) (fun _ _ _ _ _ => (zgname 3 sc__law_inputs.nd)) (fun _ _ _ _ _ => (pts_one (ztcmp (zo_eq (zu64 room)) (zix (zv 3) zint) zstr))) (fun _ _ _ _ _ => (zv 3))) zanil)) zanil))))))

abbrev s__law_cell : Stmt := top 13
theorem sc__law_cell : FnScope ["script", "k"] ["script", "k"] (defScope s__law_cell) := ⟨rfl, rfl, rfl, by decide +kernel, rfl, by decide +kernel, by decide +kernel⟩
set_option maxHeartbeats 0 in
theorem ok__law_cell {f : Addr} {fd : FuncData} (F : Fun K "_law_cell" "_law_cell" s__law_cell f fd) (T : Tx mg)  :
    Gf P w K mg base 1 f fd ["script", "k"] (spF K cl 2 F__law_cell) :=
  gf_is (j := 0) (m := M__law_cell) F sc__law_cell rfl rfl rfl rfl fun cdv A callers s H E room guards =>
    (zscons (zsif (ztcmp zo_lt (zv 1) (zcallB zb_len rfl T.b_len bo_len (zacons (zv 0) zanil)))
    (zsone (zsret (zix (zv 0) (zv 1))))
    zsnil)
    (zsone (zsret zint)))

abbrev s__law_digits : Stmt := top 14
theorem sc__law_digits : FnScope ["script", "first", "last", "digits", "k", "cell", "turn", "seed"] ["script", "first", "last"] (defScope s__law_digits) := ⟨rfl, rfl, rfl, by decide +kernel, rfl, by decide +kernel, by decide +kernel⟩
set_option maxHeartbeats 0 in
theorem ok__law_digits {f : Addr} {fd : FuncData} (F : Fun K "_law_digits" "_law_digits" s__law_digits f fd) (T : Tx mg) (C__law_cell : Cal P w K mg base cl "_law_cell" 1 2 F__law_cell) :
    Gf P w K mg base 2 f fd ["script", "first", "last"] (spF K cl 3 F__law_digits) :=
  gf_is (j := 1) (m := M__law_digits) F sc__law_digits rfl rfl rfl rfl fun cdv A callers s H E room guards =>
    (zscons (zbox 3 sc__law_digits.nd (zlstF zanil))
    (zscons (zsfor zpass rfl (zrng2 rfl T.b_range (zacons (zv 1) (zacons (zv 2) zanil))) (zgname 4 sc__law_digits.nd)
    (zscons (zset 5 sc__law_digits.nd (zcalC C__law_cell room guards ztake (zacons (zv 0) (zacons (zv 4) zanil))))
    (zscons (zsif (ztcmp zo_lt (zv 5) zint)
    (zsone (zset 5 sc__law_digits.nd (zop zo_sub zint (zop zo_mul zint (zv 5)))))
    zsnil)
    (zsone (zsif (ztcmp zo_ge (zv 5) (zop zo_pow zint zint))
    (zsone (zsfor zpass rfl (zrng1 rfl T.b_range (zacons zint zanil)) (zgname 6 sc__law_digits.nd)
    (zsone (zsif (ztcmp zo_gt (zv 5) zint)
    (zscons (zsapp (zv 3) (zop zo_mod (zcallTy zb_int rfl T.b_int bo_int (zacons (zv 5) zanil)) zint))
    (zsone (zset 5 sc__law_digits.nd (zop zo_fdv (zv 5) zint))))
    zsnil))))
    (zscons (zset 7 sc__law_digits.nd (zop zo_mod (zcallTy zb_int rfl T.b_int bo_int (zacons (zop zo_add (zop zo_add (zop zo_mul (zv 5) zint) (zop zo_mul (zv 4) zint)) zint) zanil)) zint))
    (zsone (zsfor zpass rfl (zrng1 rfl T.b_range (zacons zint zanil)) (zgname 6 sc__law_digits.nd)
    (zscons (zset 7 sc__law_digits.nd (zop zo_mod (zcallTy zb_int rfl T.b_int bo_int (zacons (zop zo_add (zop zo_add (zop zo_mul (zv 7) zint) (zop zo_mul zint (zv 6))) zint) zanil)) zint))
    (zsone (zsapp (zv 3) (zop zo_mod (zcallTy zb_int rfl T.b_int bo_int (zacons (zop zo_fdv (zv 7) zint) zanil)) zint))))))))))))
    (zsone (zsret (zv 3)))))

abbrev s__law_same : Stmt := top 17
theorem sc__law_same : FnScope ["actual", "due"] ["actual", "due"] (defScope s__law_same) := ⟨rfl, rfl, rfl, by decide +kernel, rfl, by decide +kernel, by decide +kernel⟩
set_option maxHeartbeats 0 in
theorem ok__law_same {f : Addr} {fd : FuncData} (F : Fun K "_law_same" "_law_same" s__law_same f fd) (T : Tx mg)  :
    Gf P w K mg base 1 f fd ["actual", "due"] (spF K cl 2 F__law_same) :=
  gf_is (j := 0) (m := M__law_same) F sc__law_same rfl rfl rfl rfl fun cdv A callers s H E room guards =>
    (zsone (zsret (zcmp (zo_eq (zu64 room)) (zcallB (zb_repr guards (zu80 room)) rfl T.b_repr bo_repr (zacons (zv 0) zanil)) (zcallB (zb_repr guards (zu80 room)) rfl T.b_repr bo_repr (zacons (zv 1) zanil)))))

abbrev s_value_of : Stmt := top 4
theorem sc_value_of : FnScope ["p", "row", "before", "word"] ["p", "row", "before"] (defScope s_value_of) := ⟨rfl, rfl, rfl, by decide +kernel, rfl, by decide +kernel, by decide +kernel⟩
set_option maxHeartbeats 0 in
theorem ok_value_of {f : Addr} {fd : FuncData} (F : Fun K "value_of" "value_of" s_value_of f fd) (T : Tx mg)  :
    Gf P w K mg base 1 f fd ["p", "row", "before"] (spF K cl 3 F_value_of) :=
  gf_is (j := 0) (m := M_value_of) F sc_value_of rfl rfl rfl rfl fun cdv A callers s H E room guards =>
    (zscons (zset 3 sc_value_of.nd (zix (zv 1) zint))
    (zscons (zsif (ztcmp (zo_eq (zu64 room)) (zv 3) zstr)
    (zsone (zsret (zix (zv 1) zint)))
    zsnil)
    (zscons (zsif (ztcmp (zo_eq (zu64 room)) (zv 3) zstr)
    (zsone (zsret (zop zo_mod (zop zo_mul (zix (zv 1) zint) (zix (zv 2) (zix (zv 1) zint))) (zv 0))))
    zsnil)
    (zscons (zsif (ztcmp (zo_eq (zu64 room)) (zv 3) zstr)
    (zsone (zsret (zix (zv 2) (zix (zv 1) zint))))
    zsnil)
    (zscons (zsif (ztcmp (zo_eq (zu64 room)) (zv 3) zstr)
    (zsone (zsret (zop zo_mod (zop zo_add (zix (zv 2) (zix (zv 1) zint)) (zix (zv 2) (zix (zv 1) zint))) (zv 0))))
    zsnil)
    (zscons (zsif (ztcmp (zo_eq (zu64 room)) (zv 3) zstr)
    (zsone (zsret (zop zo_mod (zop zo_sub (zix (zv 2) (zix (zv 1) zint)) (zix (zv 2) (zix (zv 1) zint))) (zv 0))))
    zsnil)
    (zscons (zsif (ztcmp (zo_eq (zu64 room)) (zv 3) zstr)
    (zsone (zsret (zop zo_mod (zop zo_mul (zix (zv 2) (zix (zv 1) zint)) (zix (zv 2) (zix (zv 1) zint))) (zv 0))))
    zsnil)
    (zsone (zsret znon)))))))))

abbrev s_values : Stmt := top 5
theorem sc_values : FnScope ["setting", "program", "inputs", "found", "used", "row"] ["setting", "program", "inputs"] (defScope s_values) := ⟨rfl, rfl, rfl, by decide +kernel, rfl, by decide +kernel, by decide +kernel⟩
set_option maxHeartbeats 0 in
theorem ok_values {f : Addr} {fd : FuncData} (F : Fun K "values" "values" s_values f fd) (T : Tx mg) (C_value_of : Cal P w K mg base cl "value_of" 1 3 F_value_of) :
    Gf P w K mg base 2 f fd ["setting", "program", "inputs"] (spF K cl 3 F_values) :=
  gf_is (j := 1) (m := M_values) F sc_values rfl rfl rfl rfl fun cdv A callers s H E room guards =>
    (zscons (zbox 3 sc_values.nd (zlstF zanil))
    (zscons (zset 4 sc_values.nd zint)
    (zscons (zsfor zpass rfl (zit (zix (zv 1) zint)) (zgname 5 sc_values.nd)
    (zsone (zsif (ztcmp (zo_eq (zu64 room)) (zix (zv 5) zint) zstr)
    (zscons (zsapp (zv 3) (zix (zv 2) (zv 4)))
    (zsone (zsaug 4 sc_values.nd zi_add zint)))
    (zsone (zsapp (zv 3) (zcalC C_value_of room guards ztake (zacons (zix (zv 0) zint) (zacons (zv 5) (zacons (zv 3) zanil)))))))))
    (zsone (zsret (zcallTy zb_tuple rfl T.b_tuple bo_tuple (zacons (zv 3) zanil)))))))

abbrev s_rows_of : Stmt := top 1
theorem sc_rows_of : FnScope ["program", "word", "k", "row"] ["program", "word"] (defScope s_rows_of) := ⟨rfl, rfl, rfl, by decide +kernel, rfl, by decide +kernel, by decide +kernel⟩
set_option maxHeartbeats 0 in
theorem ok_rows_of {f : Addr} {fd : FuncData} (F : Fun K "rows_of" "rows_of" s_rows_of f fd) (T : Tx mg)  :
    Gf P w K mg base 1 f fd ["program", "word"] (spF K cl 2 F_rows_of) :=
  gf_is (j := 0) (m := M_rows_of) F sc_rows_of rfl rfl rfl rfl fun cdv A callers s H E room guards =>
    (zsone (zsret (zcallTy zb_tuple rfl T.b_tuple bo_tuple (zacons (zlc (own := [("k", 2), ("row", 3)]) rfl sc_rows_of.nd (zenum rfl T.b_enumerate (zacons (zix (zv 0) zint) zanil)) (blkOk_by (N := ["program", "word", "k", "row"]) (sc := defScope s_rows_of) (by decide +kernel)) (by decide) (fun _ _ _ _ _ => (zgtup rfl (zgcons (zgname 2 sc_rows_of.nd) (zgcons (zgname 3 sc_rows_of.nd) zgnil)))) (fun _ _ _ _ _ => (pts_one (ztcmp (zo_eq (zu64 room)) (zix (zv 3) zint) (zv 1)))) (fun _ _ _ _ _ => (zv 2))) zanil))))

abbrev s_output_rows : Stmt := top 2
theorem sc_output_rows : FnScope ["program"] ["program"] (defScope s_output_rows) := ⟨rfl, rfl, rfl, by decide +kernel, rfl, by decide +kernel, by decide +kernel⟩
set_option maxHeartbeats 0 in
theorem ok_output_rows {f : Addr} {fd : FuncData} (F : Fun K "output_rows" "output_rows" s_output_rows f fd) (T : Tx mg) (C_rows_of : Cal P w K mg base cl "rows_of" 1 2 F_rows_of) :
    Gf P w K mg base 2 f fd ["program"] (spF K cl 1 F_output_rows) :=
  gf_is (j := 1) (m := M_output_rows) F sc_output_rows rfl rfl rfl rfl fun cdv A callers s H E room guards =>
    (zsone (zsret (zcalC C_rows_of room guards ztake (zacons (zv 0) (zacons zstr zanil)))))

abbrev s_shown : Stmt := top 6
theorem sc_shown : FnScope ["setting", "program", "inputs", "found", "rows", "k"] ["setting", "program", "inputs"] (defScope s_shown) := ⟨rfl, rfl, rfl, by decide +kernel, rfl, by decide +kernel, by decide +kernel⟩
set_option maxHeartbeats 0 in
theorem ok_shown {f : Addr} {fd : FuncData} (F : Fun K "shown" "shown" s_shown f fd) (T : Tx mg) (C_output_rows : Cal P w K mg base cl "output_rows" 2 1 F_output_rows) (C_values : Cal P w K mg base cl "values" 2 3 F_values) :
    Gf P w K mg base 3 f fd ["setting", "program", "inputs"] (spF K cl 3 F_shown) :=
  gf_is (j := 2) (m := M_shown) F sc_shown rfl rfl rfl rfl fun cdv A callers s H E room guards =>
    (zscons (zset 3 sc_shown.nd (zcalC C_values room guards ztake (zacons (zv 0) (zacons (zv 1) (zacons (zv 2) zanil)))))
    (zscons (zset 4 sc_shown.nd (zix (zv 1) zint))
    (zsone (zsret (zcallTy zb_tuple rfl T.b_tuple bo_tuple (zacons (zlc (own := [("k", 5)]) rfl sc_shown.nd (zit (zcalC C_output_rows room guards ztake (zacons (zv 1) zanil))) (blkOk_by (N := ["setting", "program", "inputs", "found", "rows", "k"]) (sc := defScope s_shown) (by decide +kernel)) (by decide) (fun _ _ _ _ _ => (zgname 5 sc_shown.nd)) (fun _ _ _ _ _ => ztyes) (fun _ _ _ _ _ => (ztup (zacons (zv 5) (zacons (zix (zix (zv 4) (zv 5)) zint) (zacons (zix (zv 3) (zix (zix (zv 4) (zv 5)) zint)) zanil)))))) zanil))))))

abbrev s__law_values : Stmt := top 23
theorem sc__law_values : FnScope ["setting", "program", "inputs", "p", "found", "used", "row", "kind", "value", "a", "b"] ["setting", "program", "inputs"] (defScope s__law_values) := ⟨rfl, rfl, rfl, by decide +kernel, rfl, by decide +kernel, by decide +kernel⟩
set_option maxHeartbeats 0 in
theorem ok__law_values {f : Addr} {fd : FuncData} (F : Fun K "_law_values" "_law_values" s__law_values f fd) (T : Tx mg)  :
    Gf P w K mg base 1 f fd ["setting", "program", "inputs"] (spF K cl 3 F__law_values) :=
  gf_is (j := 0) (m := M__law_values) F sc__law_values rfl rfl rfl rfl fun cdv A callers s H E room guards =>
    (zscons (zset 3 sc__law_values.nd (zix (zv 0) zint))
    (zscons (zbox 4 sc__law_values.nd (zlstF zanil))
    (zscons (zset 5 sc__law_values.nd zint)
    (zscons (zsfor zpass rfl (zit (zix (zv 1) zint)) (zgname 6 sc__law_values.nd)
    (zscons (zset 7 sc__law_values.nd (zix (zv 6) zint))
    (zscons (zset 8 sc__law_values.nd znon)
    (zscons (zsif (ztcmp (zo_eq (zu64 room)) (zv 7) zstr)
    (zscons (zset 8 sc__law_values.nd (zix (zv 2) (zv 5)))
    (zsone (zset 5 sc__law_values.nd (zop zo_add (zv 5) zint))))
    (zsone (zsif (ztcmp (zo_eq (zu64 room)) (zv 7) zstr)
    (zsone (zset 8 sc__law_values.nd (zix (zv 6) zint)))
    (zsone (zsif (ztcmp (zo_eq (zu64 room)) (zv 7) zstr)
    (zsone (zset 8 sc__law_values.nd (zix (zv 4) (zix (zv 6) zint))))
    (zsone (zsif (ztcmp (zo_eq (zu64 room)) (zv 7) zstr)
    (zsone (zset 8 sc__law_values.nd (zop zo_mod (zcallTy zb_int rfl T.b_int bo_int (zacons (zop zo_mul (zix (zv 6) zint) (zix (zv 4) (zix (zv 6) zint))) zanil)) (zv 3))))
    (zsone (zsif (ztcmp zo_inF (zv 7) (ztup (zacons zstr (zacons zstr (zacons zstr zanil)))))
    (zscons (zset 9 sc__law_values.nd (zix (zv 4) (zix (zv 6) zint)))
    (zscons (zset 10 sc__law_values.nd (zix (zv 4) (zix (zv 6) zint)))
    (zsone (zset 8 sc__law_values.nd (zop zo_mod (zcallTy zb_int rfl T.b_int bo_int (zacons (zix (zlst (zacons (zop zo_add (zv 9) (zv 10)) (zacons (zop zo_sub (zv 9) (zv 10)) (zacons (zop zo_mul (zv 9) (zv 10)) zanil)))) (zindex (zlst (zacons zstr (zacons zstr (zacons zstr zanil)))) (zv 7) ⟨rfl, rfl, rfl, rfl⟩)) zanil)) (zv 3))))))
    zsnil)))))))))
    (zsone (zsapp (zv 4) (zv 8)))))))
    (zsone (zsret (zv 4)))))))

abbrev s__law_shown : Stmt := top 24
theorem sc__law_shown : FnScope ["setting", "program", "inputs", "found", "rows", "k"] ["setting", "program", "inputs"] (defScope s__law_shown) := ⟨rfl, rfl, rfl, by decide +kernel, rfl, by decide +kernel, by decide +kernel⟩
set_option maxHeartbeats 0 in
theorem ok__law_shown {f : Addr} {fd : FuncData} (F : Fun K "_law_shown" "_law_shown" s__law_shown f fd) (T : Tx mg) (C__law_values : Cal P w K mg base cl "_law_values" 1 3 F__law_values) :
    Gf P w K mg base 2 f fd ["setting", "program", "inputs"] (spF K cl 3 F__law_shown) :=
  gf_is (j := 1) (m := M__law_shown) F sc__law_shown rfl rfl rfl rfl fun cdv A callers s H E room guards =>
    (zscons (zset 3 sc__law_shown.nd (zcalC C__law_values room guards ztake (zacons (zv 0) (zacons (zv 1) (zacons (zv 2) zanil)))))
    (zscons (zset 4 sc__law_shown.nd (zix (zv 1) zint))
    (zsone (zsret (zcallTy zb_tuple rfl T.b_tuple bo_tuple (zacons (zlc (own := [("k", 5)]) rfl sc__law_shown.nd (zrng1 rfl T.b_range (zacons (zcallB zb_len rfl T.b_len bo_len (zacons (zv 4) zanil)) zanil)) (blkOk_by (N := ["setting", "program", "inputs", "found", "rows", "k"]) (sc := defScope s__law_shown) (by decide +kernel)) (by decide) (fun _ _ _ _ _ => (zgname 5 sc__law_shown.nd)) (fun _ _ _ _ _ => (pts_one (ztcmp (zo_eq (zu64 room)) (zix (zix (zv 4) (zv 5)) zint) zstr))) (fun _ _ _ _ _ => (ztup (zacons (zv 5) (zacons (zix (zix (zv 4) (zv 5)) zint) (zacons (zix (zv 3) (zix (zix (zv 4) (zv 5)) zint)) zanil)))))) zanil))))))

abbrev s_sharings : Stmt := top 8
theorem sc_sharings : FnScope ["setting", "row"] ["setting", "row"] (defScope s_sharings) := ⟨rfl, rfl, rfl, by decide +kernel, rfl, by decide +kernel, by decide +kernel⟩
set_option maxHeartbeats 0 in
theorem ok_sharings {f : Addr} {fd : FuncData} (F : Fun K "sharings" "sharings" s_sharings f fd) (T : Tx mg)  :
    Gf P w K mg base 1 f fd ["setting", "row"] (spF K cl 2 F_sharings) :=
  gf_is (j := 0) (m := M_sharings) F sc_sharings rfl rfl rfl rfl fun cdv A callers s H E room guards =>
    (zscons (zsif (ztcmp (zo_eq (zu64 room)) (zix (zv 1) zint) zstr)
    (zsone (zsret zint))
    zsnil)
    (zscons (zsif (ztcmp zo_inF (zix (zv 1) zint) (ztup (zacons zstr (zacons zstr zanil))))
    (zsone (zsret (zix (zv 0) zint)))
    zsnil)
    (zsone (zsret zint))))

abbrev s_coins_of : Stmt := top 9
theorem sc_coins_of : FnScope ["setting", "program", "row"] ["setting", "program"] (defScope s_coins_of) := ⟨rfl, rfl, rfl, by decide +kernel, rfl, by decide +kernel, by decide +kernel⟩
set_option maxHeartbeats 0 in
theorem ok_coins_of {f : Addr} {fd : FuncData} (F : Fun K "coins_of" "coins_of" s_coins_of f fd) (T : Tx mg) (C_sharings : Cal P w K mg base cl "sharings" 1 2 F_sharings) :
    Gf P w K mg base 2 f fd ["setting", "program"] (spF K cl 2 F_coins_of) :=
  gf_is (j := 1) (m := M_coins_of) F sc_coins_of rfl rfl rfl rfl fun cdv A callers s H E room guards =>
    (zsone (zsret (zop zo_mul (zix (zv 0) zint) (zcallB (zb_sum rfl) rfl T.b_sum bo_sum (zacons (zlc (own := [("row", 2)]) rfl sc_coins_of.nd (zit (zix (zv 1) zint)) (blkOk_by (N := ["setting", "program", "row"]) (sc := defScope s_coins_of) (by decide +kernel)) (by decide) (fun _ _ _ _ _ => (zgname 2 sc_coins_of.nd)) (fun _ _ _ _ _ => ztyes) (fun _ _ _ _ _ => (zcalC C_sharings room guards takes0 (zacons (zv 0) (zacons (zv 2) zanil))))) zanil)))))

abbrev s_placed : Stmt := top 10
theorem sc_placed : FnScope ["sizes", "found", "done", "row", "parts", "many"] ["sizes"] (defScope s_placed) := ⟨rfl, rfl, rfl, by decide +kernel, rfl, by decide +kernel, by decide +kernel⟩
set_option maxHeartbeats 0 in
theorem ok_placed {f : Addr} {fd : FuncData} (F : Fun K "placed" "placed" s_placed f fd) (T : Tx mg)  :
    Gf P w K mg base 1 f fd ["sizes"] (spF K cl 1 F_placed) :=
  gf_is (j := 0) (m := M_placed) F sc_placed rfl rfl rfl rfl fun cdv A callers s H E room guards =>
    (zscons (zbox 1 sc_placed.nd (zlstF zanil))
    (zscons (zset 2 sc_placed.nd zint)
    (zscons (zsfor zpass rfl (zit (zv 0)) (zgname 3 sc_placed.nd)
    (zscons (zbox 4 sc_placed.nd (zlstF zanil))
    (zscons (zsfor zpass rfl (zit (zv 3)) (zgname 5 sc_placed.nd)
    (zscons (zsapp (zv 4) (zrgT2 rfl rfl T.b_tuple rfl T.b_range (zv 2) (zop zo_add (zv 2) (zv 5))))
    (zsone (zsaug 2 sc_placed.nd zi_add (zv 5)))))
    (zsone (zsapp (zv 1) (zcallTy zb_tuple rfl T.b_tuple bo_tuple (zacons (zv 4) zanil)))))))
    (zsone (zsret (zcallTy zb_tuple rfl T.b_tuple bo_tuple (zacons (zv 1) zanil)))))))

abbrev s_places : Stmt := top 11
theorem sc_places : FnScope ["setting", "program", "row"] ["setting", "program"] (defScope s_places) := ⟨rfl, rfl, rfl, by decide +kernel, rfl, by decide +kernel, by decide +kernel⟩
set_option maxHeartbeats 0 in
theorem ok_places {f : Addr} {fd : FuncData} (F : Fun K "places" "places" s_places f fd) (T : Tx mg) (C_placed : Cal P w K mg base cl "placed" 1 1 F_placed) (C_sharings : Cal P w K mg base cl "sharings" 1 2 F_sharings) :
    Gf P w K mg base 2 f fd ["setting", "program"] (spF K cl 2 F_places) :=
  gf_is (j := 1) (m := M_places) F sc_places rfl rfl rfl rfl fun cdv A callers s H E room guards =>
    (zsone (zsret (zcalC C_placed room guards ztake (zacons (zlc (own := [("row", 2)]) rfl sc_places.nd (zit (zix (zv 1) zint)) (blkOk_by (N := ["setting", "program", "row"]) (sc := defScope s_places) (by decide +kernel)) (by decide) (fun _ _ _ _ _ => (zgname 2 sc_places.nd)) (fun _ _ _ _ _ => ztyes) (fun _ _ _ _ _ => (zop zo_rep (ztup (zacons (zix (zv 0) zint) zanil)) (zcalC C_sharings room guards takes0 (zacons (zv 0) (zacons (zv 2) zanil)))))) zanil))))

abbrev s_law : Stmt := top 25
theorem sc_law : FnScope ["script", "box", "setting", "n", "t", "program", "inputs", "at", "due", "row", "some", "k"] ["script"] (defScope s_law) := ⟨rfl, rfl, rfl, by decide +kernel, rfl, by decide +kernel, by decide +kernel⟩
set_option maxHeartbeats 0 in
theorem ok_law {f : Addr} {fd : FuncData} (F : Fun K "law" "law" s_law f fd) (T : Tx mg) (C__law_same : Cal P w K mg base cl "_law_same" 1 2 F__law_same) (C_places : Cal P w K mg base cl "places" 2 2 F_places) (C_coins_of : Cal P w K mg base cl "coins_of" 2 2 F_coins_of) (C__law_shown : Cal P w K mg base cl "_law_shown" 2 3 F__law_shown) (C_shown : Cal P w K mg base cl "shown" 3 3 F_shown) (C__law_values : Cal P w K mg base cl "_law_values" 1 3 F__law_values) (C_values : Cal P w K mg base cl "values" 2 3 F_values) (C__law_inputs : Cal P w K mg base cl "_law_inputs" 4 3 F__law_inputs) (C__law_program : Cal P w K mg base cl "_law_program" 3 4 F__law_program) (C__law_setting : Cal P w K mg base cl "_law_setting" 3 1 F__law_setting) (C__law_digits : Cal P w K mg base cl "_law_digits" 2 3 F__law_digits) :
    Gf P w K mg base 5 f fd ["script"] (spF K cl 1 F_law) :=
  gf_is (j := 4) (m := M_law) F sc_law rfl rfl rfl rfl fun cdv A callers s H E room guards =>
    (zscons (zbox 1 sc_law.nd (zlstF (zacons (zcalC C__law_digits room guards ztake (zacons (zv 0) (zacons zint (zacons zint zanil)))) (zacons zint zanil))))
    (zscons (zset 2 sc_law.nd (zcalC C__law_setting room guards ztake (zacons (zv 1) zanil)))
    (zscons (zsasg (zslice (zv 2) (zpsome zint) zpnone) (zgtup rfl (zgcons (zgname 3 sc_law.nd) (zgcons (zgname 4 sc_law.nd) zgnil))))
    (zscons (zset 5 sc_law.nd (zcalC C__law_program room guards ztake (zacons (zv 1) (zacons (zv 2) (zacons zint (zacons zint zanil))))))
    (zscons (zset 6 sc_law.nd (zcalC C__law_inputs room guards ztake (zacons (zv 1) (zacons (zv 2) (zacons (zv 5) zanil)))))
    (zscons (zsif (ztnot (ztru (zcalC C__law_same room guards ztake (zacons (zcalC C_values room guards ztake (zacons (zv 2) (zacons (zv 5) (zacons (zv 6) zanil)))) (zacons (zcallTy zb_tuple rfl T.b_tuple bo_tuple (zacons (zcalC C__law_values room guards ztake (zacons (zv 2) (zacons (zv 5) (zacons (zv 6) zanil)))) zanil)) zanil)))))
    (zsone (zsret zbl))
    zsnil)
    (zscons (zsif (ztnot (ztru (zcalC C__law_same room guards ztake (zacons (zcalC C_shown room guards ztake (zacons (zv 2) (zacons (zv 5) (zacons (zv 6) zanil)))) (zacons (zcalC C__law_shown room guards ztake (zacons (zv 2) (zacons (zv 5) (zacons (zv 6) zanil)))) zanil)))))
    (zsone (zsret zbl))
    zsnil)
    (zscons (zset 7 sc_law.nd zint)
    (zscons (zbox 8 sc_law.nd (zlstF zanil))
    (zscons (zsfor zpass rfl (zit (zix (zv 5) zint)) (zgname 9 sc_law.nd)
    (zscons (zbox 10 sc_law.nd (zlstF zanil))
    (zscons (zsfor zpass rfl (zrng1 rfl T.b_range (zacons (zdget (Nat.lt_of_le_of_lt (Nat.add_le_add_left (by decide : 1 ≤ 64) _) (zu64 room)) (by decide) (by decide) (zprs_cons zint (zprs_cons (zv 3) (zprs_cons (zv 3) zprs_nil))) rfl rfl (List.cons_ne_nil _ _) (by decide) (zix (zv 9) zint) zint ⟨rfl, rfl, rfl, rfl⟩) zanil)) (zgname 11 sc_law.nd)
    (zscons (zsapp (zv 10) (zrgT2 rfl rfl T.b_tuple rfl T.b_range (zv 7) (zop zo_add (zv 7) (zv 4))))
    (zsone (zset 7 sc_law.nd (zop zo_add (zv 7) (zv 4))))))
    (zsone (zsapp (zv 8) (zcallTy zb_tuple rfl T.b_tuple bo_tuple (zacons (zv 10) zanil)))))))
    (zsone (zsret (zand (zcmp (zo_eq (zu64 room)) (zcalC C_coins_of room guards ztake (zacons (zv 2) (zacons (zv 5) zanil))) (zv 7)) (zone (zcalC C__law_same room guards ztake (zacons (zcalC C_places room guards ztake (zacons (zv 2) (zacons (zv 5) zanil))) (zacons (zcallTy zb_tuple rfl T.b_tuple bo_tuple (zacons (zv 8) zanil)) zanil)))))))))))))))))

end
set_option maxHeartbeats 0 in
theorem all_mk {P : Program} {w : World} {K : PySem.W.Frag} {h : Heap} {mg : Str → Option Value} {fa : Addr} (X : K.In h) (G : h.Ns mainGlobals mg) (hfa : mg "law" = some (.ref fa))
    {f0 : Addr} {od0 an0 : Option Addr} {sl0 : Array (Option Value)} {oc0 kV0 dc0 pm0 cd0 ct0 : Value} (a0 : PySem.W.nsIn K mainGlobals "_law_draw" = some (some (.ref f0)))
    (l0 : K.lookup f0 = some ⟨oc0, od0, .func (PySem.W.fnOf "_law_draw" "_law_draw" (defArgs s__law_draw) (defBody s__law_draw) (defScope s__law_draw) .none kV0 dc0 pm0 an0 cd0 ct0), sl0⟩) (c0 : PySem.W.codeIn K cd0 "_law_draw" = true) (k0 : PySem.W.keepIn K (.ref f0) = true)
    {f1 : Addr} {od1 an1 : Option Addr} {sl1 : Array (Option Value)} {oc1 kV1 dc1 pm1 cd1 ct1 : Value} (a1 : PySem.W.nsIn K mainGlobals "_law_pick" = some (some (.ref f1)))
    (l1 : K.lookup f1 = some ⟨oc1, od1, .func (PySem.W.fnOf "_law_pick" "_law_pick" (defArgs s__law_pick) (defBody s__law_pick) (defScope s__law_pick) .none kV1 dc1 pm1 an1 cd1 ct1), sl1⟩) (c1 : PySem.W.codeIn K cd1 "_law_pick" = true) (k1 : PySem.W.keepIn K (.ref f1) = true)
    {f2 : Addr} {od2 an2 : Option Addr} {sl2 : Array (Option Value)} {oc2 kV2 dc2 pm2 cd2 ct2 : Value} (a2 : PySem.W.nsIn K mainGlobals "_law_setting" = some (some (.ref f2)))
    (l2 : K.lookup f2 = some ⟨oc2, od2, .func (PySem.W.fnOf "_law_setting" "_law_setting" (defArgs s__law_setting) (defBody s__law_setting) (defScope s__law_setting) .none kV2 dc2 pm2 an2 cd2 ct2), sl2⟩) (c2 : PySem.W.codeIn K cd2 "_law_setting" = true) (k2 : PySem.W.keepIn K (.ref f2) = true)
    {f3 : Addr} {od3 an3 : Option Addr} {sl3 : Array (Option Value)} {oc3 kV3 dc3 pm3 cd3 ct3 : Value} (a3 : PySem.W.nsIn K mainGlobals "_law_number" = some (some (.ref f3)))
    (l3 : K.lookup f3 = some ⟨oc3, od3, .func (PySem.W.fnOf "_law_number" "_law_number" (defArgs s__law_number) (defBody s__law_number) (defScope s__law_number) .none kV3 dc3 pm3 an3 cd3 ct3), sl3⟩) (c3 : PySem.W.codeIn K cd3 "_law_number" = true) (k3 : PySem.W.keepIn K (.ref f3) = true)
    {f4 : Addr} {od4 an4 : Option Addr} {sl4 : Array (Option Value)} {oc4 kV4 dc4 pm4 cd4 ct4 : Value} (a4 : PySem.W.nsIn K mainGlobals "_law_program" = some (some (.ref f4)))
    (l4 : K.lookup f4 = some ⟨oc4, od4, .func (PySem.W.fnOf "_law_program" "_law_program" (defArgs s__law_program) (defBody s__law_program) (defScope s__law_program) .none kV4 dc4 pm4 an4 cd4 ct4), sl4⟩) (c4 : PySem.W.codeIn K cd4 "_law_program" = true) (k4 : PySem.W.keepIn K (.ref f4) = true)
    {f5 : Addr} {od5 an5 : Option Addr} {sl5 : Array (Option Value)} {oc5 kV5 dc5 pm5 cd5 ct5 : Value} (a5 : PySem.W.nsIn K mainGlobals "_law_numbers" = some (some (.ref f5)))
    (l5 : K.lookup f5 = some ⟨oc5, od5, .func (PySem.W.fnOf "_law_numbers" "_law_numbers" (defArgs s__law_numbers) (defBody s__law_numbers) (defScope s__law_numbers) .none kV5 dc5 pm5 an5 cd5 ct5), sl5⟩) (c5 : PySem.W.codeIn K cd5 "_law_numbers" = true) (k5 : PySem.W.keepIn K (.ref f5) = true)
    {f6 : Addr} {od6 an6 : Option Addr} {sl6 : Array (Option Value)} {oc6 kV6 dc6 pm6 cd6 ct6 : Value} (a6 : PySem.W.nsIn K mainGlobals "_law_inputs" = some (some (.ref f6)))
    (l6 : K.lookup f6 = some ⟨oc6, od6, .func (PySem.W.fnOf "_law_inputs" "_law_inputs" (defArgs s__law_inputs) (defBody s__law_inputs) (defScope s__law_inputs) .none kV6 dc6 pm6 an6 cd6 ct6), sl6⟩) (c6 : PySem.W.codeIn K cd6 "_law_inputs" = true) (k6 : PySem.W.keepIn K (.ref f6) = true)
    {f7 : Addr} {od7 an7 : Option Addr} {sl7 : Array (Option Value)} {oc7 kV7 dc7 pm7 cd7 ct7 : Value} (a7 : PySem.W.nsIn K mainGlobals "_law_cell" = some (some (.ref f7)))
    (l7 : K.lookup f7 = some ⟨oc7, od7, .func (PySem.W.fnOf "_law_cell" "_law_cell" (defArgs s__law_cell) (defBody s__law_cell) (defScope s__law_cell) .none kV7 dc7 pm7 an7 cd7 ct7), sl7⟩) (c7 : PySem.W.codeIn K cd7 "_law_cell" = true) (k7 : PySem.W.keepIn K (.ref f7) = true)
    {f8 : Addr} {od8 an8 : Option Addr} {sl8 : Array (Option Value)} {oc8 kV8 dc8 pm8 cd8 ct8 : Value} (a8 : PySem.W.nsIn K mainGlobals "_law_digits" = some (some (.ref f8)))
    (l8 : K.lookup f8 = some ⟨oc8, od8, .func (PySem.W.fnOf "_law_digits" "_law_digits" (defArgs s__law_digits) (defBody s__law_digits) (defScope s__law_digits) .none kV8 dc8 pm8 an8 cd8 ct8), sl8⟩) (c8 : PySem.W.codeIn K cd8 "_law_digits" = true) (k8 : PySem.W.keepIn K (.ref f8) = true)
    {f9 : Addr} {od9 an9 : Option Addr} {sl9 : Array (Option Value)} {oc9 kV9 dc9 pm9 cd9 ct9 : Value} (a9 : PySem.W.nsIn K mainGlobals "_law_same" = some (some (.ref f9)))
    (l9 : K.lookup f9 = some ⟨oc9, od9, .func (PySem.W.fnOf "_law_same" "_law_same" (defArgs s__law_same) (defBody s__law_same) (defScope s__law_same) .none kV9 dc9 pm9 an9 cd9 ct9), sl9⟩) (c9 : PySem.W.codeIn K cd9 "_law_same" = true) (k9 : PySem.W.keepIn K (.ref f9) = true)
    {f10 : Addr} {od10 an10 : Option Addr} {sl10 : Array (Option Value)} {oc10 kV10 dc10 pm10 cd10 ct10 : Value} (a10 : PySem.W.nsIn K mainGlobals "value_of" = some (some (.ref f10)))
    (l10 : K.lookup f10 = some ⟨oc10, od10, .func (PySem.W.fnOf "value_of" "value_of" (defArgs s_value_of) (defBody s_value_of) (defScope s_value_of) .none kV10 dc10 pm10 an10 cd10 ct10), sl10⟩) (c10 : PySem.W.codeIn K cd10 "value_of" = true) (k10 : PySem.W.keepIn K (.ref f10) = true)
    {f11 : Addr} {od11 an11 : Option Addr} {sl11 : Array (Option Value)} {oc11 kV11 dc11 pm11 cd11 ct11 : Value} (a11 : PySem.W.nsIn K mainGlobals "values" = some (some (.ref f11)))
    (l11 : K.lookup f11 = some ⟨oc11, od11, .func (PySem.W.fnOf "values" "values" (defArgs s_values) (defBody s_values) (defScope s_values) .none kV11 dc11 pm11 an11 cd11 ct11), sl11⟩) (c11 : PySem.W.codeIn K cd11 "values" = true) (k11 : PySem.W.keepIn K (.ref f11) = true)
    {f12 : Addr} {od12 an12 : Option Addr} {sl12 : Array (Option Value)} {oc12 kV12 dc12 pm12 cd12 ct12 : Value} (a12 : PySem.W.nsIn K mainGlobals "rows_of" = some (some (.ref f12)))
    (l12 : K.lookup f12 = some ⟨oc12, od12, .func (PySem.W.fnOf "rows_of" "rows_of" (defArgs s_rows_of) (defBody s_rows_of) (defScope s_rows_of) .none kV12 dc12 pm12 an12 cd12 ct12), sl12⟩) (c12 : PySem.W.codeIn K cd12 "rows_of" = true) (k12 : PySem.W.keepIn K (.ref f12) = true)
    {f13 : Addr} {od13 an13 : Option Addr} {sl13 : Array (Option Value)} {oc13 kV13 dc13 pm13 cd13 ct13 : Value} (a13 : PySem.W.nsIn K mainGlobals "output_rows" = some (some (.ref f13)))
    (l13 : K.lookup f13 = some ⟨oc13, od13, .func (PySem.W.fnOf "output_rows" "output_rows" (defArgs s_output_rows) (defBody s_output_rows) (defScope s_output_rows) .none kV13 dc13 pm13 an13 cd13 ct13), sl13⟩) (c13 : PySem.W.codeIn K cd13 "output_rows" = true) (k13 : PySem.W.keepIn K (.ref f13) = true)
    {f14 : Addr} {od14 an14 : Option Addr} {sl14 : Array (Option Value)} {oc14 kV14 dc14 pm14 cd14 ct14 : Value} (a14 : PySem.W.nsIn K mainGlobals "shown" = some (some (.ref f14)))
    (l14 : K.lookup f14 = some ⟨oc14, od14, .func (PySem.W.fnOf "shown" "shown" (defArgs s_shown) (defBody s_shown) (defScope s_shown) .none kV14 dc14 pm14 an14 cd14 ct14), sl14⟩) (c14 : PySem.W.codeIn K cd14 "shown" = true) (k14 : PySem.W.keepIn K (.ref f14) = true)
    {f15 : Addr} {od15 an15 : Option Addr} {sl15 : Array (Option Value)} {oc15 kV15 dc15 pm15 cd15 ct15 : Value} (a15 : PySem.W.nsIn K mainGlobals "_law_values" = some (some (.ref f15)))
    (l15 : K.lookup f15 = some ⟨oc15, od15, .func (PySem.W.fnOf "_law_values" "_law_values" (defArgs s__law_values) (defBody s__law_values) (defScope s__law_values) .none kV15 dc15 pm15 an15 cd15 ct15), sl15⟩) (c15 : PySem.W.codeIn K cd15 "_law_values" = true) (k15 : PySem.W.keepIn K (.ref f15) = true)
    {f16 : Addr} {od16 an16 : Option Addr} {sl16 : Array (Option Value)} {oc16 kV16 dc16 pm16 cd16 ct16 : Value} (a16 : PySem.W.nsIn K mainGlobals "_law_shown" = some (some (.ref f16)))
    (l16 : K.lookup f16 = some ⟨oc16, od16, .func (PySem.W.fnOf "_law_shown" "_law_shown" (defArgs s__law_shown) (defBody s__law_shown) (defScope s__law_shown) .none kV16 dc16 pm16 an16 cd16 ct16), sl16⟩) (c16 : PySem.W.codeIn K cd16 "_law_shown" = true) (k16 : PySem.W.keepIn K (.ref f16) = true)
    {f17 : Addr} {od17 an17 : Option Addr} {sl17 : Array (Option Value)} {oc17 kV17 dc17 pm17 cd17 ct17 : Value} (a17 : PySem.W.nsIn K mainGlobals "sharings" = some (some (.ref f17)))
    (l17 : K.lookup f17 = some ⟨oc17, od17, .func (PySem.W.fnOf "sharings" "sharings" (defArgs s_sharings) (defBody s_sharings) (defScope s_sharings) .none kV17 dc17 pm17 an17 cd17 ct17), sl17⟩) (c17 : PySem.W.codeIn K cd17 "sharings" = true) (k17 : PySem.W.keepIn K (.ref f17) = true)
    {f18 : Addr} {od18 an18 : Option Addr} {sl18 : Array (Option Value)} {oc18 kV18 dc18 pm18 cd18 ct18 : Value} (a18 : PySem.W.nsIn K mainGlobals "coins_of" = some (some (.ref f18)))
    (l18 : K.lookup f18 = some ⟨oc18, od18, .func (PySem.W.fnOf "coins_of" "coins_of" (defArgs s_coins_of) (defBody s_coins_of) (defScope s_coins_of) .none kV18 dc18 pm18 an18 cd18 ct18), sl18⟩) (c18 : PySem.W.codeIn K cd18 "coins_of" = true) (k18 : PySem.W.keepIn K (.ref f18) = true)
    {f19 : Addr} {od19 an19 : Option Addr} {sl19 : Array (Option Value)} {oc19 kV19 dc19 pm19 cd19 ct19 : Value} (a19 : PySem.W.nsIn K mainGlobals "placed" = some (some (.ref f19)))
    (l19 : K.lookup f19 = some ⟨oc19, od19, .func (PySem.W.fnOf "placed" "placed" (defArgs s_placed) (defBody s_placed) (defScope s_placed) .none kV19 dc19 pm19 an19 cd19 ct19), sl19⟩) (c19 : PySem.W.codeIn K cd19 "placed" = true) (k19 : PySem.W.keepIn K (.ref f19) = true)
    {f20 : Addr} {od20 an20 : Option Addr} {sl20 : Array (Option Value)} {oc20 kV20 dc20 pm20 cd20 ct20 : Value} (a20 : PySem.W.nsIn K mainGlobals "places" = some (some (.ref f20)))
    (l20 : K.lookup f20 = some ⟨oc20, od20, .func (PySem.W.fnOf "places" "places" (defArgs s_places) (defBody s_places) (defScope s_places) .none kV20 dc20 pm20 an20 cd20 ct20), sl20⟩) (c20 : PySem.W.codeIn K cd20 "places" = true) (k20 : PySem.W.keepIn K (.ref f20) = true)
    {f21 : Addr} {od21 an21 : Option Addr} {sl21 : Array (Option Value)} {oc21 kV21 dc21 pm21 cd21 ct21 : Value} (a21 : PySem.W.nsIn K mainGlobals "law" = some (some (.ref f21)))
    (l21 : K.lookup f21 = some ⟨oc21, od21, .func (PySem.W.fnOf "law" "law" (defArgs s_law) (defBody s_law) (defScope s_law) .none kV21 dc21 pm21 an21 cd21 ct21), sl21⟩) (c21 : PySem.W.codeIn K cd21 "law" = true) (k21 : PySem.W.keepIn K (.ref f21) = true)
    (z_len : PySem.W.nsIn K mainGlobals "len" = some none)
    (z_int : PySem.W.nsIn K mainGlobals "int" = some none)
    (z_min : PySem.W.nsIn K mainGlobals "min" = some none)
    (z_tuple : PySem.W.nsIn K mainGlobals "tuple" = some none)
    (z_range : PySem.W.nsIn K mainGlobals "range" = some none)
    (z_repr : PySem.W.nsIn K mainGlobals "repr" = some none)
    (z_enumerate : PySem.W.nsIn K mainGlobals "enumerate" = some none)
    (z_sum : PySem.W.nsIn K mainGlobals "sum" = some none)
    : ∃ (fd : FuncData) (cl : Str → Option Addr), (∀ (s : Shared) (u : Value), BindsTo s fd ⟨[u], []⟩ [("script", u)]) ∧ ∀ base : Heap, K.In base → base.Ns mainGlobals mg → Gf P w K mg base 5 fa fd ["script"] (spF K cl 1 F_law) := by
  have e := hfa.symm.trans (PySem.W.mg_of X G a21)
  cases e
  have T : Tx mg := ⟨PySem.W.mg_none_of X G z_len, PySem.W.mg_none_of X G z_int, PySem.W.mg_none_of X G z_min, PySem.W.mg_none_of X G z_tuple, PySem.W.mg_none_of X G z_range, PySem.W.mg_none_of X G z_repr, PySem.W.mg_none_of X G z_enumerate, PySem.W.mg_none_of X G z_sum⟩
  have F0 := fun_mk (st := s__law_draw) l0 c0 k0
  have F1 := fun_mk (st := s__law_pick) l1 c1 k1
  have F2 := fun_mk (st := s__law_setting) l2 c2 k2
  have F3 := fun_mk (st := s__law_number) l3 c3 k3
  have F4 := fun_mk (st := s__law_program) l4 c4 k4
  have F5 := fun_mk (st := s__law_numbers) l5 c5 k5
  have F6 := fun_mk (st := s__law_inputs) l6 c6 k6
  have F7 := fun_mk (st := s__law_cell) l7 c7 k7
  have F8 := fun_mk (st := s__law_digits) l8 c8 k8
  have F9 := fun_mk (st := s__law_same) l9 c9 k9
  have F10 := fun_mk (st := s_value_of) l10 c10 k10
  have F11 := fun_mk (st := s_values) l11 c11 k11
  have F12 := fun_mk (st := s_rows_of) l12 c12 k12
  have F13 := fun_mk (st := s_output_rows) l13 c13 k13
  have F14 := fun_mk (st := s_shown) l14 c14 k14
  have F15 := fun_mk (st := s__law_values) l15 c15 k15
  have F16 := fun_mk (st := s__law_shown) l16 c16 k16
  have F17 := fun_mk (st := s_sharings) l17 c17 k17
  have F18 := fun_mk (st := s_coins_of) l18 c18 k18
  have F19 := fun_mk (st := s_placed) l19 c19 k19
  have F20 := fun_mk (st := s_places) l20 c20 k20
  have F21 := fun_mk (st := s_law) l21 c21 k21
  refine ⟨PySem.W.fnOf "law" "law" (defArgs s_law) (defBody s_law) (defScope s_law) .none kV21 dc21 pm21 an21 cd21 ct21, fun _ => none, fun s u => .of_eq rfl, fun base _ _ => ?_⟩
  have C__law_draw : Cal P w K mg base (fun _ => none) "_law_draw" 1 2 F__law_draw := ⟨_, _, _, ok__law_draw F0 T , PySem.W.mg_of X G a0, k0, F0.binds (ps := ["box", "many"]) fun _ _ _ _ _ _ us hl => match us, hl with | [_, _], _ => rfl⟩
  have C__law_pick : Cal P w K mg base (fun _ => none) "_law_pick" 2 2 F__law_pick := ⟨_, _, _, ok__law_pick F1 T C__law_draw, PySem.W.mg_of X G a1, k1, F1.binds (ps := ["box", "things"]) fun _ _ _ _ _ _ us hl => match us, hl with | [_, _], _ => rfl⟩
  have C__law_setting : Cal P w K mg base (fun _ => none) "_law_setting" 3 1 F__law_setting := ⟨_, _, _, ok__law_setting F2 T C__law_draw C__law_pick, PySem.W.mg_of X G a2, k2, F2.binds (ps := ["box"]) fun _ _ _ _ _ _ us hl => match us, hl with | [_], _ => rfl⟩
  have C__law_number : Cal P w K mg base (fun _ => none) "_law_number" 2 2 F__law_number := ⟨_, _, _, ok__law_number F3 T C__law_draw, PySem.W.mg_of X G a3, k3, F3.binds (ps := ["box", "p"]) fun _ _ _ _ _ _ us hl => match us, hl with | [_, _], _ => rfl⟩
  have C__law_program : Cal P w K mg base (fun _ => none) "_law_program" 3 4 F__law_program := ⟨_, _, _, ok__law_program F4 T C__law_draw C__law_pick C__law_number, PySem.W.mg_of X G a4, k4, F4.binds (ps := ["box", "setting", "most", "turns"]) fun _ _ _ _ _ _ us hl => match us, hl with | [_, _, _, _], _ => rfl⟩
  have C__law_numbers : Cal P w K mg base (fun _ => none) "_law_numbers" 3 3 F__law_numbers := ⟨_, _, _, ok__law_numbers F5 T C__law_number, PySem.W.mg_of X G a5, k5, F5.binds (ps := ["box", "p", "many"]) fun _ _ _ _ _ _ us hl => match us, hl with | [_, _, _], _ => rfl⟩
  have C__law_inputs : Cal P w K mg base (fun _ => none) "_law_inputs" 4 3 F__law_inputs := ⟨_, _, _, ok__law_inputs F6 T C__law_numbers, PySem.W.mg_of X G a6, k6, F6.binds (ps := ["box", "setting", "program"]) fun _ _ _ _ _ _ us hl => match us, hl with | [_, _, _], _ => rfl⟩
  have C__law_cell : Cal P w K mg base (fun _ => none) "_law_cell" 1 2 F__law_cell := ⟨_, _, _, ok__law_cell F7 T , PySem.W.mg_of X G a7, k7, F7.binds (ps := ["script", "k"]) fun _ _ _ _ _ _ us hl => match us, hl with | [_, _], _ => rfl⟩
  have C__law_digits : Cal P w K mg base (fun _ => none) "_law_digits" 2 3 F__law_digits := ⟨_, _, _, ok__law_digits F8 T C__law_cell, PySem.W.mg_of X G a8, k8, F8.binds (ps := ["script", "first", "last"]) fun _ _ _ _ _ _ us hl => match us, hl with | [_, _, _], _ => rfl⟩
  have C__law_same : Cal P w K mg base (fun _ => none) "_law_same" 1 2 F__law_same := ⟨_, _, _, ok__law_same F9 T , PySem.W.mg_of X G a9, k9, F9.binds (ps := ["actual", "due"]) fun _ _ _ _ _ _ us hl => match us, hl with | [_, _], _ => rfl⟩
  have C_value_of : Cal P w K mg base (fun _ => none) "value_of" 1 3 F_value_of := ⟨_, _, _, ok_value_of F10 T , PySem.W.mg_of X G a10, k10, F10.binds (ps := ["p", "row", "before"]) fun _ _ _ _ _ _ us hl => match us, hl with | [_, _, _], _ => rfl⟩
  have C_values : Cal P w K mg base (fun _ => none) "values" 2 3 F_values := ⟨_, _, _, ok_values F11 T C_value_of, PySem.W.mg_of X G a11, k11, F11.binds (ps := ["setting", "program", "inputs"]) fun _ _ _ _ _ _ us hl => match us, hl with | [_, _, _], _ => rfl⟩
  have C_rows_of : Cal P w K mg base (fun _ => none) "rows_of" 1 2 F_rows_of := ⟨_, _, _, ok_rows_of F12 T , PySem.W.mg_of X G a12, k12, F12.binds (ps := ["program", "word"]) fun _ _ _ _ _ _ us hl => match us, hl with | [_, _], _ => rfl⟩
  have C_output_rows : Cal P w K mg base (fun _ => none) "output_rows" 2 1 F_output_rows := ⟨_, _, _, ok_output_rows F13 T C_rows_of, PySem.W.mg_of X G a13, k13, F13.binds (ps := ["program"]) fun _ _ _ _ _ _ us hl => match us, hl with | [_], _ => rfl⟩
  have C_shown : Cal P w K mg base (fun _ => none) "shown" 3 3 F_shown := ⟨_, _, _, ok_shown F14 T C_output_rows C_values, PySem.W.mg_of X G a14, k14, F14.binds (ps := ["setting", "program", "inputs"]) fun _ _ _ _ _ _ us hl => match us, hl with | [_, _, _], _ => rfl⟩
  have C__law_values : Cal P w K mg base (fun _ => none) "_law_values" 1 3 F__law_values := ⟨_, _, _, ok__law_values F15 T , PySem.W.mg_of X G a15, k15, F15.binds (ps := ["setting", "program", "inputs"]) fun _ _ _ _ _ _ us hl => match us, hl with | [_, _, _], _ => rfl⟩
  have C__law_shown : Cal P w K mg base (fun _ => none) "_law_shown" 2 3 F__law_shown := ⟨_, _, _, ok__law_shown F16 T C__law_values, PySem.W.mg_of X G a16, k16, F16.binds (ps := ["setting", "program", "inputs"]) fun _ _ _ _ _ _ us hl => match us, hl with | [_, _, _], _ => rfl⟩
  have C_sharings : Cal P w K mg base (fun _ => none) "sharings" 1 2 F_sharings := ⟨_, _, _, ok_sharings F17 T , PySem.W.mg_of X G a17, k17, F17.binds (ps := ["setting", "row"]) fun _ _ _ _ _ _ us hl => match us, hl with | [_, _], _ => rfl⟩
  have C_coins_of : Cal P w K mg base (fun _ => none) "coins_of" 2 2 F_coins_of := ⟨_, _, _, ok_coins_of F18 T C_sharings, PySem.W.mg_of X G a18, k18, F18.binds (ps := ["setting", "program"]) fun _ _ _ _ _ _ us hl => match us, hl with | [_, _], _ => rfl⟩
  have C_placed : Cal P w K mg base (fun _ => none) "placed" 1 1 F_placed := ⟨_, _, _, ok_placed F19 T , PySem.W.mg_of X G a19, k19, F19.binds (ps := ["sizes"]) fun _ _ _ _ _ _ us hl => match us, hl with | [_], _ => rfl⟩
  have C_places : Cal P w K mg base (fun _ => none) "places" 2 2 F_places := ⟨_, _, _, ok_places F20 T C_placed C_sharings, PySem.W.mg_of X G a20, k20, F20.binds (ps := ["setting", "program"]) fun _ _ _ _ _ _ us hl => match us, hl with | [_, _], _ => rfl⟩
  exact ok_law F21 T C__law_same C_places C_coins_of C__law_shown C_shown C__law_values C_values C__law_inputs C__law_program C__law_setting C__law_digits
end Zp
namespace Zp
open PySem L2 Zv PyProof.Rows Zn
theorem dget_is {st : Store} {n : Int} {r : Rw} {o0 o1 o2 o4 o5 o6 o7 o8 o10 o11 : Option D} : mDGet [("in", mC (.int 1)), ("product", mVar 3), ("kept", mVar 3)] (mOp dIx (mVar 9) (mC (.int 0))) (mC (.int 0)) [o0, o1, o2, some (.int n), o4, o5, o6, o7, o8, some r.d, o10, o11] st = .ok (.int (shr n r)) st := by
  unfold mDGet
  cases r <;> simp only [aPrs, kGet, kGetA, kGetB, findS, Rw.d, shr, at0, Option.getD_some, Option.getD_none, w_in_const, w_in_kept, w_in_product, w_in_sum, w_in_less, w_in_times, w_in_out, w_in_next, w_const_in, w_const_kept, w_const_product, w_const_sum, w_const_less, w_const_times, w_const_out, w_const_next, w_kept_in, w_kept_const, w_kept_product, w_kept_sum, w_kept_less, w_kept_times, w_kept_out, w_kept_next, w_product_in, w_product_const, w_product_kept, w_product_sum, w_product_less, w_product_times, w_product_out, w_product_next, w_sum_in, w_sum_const, w_sum_kept, w_sum_product, w_sum_less, w_sum_times, w_sum_out, w_sum_next, w_less_in, w_less_const, w_less_kept, w_less_product, w_less_sum, w_less_times, w_less_out, w_less_next, w_times_in, w_times_const, w_times_kept, w_times_product, w_times_sum, w_times_less, w_times_out, w_times_next, w_out_in, w_out_const, w_out_kept, w_out_product, w_out_sum, w_out_less, w_out_times, w_out_next, w_next_in, w_next_const, w_next_kept, w_next_product, w_next_sum, w_next_less, w_next_times, w_next_out, q_runF, q_kFin, q_kFinN, q_mC, q_v0, q_v1, q_v2, q_v3, q_v4, q_v5, q_v6, q_v7, q_v8, q_v9, q_v10, q_v11, q_v12, q_v13, q_mOp, q_mTest, q_kB, q_kAnd, q_kOr, q_kNot, q_kNeg, q_kChT, q_kChF, q_mTru, q_tAnd, q_tOr, q_tNot, q_tYes, q_eAnd, q_eOr, q_eNot, q_mIf, q_aNil, q_aCons, q_mTup, q_mLst, q_mB, q_mCall, q_mNeg, q_mChain, q_sNil, q_sSeq, q_sExpr, q_sRet, q_sRetN, q_sBk, q_sCt, q_sIf, q_sAsg, q_kPutN, q_sBox, q_kBox, q_sApp, q_sSetI, q_sAug, q_kAug, q_kAug2, q_sFor, q_mRng1, q_kR1, q_kR2, q_mRng2, q_mIt, q_kItL, q_kItT, q_addI, q_addS, q_addT, q_addL, q_sub, q_mul, q_mod, q_fdv, q_pow, q_lt, q_le, q_gt, q_ge, q_iadd, q_isub, q_isN, q_notN, q_isNon_non, q_isNon_int, q_isNon_tup, q_isNon_lst, q_eqI, q_eqS, q_neI, q_neS, q_ixT, q_ixL, q_ixS, q_ixR0, q_int, q_intb, q_lenT, q_lenC, q_lenL, q_min, q_max, q_tupL, q_tupT, q_listL, q_listT, q_truB, q_truI, q_truT, q_truL, q_truN, q_bind, q_toS, q_nx, q_rt, q_bk, q_ct, q_ofO, q_noex, List.set_cons_zero, List.set_cons_succ, List.getElem?_cons_zero, List.getElem?_cons_succ, Option.map_some, Option.bind_some, List.length_cons, List.length_nil, List.map_cons, List.map_nil, Nat.reduceAdd, Nat.reduceSub, Nat.reduceLeDiff, Nat.reduceEqDiff, List.replicate_succ, List.replicate_zero, List.cons_append, List.nil_append, ↓reduceIte, if_true, if_false, Bool.false_eq_true, decide_true, decide_false, Bool.not_true, Bool.not_false, and_self, and_true, true_and, or_true, true_or, not_true_eq_false, not_false_eq_true, q_v14, q_v15, q_v16, q_v17, q_mEnum, q_kEnum, q_mZip, q_kZip, q_mRev, q_kRev, q_aStar, q_kSt, q_pNone, q_pSome, q_kPart, q_mSl, q_kSl2, q_kSl3, q_kCutT, q_kCutL, q_wkL, q_wkT, q_wkS]
theorem law_yes : ∀ ns : List Int, ns.length ≤ 63 → F_law [.scr ns] [] = .ok (.bl true) [] := by
  intro ns hns
  obtain ⟨ds, eD⟩ := digits_is (ns := ns) (a := 0) (b := 63) (by omega) (by omega) (st := [])
  obtain ⟨p, n, t, h1, h2, h3, h4, h5, h6, eS⟩ := good_of (ds := ds) (m := 0) (st := [])
  obtain ⟨rs, m2, hl, eP, hI⟩ := good_made (ds := ds) (m := 0 + 3) (st := []) (turns := 2) (most := 30) h1 h2 h3 h4 h5 h6 (by omega) (by omega)
  obtain ⟨ins, m4, g, eI⟩ := hI m2 []
  have hp0 := g.p0
  have hlen := g.len
  have eV := values_is (st := [Box ds m4]) (n := n) (t := t) hp0 (by omega) (by omega) g.inl g.href
  have eL := lvalues_is (st := [Box ds m4]) (n := n) (t := t) hp0 (by omega) (by omega) g.inl g.href
  have eW := shown_is (st := [Box ds m4]) (n := n) (t := t) hp0 (by omega) (by omega) g.inl g.href g.hall
  have eX := lshown_is (st := [Box ds m4]) (n := n) (t := t) hp0 (by omega) (by omega) g.inl g.href g.hall
  have s1 := Sm.same g.sm_vals (st := [Box ds m4])
  have s2 := Sm.same g.sm_tell (st := [Box ds m4])
  have b0 : [Cell.lst [D.lst (ds.map D.int), .int 0]] = [Box ds 0] := rfl
  have ec : Zv.cutD [.str "setting", .int p, .int (n : Int), .int (t : Int)] (some 2) none = [.int (n : Int), .int (t : Int)] := rfl
  have ek : ∀ s, kPut (.tp [.nm 3, .nm 4]) [some (.scr ns), some (.ref 0), some (settD p n t), none, none, none, none, none, none, none, none, none] (.tup [.int (n : Int), .int (t : Int)]) s = .ok .nx [some (.scr ns), some (.ref 0), some (settD p n t), some (.int (n : Int)), some (.int (t : Int)), none, none, none, none, none, none, none] s := fun s => q_kPut rfl
  have w0 : ((0 : Nat) : Int) = 0 := rfl
  have w1 : ((30 : Nat) : Int) = 30 := rfl
  have w2 : ((63 : Nat) : Int) = 63 := rfl
  simp only [w0, w1, w2] at eD eP
  simp (disch := (first | assumption | omega | (simp only [List.length_map, List.length_range, List.length_append, List.length_cons, List.length_nil, List.length_replicate, List.length_zipIdx, List.length_zip, rngD, sz]; omega))) only [F_law, M_law, eD, b0, eS, ec, ek, eP, eI, eV, eL, eW, eX, s1, s2, q_runF, q_kFin, q_kFinN, q_mC, q_v0, q_v1, q_v2, q_v3, q_v4, q_v5, q_v6, q_v7, q_v8, q_v9, q_v10, q_v11, q_v12, q_v13, q_mOp, q_mTest, q_kB, q_kAnd, q_kOr, q_kNot, q_kNeg, q_kChT, q_kChF, q_mTru, q_tAnd, q_tOr, q_tNot, q_tYes, q_eAnd, q_eOr, q_eNot, q_mIf, q_aNil, q_aCons, q_mB, q_mCall, q_mNeg, q_mChain, q_sNil, q_sSeq, q_sExpr, q_sRet, q_sRetN, q_sBk, q_sCt, q_sIf, q_sAsg, q_kPutN, q_sBox, q_kBox, q_sApp, q_sSetI, q_sAug, q_kAug, q_kAug2, q_mRng1, q_mRng2, q_mIt, q_kItL, q_kItT, q_addI, q_addS, q_sub, q_lt, q_le, q_gt, q_ge, q_iadd, q_isub, q_isN, q_notN, q_isNon_non, q_isNon_int, q_isNon_tup, q_isNon_lst, q_eqI, q_eqS, q_neI, q_neS, q_ixT, q_ixL, q_ixS, q_int, q_intb, q_lenT, q_lenC, q_lenL, q_min, q_max, q_tupL, q_tupT, q_listL, q_listT, q_truB, q_truI, q_truT, q_truL, q_truN, q_bind, q_toS, q_nx, q_rt, q_bk, q_ct, q_ofO, q_noex, List.set_cons_zero, List.set_cons_succ, List.getElem?_cons_zero, List.getElem?_cons_succ, Option.map_some, Option.bind_some, List.length_cons, List.length_nil, List.map_cons, List.map_nil, Nat.reduceAdd, Nat.reduceSub, Nat.reduceLeDiff, Nat.reduceEqDiff, List.replicate_succ, List.replicate_zero, List.cons_append, List.nil_append, ↓reduceIte, if_true, if_false, Bool.false_eq_true, decide_true, decide_false, Bool.not_true, Bool.not_false, and_self, and_true, true_and, or_true, true_or, not_true_eq_false, not_false_eq_true, q_v14, q_v15, q_v16, q_v17, q_mEnum, q_kEnum, q_mZip, q_kZip, q_mRev, q_kRev, q_aStar, q_kSt, q_pNone, q_pSome, q_kPart, q_mSl, q_kSl2, q_kSl3, q_kCutT, q_kCutL, q_wkL, q_wkT, q_wkS, r_wipe0, r_wipe1, r_mTup, r_kTup, r_mLst, r_kLst, r_mLC, r_kLC, r_kOkL, r_sFor, r_kFor, r_mod, r_mul, r_fdv, r_addT, r_addL, r_kR1, r_kR2, r_kRgT, r_kRgL, r_kApp, r_oApp, r_kApp2, r_oApp2, r_kItR, r_oIt, r_oItems, r_itemsR, r_ixR, r_oIx, r_lenR, r_tupR, r_listR, r_kSet2, r_kCutR, r_walkR, r_at0, r_atk, r_set0, r_setk, To_ok, To2_ok, To2_ct, q_mRgT2, q_mRgL2, q_mRgT1, q_mRgL1, q_kRgA, q_kRgB, List.length_append, List.append_assoc, Nat.zero_add, at0, at1, at2, at3, setBox]
  generalize hL : forL _ _ _ _ _ _ = r
  obtain ⟨es', st', rfl, o9, o10, o11, more, rfl, rfl⟩ := forL_pre hL (fun pre es s => ∃ (o9 o10 o11 : Option D) (more : Store), es = [some (.scr ns), some (.ref 0), some (settD p n t), some (.int (n : Int)), some (.int (t : Int)), some (progD rs), some (itup ins), some (.int ((sizesOf n t pre).flatten.sum : Nat)), some (.ref 1), o9, o10, o11] ∧ s = Box ds m4 :: .lst (plcD (plcOf n t pre)) :: more)
    (by exact ⟨none, none, none, [], rfl, rfl⟩) (fun _ _ _ _ => trivial) (by
      rintro pre a post es s e ⟨o9, o10, o11, more, rfl, rfl⟩
      have hS := sizes_sum g.n9 (show t ≤ 9 by omega) pre
      have hc := shrN_le g.n9 a
      have hpl : pre.length < 60 := by rw [e] at hlen; simp at hlen; omega
      have hpp : (plcOf n t pre).length = pre.length := by unfold plcOf; rw [placedN_len]; simp [sizesOf]
      have dg := @dget_is
      refine ⟨_, rfl, ?_⟩
      simp (disch := (first | assumption | omega | (simp only [List.length_map, List.length_range, List.length_append, List.length_cons, List.length_nil, List.length_replicate, List.length_zipIdx, List.length_zip, rngD, sz]; omega))) only [B_law2, dg, shr_nat, q_runF, q_kFin, q_kFinN, q_mC, q_v0, q_v1, q_v2, q_v3, q_v4, q_v5, q_v6, q_v7, q_v8, q_v9, q_v10, q_v11, q_v12, q_v13, q_mOp, q_mTest, q_kB, q_kAnd, q_kOr, q_kNot, q_kNeg, q_kChT, q_kChF, q_mTru, q_tAnd, q_tOr, q_tNot, q_tYes, q_eAnd, q_eOr, q_eNot, q_mIf, q_aNil, q_aCons, q_mB, q_mCall, q_mNeg, q_mChain, q_sNil, q_sSeq, q_sExpr, q_sRet, q_sRetN, q_sBk, q_sCt, q_sIf, q_sAsg, q_kPutN, q_sBox, q_kBox, q_sApp, q_sSetI, q_sAug, q_kAug, q_kAug2, q_mRng1, q_mRng2, q_mIt, q_kItL, q_kItT, q_addI, q_addS, q_sub, q_lt, q_le, q_gt, q_ge, q_iadd, q_isub, q_isN, q_notN, q_isNon_non, q_isNon_int, q_isNon_tup, q_isNon_lst, q_eqI, q_eqS, q_neI, q_neS, q_ixT, q_ixL, q_ixS, q_int, q_intb, q_lenT, q_lenC, q_lenL, q_min, q_max, q_tupL, q_tupT, q_listL, q_listT, q_truB, q_truI, q_truT, q_truL, q_truN, q_bind, q_toS, q_nx, q_rt, q_bk, q_ct, q_ofO, q_noex, List.set_cons_zero, List.set_cons_succ, List.getElem?_cons_zero, List.getElem?_cons_succ, Option.map_some, Option.bind_some, List.length_cons, List.length_nil, List.map_cons, List.map_nil, Nat.reduceAdd, Nat.reduceSub, Nat.reduceLeDiff, Nat.reduceEqDiff, List.replicate_succ, List.replicate_zero, List.cons_append, List.nil_append, ↓reduceIte, if_true, if_false, Bool.false_eq_true, decide_true, decide_false, Bool.not_true, Bool.not_false, and_self, and_true, true_and, or_true, true_or, not_true_eq_false, not_false_eq_true, q_v14, q_v15, q_v16, q_v17, q_mEnum, q_kEnum, q_mZip, q_kZip, q_mRev, q_kRev, q_aStar, q_kSt, q_pNone, q_pSome, q_kPart, q_mSl, q_kSl2, q_kSl3, q_kCutT, q_kCutL, q_wkL, q_wkT, q_wkS, r_wipe0, r_wipe1, r_mTup, r_kTup, r_mLst, r_kLst, r_mLC, r_kLC, r_kOkL, r_sFor, r_kFor, r_mod, r_mul, r_fdv, r_addT, r_addL, r_kR1, r_kR2, r_kRgT, r_kRgL, r_kApp, r_oApp, r_kApp2, r_oApp2, r_kItR, r_oIt, r_oItems, r_itemsR, r_ixR, r_oIx, r_lenR, r_tupR, r_listR, r_kSet2, r_kCutR, r_walkR, r_at0, r_atk, r_set0, r_setk, To_ok, To2_ok, To2_ct, q_mRgT2, q_mRgL2, q_mRgT1, q_mRgL1, q_kRgA, q_kRgB, List.length_append, List.append_assoc, Nat.zero_add, at0, at1, at2, at3, setBox]
      have er : rngD 0 (shrN n a) = (List.range (shrN n a)).map fun (i : Nat) => D.int (0 + (i : Int)) := rfl
      rw [Int.toNat_natCast, er]
      generalize hL : forL _ _ _ _ _ _ = r
      obtain ⟨es', st', rfl, o11, rfl, rfl⟩ := forL_pre hL (fun q es s => ∃ (o11 : Option D), es = [some (.scr ns), some (.ref 0), some (settD p n t), some (.int (n : Int)), some (.int (t : Int)), some (progD rs), some (itup ins), some (.int ((sizesOf n t pre).flatten.sum + t * q.length : Nat)), some (.ref 1), some (a.d), some (.ref (more.length + 1 + 1)), o11] ∧ s = Box ds m4 :: .lst (plcD (plcOf n t pre)) :: (more ++ [.lst ((partsN (sizesOf n t pre).flatten.sum (List.replicate q.length t)).map natT)]))
        (by exact ⟨o11, rfl, rfl⟩) (fun _ _ _ _ => trivial) (by
          rintro q b pst es s e2 ⟨o11, rfl, rfl⟩
          have hq : q.length < 9 := by
            have := congrArg List.length e2
            simp at this
            omega
          have hq2 : t * q.length ≤ 9 * 9 := Nat.mul_le_mul (by omega) (by omega)
          have hp2 := partsN_len (List.replicate q.length t) (sizesOf n t pre).flatten.sum
          rw [List.length_replicate] at hp2
          refine ⟨_, rfl, ?_⟩
          obtain ⟨u, hu⟩ : ∃ u : Nat, (sizesOf n t pre).flatten.sum + t * q.length = u := ⟨_, rfl⟩
          have hub : u ≤ 6000 := by omega
          rw [hu]
          have e5 : (u : Int) + (t : Int) - (u : Int) = (t : Int) := by omega
          have e6 : (sizesOf n t pre).flatten.sum + t * (q.length + 1) = u + t := by
            rw [← hu, Nat.mul_add, Nat.mul_one, Nat.add_assoc]
          have e7 : (u : Int) + (t : Int) = ((u + t : Nat) : Int) := by omega
          have e8 : partsN (sizesOf n t pre).flatten.sum (t :: List.replicate q.length t) = partsN (sizesOf n t pre).flatten.sum (List.replicate q.length t) ++ [List.range' u t] := by
            rw [← List.replicate_succ, List.replicate_succ', partsN_snoc, ← hu]
            simp [Nat.mul_comm]
          simp (disch := (first | assumption | omega | (simp only [List.length_map, List.length_range, List.length_append, List.length_cons, List.length_nil, List.length_replicate, List.length_zipIdx, List.length_zip, rngD, sz]; omega))) only [B_law1, e6, e8, e5, Int.toNat_natCast, rngD_nat, List.map_append, q_runF, q_kFin, q_kFinN, q_mC, q_v0, q_v1, q_v2, q_v3, q_v4, q_v5, q_v6, q_v7, q_v8, q_v9, q_v10, q_v11, q_v12, q_v13, q_mOp, q_mTest, q_kB, q_kAnd, q_kOr, q_kNot, q_kNeg, q_kChT, q_kChF, q_mTru, q_tAnd, q_tOr, q_tNot, q_tYes, q_eAnd, q_eOr, q_eNot, q_mIf, q_aNil, q_aCons, q_mB, q_mCall, q_mNeg, q_mChain, q_sNil, q_sSeq, q_sExpr, q_sRet, q_sRetN, q_sBk, q_sCt, q_sIf, q_sAsg, q_kPutN, q_sBox, q_kBox, q_sApp, q_sSetI, q_sAug, q_kAug, q_kAug2, q_mRng1, q_mRng2, q_mIt, q_kItL, q_kItT, q_addI, q_addS, q_sub, q_lt, q_le, q_gt, q_ge, q_iadd, q_isub, q_isN, q_notN, q_isNon_non, q_isNon_int, q_isNon_tup, q_isNon_lst, q_eqI, q_eqS, q_neI, q_neS, q_ixT, q_ixL, q_ixS, q_int, q_intb, q_lenT, q_lenC, q_lenL, q_min, q_max, q_tupL, q_tupT, q_listL, q_listT, q_truB, q_truI, q_truT, q_truL, q_truN, q_bind, q_toS, q_nx, q_rt, q_bk, q_ct, q_ofO, q_noex, List.set_cons_zero, List.set_cons_succ, List.getElem?_cons_zero, List.getElem?_cons_succ, Option.map_some, Option.bind_some, List.length_cons, List.length_nil, List.map_cons, List.map_nil, Nat.reduceAdd, Nat.reduceSub, Nat.reduceLeDiff, Nat.reduceEqDiff, List.replicate_succ, List.replicate_zero, List.cons_append, List.nil_append, ↓reduceIte, if_true, if_false, Bool.false_eq_true, decide_true, decide_false, Bool.not_true, Bool.not_false, and_self, and_true, true_and, or_true, true_or, not_true_eq_false, not_false_eq_true, q_v14, q_v15, q_v16, q_v17, q_mEnum, q_kEnum, q_mZip, q_kZip, q_mRev, q_kRev, q_aStar, q_kSt, q_pNone, q_pSome, q_kPart, q_mSl, q_kSl2, q_kSl3, q_kCutT, q_kCutL, q_wkL, q_wkT, q_wkS, r_wipe0, r_wipe1, r_mTup, r_kTup, r_mLst, r_kLst, r_mLC, r_kLC, r_kOkL, r_sFor, r_kFor, r_mod, r_mul, r_fdv, r_addT, r_addL, r_kR1, r_kR2, r_kRgT, r_kRgL, r_kApp, r_oApp, r_kApp2, r_oApp2, r_kItR, r_oIt, r_oItems, r_itemsR, r_ixR, r_oIx, r_lenR, r_tupR, r_listR, r_kSet2, r_kCutR, r_walkR, r_at0, r_atk, r_set0, r_setk, To_ok, To2_ok, To2_ct, q_mRgT2, q_mRgL2, q_mRgT1, q_mRgL1, q_kRgA, q_kRgB, List.length_append, List.append_assoc, Nat.zero_add, at0, at1, at2, at3, setBox]
          exact ⟨_, by rw [e7]⟩)
      rw [List.length_range]
      have e9 : plcD (plcOf n t (pre ++ [a])) = plcD (plcOf n t pre) ++ [.tup ((partsN (sizesOf n t pre).flatten.sum (List.replicate (shrN n a) t)).map natT)] := by
        unfold plcOf
        have : sizesOf n t (pre ++ [a]) = sizesOf n t pre ++ [List.replicate (shrN n a) t] := by simp [sizesOf]
        rw [this, placedN_snoc, Nat.zero_add]
        simp
      have e10 : (sizesOf n t (pre ++ [a])).flatten.sum = (sizesOf n t pre).flatten.sum + t * shrN n a := by simp [sizesOf, Nat.mul_comm]
      simp (disch := (first | assumption | omega | (simp only [List.length_map, List.length_range, List.length_append, List.length_cons, List.length_nil, List.length_replicate, List.length_zipIdx, List.length_zip, rngD, sz]; omega))) only [e9, e10, q_runF, q_kFin, q_kFinN, q_mC, q_v0, q_v1, q_v2, q_v3, q_v4, q_v5, q_v6, q_v7, q_v8, q_v9, q_v10, q_v11, q_v12, q_v13, q_mOp, q_mTest, q_kB, q_kAnd, q_kOr, q_kNot, q_kNeg, q_kChT, q_kChF, q_mTru, q_tAnd, q_tOr, q_tNot, q_tYes, q_eAnd, q_eOr, q_eNot, q_mIf, q_aNil, q_aCons, q_mB, q_mCall, q_mNeg, q_mChain, q_sNil, q_sSeq, q_sExpr, q_sRet, q_sRetN, q_sBk, q_sCt, q_sIf, q_sAsg, q_kPutN, q_sBox, q_kBox, q_sApp, q_sSetI, q_sAug, q_kAug, q_kAug2, q_mRng1, q_mRng2, q_mIt, q_kItL, q_kItT, q_addI, q_addS, q_sub, q_lt, q_le, q_gt, q_ge, q_iadd, q_isub, q_isN, q_notN, q_isNon_non, q_isNon_int, q_isNon_tup, q_isNon_lst, q_eqI, q_eqS, q_neI, q_neS, q_ixT, q_ixL, q_ixS, q_int, q_intb, q_lenT, q_lenC, q_lenL, q_min, q_max, q_tupL, q_tupT, q_listL, q_listT, q_truB, q_truI, q_truT, q_truL, q_truN, q_bind, q_toS, q_nx, q_rt, q_bk, q_ct, q_ofO, q_noex, List.set_cons_zero, List.set_cons_succ, List.getElem?_cons_zero, List.getElem?_cons_succ, Option.map_some, Option.bind_some, List.length_cons, List.length_nil, List.map_cons, List.map_nil, Nat.reduceAdd, Nat.reduceSub, Nat.reduceLeDiff, Nat.reduceEqDiff, List.replicate_succ, List.replicate_zero, List.cons_append, List.nil_append, ↓reduceIte, if_true, if_false, Bool.false_eq_true, decide_true, decide_false, Bool.not_true, Bool.not_false, and_self, and_true, true_and, or_true, true_or, not_true_eq_false, not_false_eq_true, q_v14, q_v15, q_v16, q_v17, q_mEnum, q_kEnum, q_mZip, q_kZip, q_mRev, q_kRev, q_aStar, q_kSt, q_pNone, q_pSome, q_kPart, q_mSl, q_kSl2, q_kSl3, q_kCutT, q_kCutL, q_wkL, q_wkT, q_wkS, r_wipe0, r_wipe1, r_mTup, r_kTup, r_mLst, r_kLst, r_mLC, r_kLC, r_kOkL, r_sFor, r_kFor, r_mod, r_mul, r_fdv, r_addT, r_addL, r_kR1, r_kR2, r_kRgT, r_kRgL, r_kApp, r_oApp, r_kApp2, r_oApp2, r_kItR, r_oIt, r_oItems, r_itemsR, r_ixR, r_oIx, r_lenR, r_tupR, r_listR, r_kSet2, r_kCutR, r_walkR, r_at0, r_atk, r_set0, r_setk, To_ok, To2_ok, To2_ct, q_mRgT2, q_mRgL2, q_mRgT1, q_mRgL1, q_kRgA, q_kRgB, List.length_append, List.append_assoc, Nat.zero_add, at0, at1, at2, at3, setBox]
      exact ⟨_, _, _, _, rfl, rfl⟩)
  have eC := coins_of_is (st := Box ds m4 :: .lst (plcD (plcOf n t rs)) :: more) (p := p) (n := n) (t := t) (rs := rs) (by omega) (by omega) (by omega)
  have eQ := places_is (st := Box ds m4 :: .lst (plcD (plcOf n t rs)) :: more) (p := p) (n := n) (t := t) (rs := rs) (by omega) g.n9 (by omega)
  rw [coinsN_int, coinsN] at eC
  have s3 := Sm.same (sm_plc g.n9 (show t ≤ 4 by omega) (by omega)) (st := Box ds m4 :: .lst (plcD (plcOf n t rs)) :: more)
  simp (disch := (first | assumption | omega | (simp only [List.length_map, List.length_range, List.length_append, List.length_cons, List.length_nil, List.length_replicate, List.length_zipIdx, List.length_zip, rngD, sz]; omega))) only [eC, eQ, s3, q_runF, q_kFin, q_kFinN, q_mC, q_v0, q_v1, q_v2, q_v3, q_v4, q_v5, q_v6, q_v7, q_v8, q_v9, q_v10, q_v11, q_v12, q_v13, q_mOp, q_mTest, q_kB, q_kAnd, q_kOr, q_kNot, q_kNeg, q_kChT, q_kChF, q_mTru, q_tAnd, q_tOr, q_tNot, q_tYes, q_eAnd, q_eOr, q_eNot, q_mIf, q_aNil, q_aCons, q_mB, q_mCall, q_mNeg, q_mChain, q_sNil, q_sSeq, q_sExpr, q_sRet, q_sRetN, q_sBk, q_sCt, q_sIf, q_sAsg, q_kPutN, q_sBox, q_kBox, q_sApp, q_sSetI, q_sAug, q_kAug, q_kAug2, q_mRng1, q_mRng2, q_mIt, q_kItL, q_kItT, q_addI, q_addS, q_sub, q_lt, q_le, q_gt, q_ge, q_iadd, q_isub, q_isN, q_notN, q_isNon_non, q_isNon_int, q_isNon_tup, q_isNon_lst, q_eqI, q_eqS, q_neI, q_neS, q_ixT, q_ixL, q_ixS, q_int, q_intb, q_lenT, q_lenC, q_lenL, q_min, q_max, q_tupL, q_tupT, q_listL, q_listT, q_truB, q_truI, q_truT, q_truL, q_truN, q_bind, q_toS, q_nx, q_rt, q_bk, q_ct, q_ofO, q_noex, List.set_cons_zero, List.set_cons_succ, List.getElem?_cons_zero, List.getElem?_cons_succ, Option.map_some, Option.bind_some, List.length_cons, List.length_nil, List.map_cons, List.map_nil, Nat.reduceAdd, Nat.reduceSub, Nat.reduceLeDiff, Nat.reduceEqDiff, List.replicate_succ, List.replicate_zero, List.cons_append, List.nil_append, ↓reduceIte, if_true, if_false, Bool.false_eq_true, decide_true, decide_false, Bool.not_true, Bool.not_false, and_self, and_true, true_and, or_true, true_or, not_true_eq_false, not_false_eq_true, q_v14, q_v15, q_v16, q_v17, q_mEnum, q_kEnum, q_mZip, q_kZip, q_mRev, q_kRev, q_aStar, q_kSt, q_pNone, q_pSome, q_kPart, q_mSl, q_kSl2, q_kSl3, q_kCutT, q_kCutL, q_wkL, q_wkT, q_wkS, r_wipe0, r_wipe1, r_mTup, r_kTup, r_mLst, r_kLst, r_mLC, r_kLC, r_kOkL, r_sFor, r_kFor, r_mod, r_mul, r_fdv, r_addT, r_addL, r_kR1, r_kR2, r_kRgT, r_kRgL, r_kApp, r_oApp, r_kApp2, r_oApp2, r_kItR, r_oIt, r_oItems, r_itemsR, r_ixR, r_oIx, r_lenR, r_tupR, r_listR, r_kSet2, r_kCutR, r_walkR, r_at0, r_atk, r_set0, r_setk, To_ok, To2_ok, To2_ct, q_mRgT2, q_mRgL2, q_mRgT1, q_mRgL1, q_kRgA, q_kRgB, List.length_append, List.append_assoc, Nat.zero_add, at0, at1, at2, at3, setBox]
  exact leave_app (st := []) (more := Box ds m4 :: .lst (plcD (plcOf n t rs)) :: more) (by simp [D.lo])
end Zp
open PySem PySem.W PyProof.Rows
set_option maxRecDepth 100000 in
set_option maxHeartbeats 0 in
theorem PySem.Challenge.cw_untold_k09_values_are_told_holds : PySem.Challenge.rw_untold_k09_values_are_told.Holds := by
  w_on; o_law; k_head; (case hw => w_witness2)
  k_fill
  refine Zv.zwalk (l := PySem.Challenge.rw_untold_k09_values_are_told) 5 Zp.F_law rfl rfl (by decide) (fun w h Y => PySem.W.kIn_of Y) Zp.law_yes ?F
  case F =>
    intro w mg fa h KX G hmg
    refine' Zp.all_mk KX G hmg ?a0 ?l0 ?c0 ?k0 ?a1 ?l1 ?c1 ?k1 ?a2 ?l2 ?c2 ?k2 ?a3 ?l3 ?c3 ?k3 ?a4 ?l4 ?c4 ?k4 ?a5 ?l5 ?c5 ?k5 ?a6 ?l6 ?c6 ?k6 ?a7 ?l7 ?c7 ?k7 ?a8 ?l8 ?c8 ?k8 ?a9 ?l9 ?c9 ?k9 ?a10 ?l10 ?c10 ?k10 ?a11 ?l11 ?c11 ?k11 ?a12 ?l12 ?c12 ?k12 ?a13 ?l13 ?c13 ?k13 ?a14 ?l14 ?c14 ?k14 ?a15 ?l15 ?c15 ?k15 ?a16 ?l16 ?c16 ?k16 ?a17 ?l17 ?c17 ?k17 ?a18 ?l18 ?c18 ?k18 ?a19 ?l19 ?c19 ?k19 ?a20 ?l20 ?c20 ?k20 ?a21 ?l21 ?c21 ?k21 ?z_len ?z_int ?z_min ?z_tuple ?z_range ?z_repr ?z_enumerate ?z_sum 
    (case a0 => k_is); (case l0 => k_is); (case c0 => k_is); (case k0 => k_is)
    (case a1 => k_is); (case l1 => k_is); (case c1 => k_is); (case k1 => k_is)
    (case a2 => k_is); (case l2 => k_is); (case c2 => k_is); (case k2 => k_is)
    (case a3 => k_is); (case l3 => k_is); (case c3 => k_is); (case k3 => k_is)
    (case a4 => k_is); (case l4 => k_is); (case c4 => k_is); (case k4 => k_is)
    (case a5 => k_is); (case l5 => k_is); (case c5 => k_is); (case k5 => k_is)
    (case a6 => k_is); (case l6 => k_is); (case c6 => k_is); (case k6 => k_is)
    (case a7 => k_is); (case l7 => k_is); (case c7 => k_is); (case k7 => k_is)
    (case a8 => k_is); (case l8 => k_is); (case c8 => k_is); (case k8 => k_is)
    (case a9 => k_is); (case l9 => k_is); (case c9 => k_is); (case k9 => k_is)
    (case a10 => k_is); (case l10 => k_is); (case c10 => k_is); (case k10 => k_is)
    (case a11 => k_is); (case l11 => k_is); (case c11 => k_is); (case k11 => k_is)
    (case a12 => k_is); (case l12 => k_is); (case c12 => k_is); (case k12 => k_is)
    (case a13 => k_is); (case l13 => k_is); (case c13 => k_is); (case k13 => k_is)
    (case a14 => k_is); (case l14 => k_is); (case c14 => k_is); (case k14 => k_is)
    (case a15 => k_is); (case l15 => k_is); (case c15 => k_is); (case k15 => k_is)
    (case a16 => k_is); (case l16 => k_is); (case c16 => k_is); (case k16 => k_is)
    (case a17 => k_is); (case l17 => k_is); (case c17 => k_is); (case k17 => k_is)
    (case a18 => k_is); (case l18 => k_is); (case c18 => k_is); (case k18 => k_is)
    (case a19 => k_is); (case l19 => k_is); (case c19 => k_is); (case k19 => k_is)
    (case a20 => k_is); (case l20 => k_is); (case c20 => k_is); (case k20 => k_is)
    (case a21 => k_is); (case l21 => k_is); (case c21 => k_is); (case k21 => k_is)
    (case z_len => k_is)
    (case z_int => k_is)
    (case z_min => k_is)
    (case z_tuple => k_is)
    (case z_range => k_is)
    (case z_repr => k_is)
    (case z_enumerate => k_is)
    (case z_sum => k_is)
