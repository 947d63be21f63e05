import PyProof.Rows.All
import Wide.All
import OpenK.AllK
import Wide.FinOn
import PyProof.EqAt
import PyProof.EqKinds
import PyProof.TupleCall
import Lean
import PySem.Challenge.RW_fitboard_k04_fitting_picks
set_option Elab.async false
set_option linter.all false
set_option maxRecDepth 100000
namespace L2
open PySem PySem.Spec PyProof.Rows

/-- a key: an int or a str -/
abbrev Key := Sum Int Str
def keyIs : Key → Value → Bool
  | .inl k, v => Value.isInt k v
  | .inr x, v => Value.isStrOf x v
def keyH (w : World) : Key → Int
  | .inl k => hashInt k
  | .inr x => hashStr w x
theorem keyIs_shape : ∀ {k : Key} {v : Value}, keyIs k v = true → (∃ i t, k = Sum.inl i ∧ v = Value.int i t) ∨ (∃ x t, k = Sum.inr x ∧ v = Value.str x t)
  | .inl i, v, h => by
    obtain ⟨t, e⟩ := Value.isInt_shape (k := i) (v := v) h
    exact .inl ⟨i, t, rfl, e⟩
  | .inr x, v, h => by
    obtain ⟨t, e⟩ := Value.isStrOf_shape (x := x) (v := v) h
    exact .inr ⟨x, t, rfl, e⟩
theorem keyIs_int (i : Int) (t : Tok) : keyIs (.inl i) (.int i t) = true := by simp [keyIs, Value.isInt]
theorem keyIs_str (x : Str) (t : Tok) : keyIs (.inr x) (.str x t) = true := by simp [keyIs, Value.isStrOf]
theorem key_ll (a b : Int) : decide ((Sum.inl a : Key) = Sum.inl b) = (a == b) := by
  by_cases e : a = b
  · subst e; simp
  · have h : ¬ (Sum.inl a : Key) = Sum.inl b := fun q => e (Sum.inl.inj q)
    rw [decide_eq_false h]
    exact (beq_eq_false_iff_ne.mpr e).symm
theorem key_rr (a b : Str) : decide ((Sum.inr a : Key) = Sum.inr b) = decide (a = b) := by
  by_cases e : a = b
  · subst e; simp
  · have h : ¬ (Sum.inr a : Key) = Sum.inr b := fun q => e (Sum.inr.inj q)
    rw [decide_eq_false h, decide_eq_false e]
theorem key_lr (a : Int) (b : Str) : decide ((Sum.inl a : Key) = Sum.inr b) = false := decide_eq_false (fun q => nomatch q)
theorem key_rl (a : Str) (b : Int) : decide ((Sum.inr a : Key) = Sum.inl b) = false := decide_eq_false (fun q => nomatch q)

def mixKind (prog : Program) (w : World) : PySem.KeyKind prog w Key where
  is := keyIs
  hash := keyH w
  inj := fun v a b ha hb => by
    rcases keyIs_shape ha with ⟨i, t, rfl, rfl⟩ | ⟨x, t, rfl, rfl⟩
    · rcases keyIs_shape hb with ⟨j, u, rfl, e⟩ | ⟨y, u, rfl, e⟩
      · injection e with e1 _; rw [e1]
      · exact nomatch e
    · rcases keyIs_shape hb with ⟨j, u, rfl, e⟩ | ⟨y, u, rfl, e⟩
      · exact nomatch e
      · injection e with e1 _; rw [e1]
  byValue := fun k v h => by
    rcases keyIs_shape h with ⟨i, t, rfl, rfl⟩ | ⟨x, t, rfl, rfl⟩ <;> rfl
  pyHash := fun hv h => by
    rcases keyIs_shape hv with ⟨i, t, rfl, rfl⟩ | ⟨x, t, rfl, rfl⟩
    · exact wpAny_pyHash_int h
    · exact wpAny_pyHash_str h
  eqBool := fun hu hv h => by
    rcases keyIs_shape hu with ⟨i, t, rfl, rfl⟩ | ⟨x, t, rfl, rfl⟩
    · rcases keyIs_shape hv with ⟨j, u, rfl, rfl⟩ | ⟨y, u, rfl, rfl⟩
      · rw [key_ll] at h; exact wpAny_eqBool_int h
      · rw [key_lr] at h; exact SeqAt.EqAt.int_str i t y u _ _ _ _ h
    · rcases keyIs_shape hv with ⟨j, u, rfl, rfl⟩ | ⟨y, u, rfl, rfl⟩
      · rw [key_rl] at h; exact SeqAt.EqAt.str_int x t j u _ _ _ _ h
      · rw [key_rr] at h; exact wpAny_eqBool_str h
  «strs» := fun k x t v h => by
    rcases keyIs_shape h with ⟨i, u, rfl, e⟩ | ⟨y, u, rfl, e⟩
    · exact nomatch e
    · injection e with e1 _
      subst e1
      cases v <;> rfl

theorem mixKind_is (prog : Program) (w : World) (k : Key) (v : Value) : (mixKind prog w).is k v = keyIs k v := rfl
theorem mixKind_int (prog : Program) (w : World) (i : Int) (t : Tok) : (mixKind prog w).is (.inl i) (.int i t) = true := keyIs_int i t
theorem mixKind_str (prog : Program) (w : World) (x : Str) (t : Tok) : (mixKind prog w).is (.inr x) (.str x t) = true := keyIs_str x t
end L2

namespace L2
open PySem PySem.Spec PyProof.Rows

/-- a value, without the heap -/
inductive V where
  | non | bl (b : Bool) | int (i : Int) | str (x : Str) | byt (b : Array UInt8) | flt (b : UInt64) | ref (a : Addr) | ty (n : String)
  deriving DecidableEq

def RelV : V → Value → Prop
  | .non, u => u = Value.none
  | .bl b, u => u = Value.bool b
  | .int i, u => ∃ t, u = Value.int i t
  | .str x, u => ∃ t, u = Value.str x t
  | .byt b, u => ∃ t, u = Value.bytes b t
  | .flt b, u => ∃ t, u = Value.float b t
  | .ref a, u => u = Value.ref a
  | .ty n, u => u = Value.type n

abbrev Vals : List V → List Value → Prop := Paired RelV
theorem Vals.length {xs : List V} {us : List Value} (r : Vals xs us) : xs.length = us.length := Paired.length r
theorem Vals.get : ∀ {xs : List V} {us : List Value} {i : Nat} {x : V}, Vals xs us → xs[i]? = some x → ∃ u, us[i]? = some u ∧ RelV x u
  | _, _, _, _, .nil, e => by simp at e
  | _, _, 0, _, .cons r _, e => by simp at e; subst e; exact ⟨_, rfl, r⟩
  | _, _, i + 1, x, .cons _ t, e => by
    obtain ⟨u, h1, h2⟩ := Vals.get (i := i) (x := x) t (by simpa using e)
    exact ⟨u, by simpa using h1, h2⟩
theorem Vals.set {x : V} {u : Value} (r : RelV x u) : ∀ {xs : List V} {us : List Value} (i : Nat), Vals xs us → Vals (xs.set i x) (us.set i u)
  | _, _, _, .nil => .nil
  | _, _, 0, .cons _ t => .cons r t
  | _, _, i + 1, .cons q t => .cons q (Vals.set r i t)
theorem Vals.append : ∀ {xs ys : List V} {us ws : List Value}, Vals xs us → Vals ys ws → Vals (xs ++ ys) (us ++ ws)
  | _, _, _, _, .nil, s => s
  | _, _, _, _, .cons r t, s => .cons r (Vals.append t s)
theorem Vals.take : ∀ {xs : List V} {us : List Value} (n : Nat), Vals xs us → Vals (xs.take n) (us.take n)
  | _, _, 0, _ => .nil
  | _, _, _ + 1, .nil => .nil
  | _, _, n + 1, .cons r t => .cons r (Vals.take n t)
theorem Vals.drop : ∀ {xs : List V} {us : List Value} (n : Nat), Vals xs us → Vals (xs.drop n) (us.drop n)
  | _, _, 0, r => r
  | _, _, _ + 1, .nil => .nil
  | _, _, n + 1, .cons _ t => Vals.drop n t
theorem Vals.none_of : ∀ {xs : List V} {us : List Value} {i : Nat}, Vals xs us → xs[i]? = none → us[i]? = none := fun {xs us i} r e => by
  have h1 := r.length
  have h2 : xs.length ≤ i := List.getElem?_eq_none_iff.mp e
  exact List.getElem?_eq_none_iff.mpr (by omega)

def RelO : Option V → Option Value → Prop
  | some v, some u => RelV v u
  | none, none => True
  | _, _ => False
def KV {κ : Type} : List (κ × V) → List (κ × Value) → Prop := Paired fun (p : κ × V) (q : κ × Value) => p.1 = q.1 ∧ RelV p.2 q.2

/-- a key of a dict (00_mix): an int or a text -/
def kV : Key → V
  | .inl i => .int i
  | .inr x => .str x

/-- what stands at a tracked address -/
inductive HO where
  /-- a list -/
  | lst (xs : List V)
  /-- a tuple (never changes) -/
  | tup (xs : List V)
  /-- a dict whose keys are ints and texts; one whose keys are tuples of ints and texts (the empty one is both) -/
  | dK (kvs : List (Key × V)) | dT (kvs : List (List Key × V)) | dN (kvs : List (Option (List Key) × V))
  /-- a set of ints: its members, its size -/
  | set (S : Int → Bool) (n : Nat)
  /-- an instance of the class at C, its dict at dx, its attributes -/
  | ins (C dx : Addr) (fs : List (Str × V))
  /-- the dict of the instance at x -/
  | own (x : Addr)
  /-- the dict of an exception -/
  | xd (fs : List (Str × V))
  /-- a bound method, f of x -/
  | met (f x : Addr)
  /-- a range object lo, lo + 1, .. below hi -/
  | rng (lo hi : Int)
  /-- a thing that is known to the object (the script; a dict while a loop walks it): read, never written while it is so -/
  | frz (o : Obj) (u : HO)
  /-- a code object's table -/
  | tbl (ps : Array Value)
  /-- any other thing, by what is true of its one object (a def of one's own: SetO a S n := HO.ext fun h => ..) -/
  | ext (φ : Heap → Prop)

abbrev Hp := Addr → Option HO
/-- None or a tuple of ints and texts, as a key of a dict -/
abbrev NKey := Option (List Key)
def KeyN (H : Hp) : NKey → Value → Prop
  | none, u => u = .none
  | some ks, u => ∃ b, u = .ref b ∧ H b = some (.tup (ks.map kV))
def hashN (P : Program) (w : World) : NKey → Int
  | none => PySem.W.hashW w.params .none
  | some ks => (tupleKind (mixKind P w)).hash ks
def entN (P : Program) (w : World) (x : NKey × Value × Value) : DictEntry := ⟨hashN P w x.1, x.2.1, x.2.2⟩
abbrev KNv (H : Hp) : List (NKey × V) → List (NKey × Value × Value) → Prop := Paired fun p q => p.1 = q.1 ∧ KeyN H p.1 q.2.1 ∧ RelV p.2 q.2.2
def upd (H : Hp) (a : Addr) (o : HO) : Hp := fun b => if b = a then some o else H b
theorem upd_same {H : Hp} {a : Addr} {o : HO} : upd H a o a = some o := by unfold upd; rw [if_pos rfl]
theorem upd_ne {H : Hp} {a b : Addr} {o : HO} (h : b ≠ a) : upd H a o b = H b := by unfold upd; rw [if_neg h]
theorem upd_upd {H : Hp} {a : Addr} {o u : HO} : upd (upd H a o) a u = upd H a u := by
  funext b; unfold upd; split <;> rfl
/-- two objects of different content stand apart -/
theorem ne_of {H : Hp} {a b : Addr} {o u : HO} (h : H a = some o) (h' : H b = some u) (d : o ≠ u) : a ≠ b := by
  intro e; subst e; rw [h] at h'; exact d (Option.some.inj h')
theorem ne_of_none {H : Hp} {a b : Addr} {o : HO} (h : H a = some o) (h' : H b = none) : a ≠ b := by
  intro e; subst e; rw [h] at h'; cases h'

section
variable (P : Program) (w : World)
def ObjOk (H : Hp) (h : Heap) (a : Addr) : HO → Prop
  | .lst xs => xs.length ≤ sizeLine ∧ ∃ (its : List Value) (n : Nat), Vals xs its ∧ h.get? a = some { cls := .type "list", data := .seq its.toArray n }
  | .tup xs => xs.length ≤ sizeLine ∧ ∃ its : List Value, Vals xs its ∧ IsTup h a its.toArray
  | .dK kvs => kvs.length ≤ sizeLine ∧ (a == sysModules) = false ∧ ∃ vs, KV kvs vs ∧ h.DictOf (mixKind P w) a vs
  | .dT kvs => kvs.length ≤ sizeLine ∧ (a == sysModules) = false ∧ ∃ xs : List (List Key × Addr × Value),
      Paired (fun (p : List Key × V) (q : List Key × Addr × Value) => p.1 = q.1 ∧ H q.2.1 = some (.tup (p.1.map kV)) ∧ RelV p.2 q.2.2) kvs xs ∧
      ∃ o es ep, h.get? a = some o ∧ o.ExactDict ∧ o.data = .dict es ep ∧ es.toList = xs.map (entryOfKey (tupleKind (mixKind P w))) ∧ (xs.map (·.1)).Nodup
  | .dN kvs => kvs.length ≤ sizeLine ∧ (a == sysModules) = false ∧ ∃ xs, KNv H kvs xs ∧ ∃ o es ep, h.get? a = some o ∧ o.ExactDict ∧ o.data = .dict es ep ∧ es.toList = xs.map (entN P w) ∧ (xs.map (·.1)).Nodup
  | .set S n => h.SetOf (intKind P w) a S n
  | .ins C dx fs => H dx = some (.own a) ∧ fs.length ≤ 1000 ∧ dx ≠ a ∧ h.get? a = some (PySem.W.instObj C dx) ∧
      ∃ mA, h.Ns1 dx mA ∧ (∀ f, RelO (fs.lookup f) (mA f)) ∧ PySem.Within mA (fs.map (·.1))
  | .own _ => ∃ o, h.get? a = some o
  | .xd fs => ∃ mA, h.Ns1 a mA ∧ ∀ f, RelO (fs.lookup f) (mA f)
  | .rng lo hi => ∃ t u v, h.get? a = some { cls := .type "range", data := .fields #[.int lo t, .int hi u, .int 1 v] }
  | .frz o u => h.get? a = some o ∧ ObjOk H h a u
  | .tbl ps => h.get? a = some { cls := .none, data := .fields ps }
  | .met f x => h.get? a = some (PySem.W.methodObj (.ref f) (.ref x))
  | .ext φ => φ h ∧ (∃ o, h.get? a = some o) ∧ ∀ h1 h2 : Heap, φ h1 → (∀ o, h1.get? a = some o → h2.get? a = some o) → φ h2
/-- the abstract heap is held -/
def HOk (H : Hp) (h : Heap) : Prop := ∀ a o, H a = some o → ObjOk P w H h a o
end

section
variable {P : Program} {w : World} {H H' : Hp} {h h' : Heap} {a : Addr} {o : HO}
theorem ObjOk.lt (x : ObjOk P w H h a o) : a < h.objs.size := by
  cases o with
  | lst xs => obtain ⟨_, _, _, _, e⟩ := x; exact Heap.lt_size e
  | tup xs => obtain ⟨_, _, _, p⟩ := x; exact p.lt
  | dK kvs => obtain ⟨_, _, _, _, o, _, _, e, _⟩ := x; exact Heap.lt_size e
  | dT kvs => obtain ⟨_, _, _, _, o, _, _, e, _⟩ := x; exact Heap.lt_size e
  | dN kvs => obtain ⟨_, _, _, _, o, _, _, e, _⟩ := x; exact Heap.lt_size e
  | set S n => obtain ⟨o, _, _, _, e, _⟩ := x; exact Heap.lt_size e
  | ins C dx fs => obtain ⟨_, _, _, e, _⟩ := x; exact Heap.lt_size e
  | own y => obtain ⟨_, e⟩ := x; exact Heap.lt_size e
  | xd fs => obtain ⟨_, ⟨_, _, _, e, _⟩, _⟩ := x; exact Heap.lt_size e
  | rng lo hi => obtain ⟨_, _, _, e⟩ := x; exact Heap.lt_size e
  | frz ob u => obtain ⟨e, _⟩ := x; exact Heap.lt_size e
  | tbl ps => exact Heap.lt_size (show h.get? a = some _ from x)
  | met f y => exact Heap.lt_size (show h.get? a = some _ from x)
  | ext φ => obtain ⟨_, ⟨_, e⟩, _⟩ := x; exact Heap.lt_size e
theorem Paired.mapP {α β : Type} {F G : α → β → Prop} : ∀ {l₁ : List α} {l₂ : List β}, Paired F l₁ l₂ → (∀ a b, F a b → G a b) → Paired G l₁ l₂
  | _, _, .nil, _ => .nil
  | _, _, .cons r t, f => .cons (f _ _ r) (Paired.mapP t f)
theorem Paired.imp' {α β : Type} {F G : α → β → Prop} (f : ∀ a b, F a b → G a b) {l₁ : List α} {l₂ : List β} (r : Paired F l₁ l₂) : Paired G l₁ l₂ := Paired.mapP r f
/-- what an object's description leans on: its own object, its own dict, the tuples -/
theorem ObjOk.stay (x : ObjOk P w H h a o) (k : ∀ b u, (b = a ∨ H b = some (.own a)) → h.get? b = some u → h'.get? b = some u)
    (ho : ∀ b, H b = some (.own a) → H' b = some (.own a)) (ht : ∀ b xs, H b = some (.tup xs) → H' b = some (.tup xs)) : ObjOk P w H' h' a o := by
  induction o with
  | lst xs => obtain ⟨z, its, n, r, e⟩ := x; exact ⟨z, its, n, r, k _ _ (.inl rfl) e⟩
  | tup xs => obtain ⟨z, its, r, ob, e, c⟩ := x; exact ⟨z, its, r, ob, k _ _ (.inl rfl) e, c⟩
  | dK kvs => obtain ⟨z, y, vs, r, ob, es, ep, e, c⟩ := x; exact ⟨z, y, vs, r, ob, es, ep, k _ _ (.inl rfl) e, c⟩
  | dT kvs =>
    obtain ⟨z, y, xs, r, ob, es, ep, e, c⟩ := x
    exact ⟨z, y, xs, Paired.mapP r fun p q z => ⟨z.1, ht _ _ z.2.1, z.2.2⟩, ob, es, ep, k _ _ (.inl rfl) e, c⟩
  | dN kvs =>
    obtain ⟨z, y, xs, r, ob, es, ep, e, c⟩ := x
    refine ⟨z, y, xs, Paired.mapP r fun p q z => ⟨z.1, ?_, z.2.2⟩, ob, es, ep, k _ _ (.inl rfl) e, c⟩
    obtain ⟨p1, p2⟩ := p
    cases p1 with
    | none => exact z.2.1
    | some ks => obtain ⟨b, hb, hq⟩ := z.2.1; exact ⟨b, hb, ht _ _ hq⟩
  | set S n => obtain ⟨ob, es, ep, t, e, c⟩ := x; exact ⟨ob, es, ep, t, k _ _ (.inl rfl) e, c⟩
  | ins C dx fs =>
    obtain ⟨d, z, ne, e, mA, ⟨od, es, ep, e2, c⟩, r⟩ := x
    exact ⟨ho _ d, z, ne, k _ _ (.inl rfl) e, mA, ⟨od, es, ep, k _ _ (.inr d) e2, c⟩, r⟩
  | own y => obtain ⟨ob, e⟩ := x; exact ⟨ob, k _ _ (.inl rfl) e⟩
  | xd fs => obtain ⟨mA, ⟨od, es, ep, e, c⟩, r⟩ := x; exact ⟨mA, ⟨od, es, ep, k _ _ (.inl rfl) e, c⟩, r⟩
  | rng lo hi => obtain ⟨t, u, v, e⟩ := x; exact ⟨t, u, v, k _ _ (.inl rfl) e⟩
  | frz ob u ih => obtain ⟨e, q⟩ := x; exact ⟨k _ _ (.inl rfl) e, ih q⟩
  | tbl ps =>
    have e : h.get? a = some { cls := .none, data := .fields ps } := x
    show h'.get? a = some { cls := .none, data := .fields ps }
    exact k a _ (.inl rfl) e
  | met f y =>
    have e : h.get? a = some (PySem.W.methodObj (.ref f) (.ref y)) := x
    show h'.get? a = some (PySem.W.methodObj (.ref f) (.ref y))
    exact k a _ (.inl rfl) e
  | ext φ => obtain ⟨p, ⟨o, e⟩, st⟩ := x; exact ⟨st _ _ p fun o q => k _ _ (.inl rfl) q, ⟨o, k _ _ (.inl rfl) e⟩, st⟩
theorem HOk.lt (x : HOk P w H h) (e : H a = some o) : a < h.objs.size := (x a o e).lt
theorem HOk.fresh (x : HOk P w H h) (e : h.objs.size ≤ a) : H a = none := by
  cases q : H a with
  | none => rfl
  | some u => exact absurd (Nat.lt_of_lt_of_le (x.lt q) e) (Nat.lt_irrefl _)
/-- every object of the heap is kept -/
theorem HOk.kept (x : HOk P w H h) (k : ∀ b u, h.get? b = some u → h'.get? b = some u) : HOk P w H h' := fun a o e =>
  (x a o e).stay (fun b u _ q => k b u q) (fun _ q => q) fun _ _ q => q
/-- a new object is laid and tracked -/
theorem HOk.laid (x : HOk P w H h) (k : ∀ b u, h.get? b = some u → h'.get? b = some u) (hp : h.objs.size ≤ a) (new : ObjOk P w (upd H a o) h' a o) : HOk P w (upd H a o) h' := fun b u e => by
  have hn := x.fresh hp
  by_cases hb : b = a
  · subst hb; rw [upd_same] at e; cases e; exact new
  · rw [upd_ne hb] at e
    exact (x b u e).stay (fun c v _ q => k c v q) (fun c q => by rw [upd_ne (ne_of_none q hn)]; exact q) fun c xs q => by rw [upd_ne (ne_of_none q hn)]; exact q
end

/-- what may be read as u: it is u, or a known u -/
def Rd (H : Hp) (a : Addr) (u : HO) : Prop := H a = some u ∨ ∃ o, H a = some (.frz o u)
theorem Rd.of {H : Hp} {a : Addr} {u : HO} (h : H a = some u) : Rd H a u := .inl h
theorem Rd.ok {P : Program} {w : World} {H : Hp} {h : Heap} {a : Addr} {u : HO} (r : Rd H a u) (x : HOk P w H h) : ObjOk P w H h a u := by
  rcases r with r | ⟨o, r⟩
  · exact x a u r
  · obtain ⟨_, q⟩ := x a _ r
    exact q
/-- what may be written -/
def Mut : Option HO → Prop
  | some (.lst _) => True
  | some (.dK _) => True
  | some (.dT _) => True
  | some (.dN _) => True
  | some (.set _ _) => True
  | some (.ins _ _ _) => True
  | some (.ext _) => True
  | _ => False
section
variable {P : Program} {w : World} {H : Hp} {h h' : Heap} {x e : Addr} {o' : HO}
/-- the object at e is changed: x itself, or the dict of the instance x -/
theorem HOk.write (ok : HOk P w H h) (mu : Mut (H x)) (he : e = x ∨ H e = some (.own x)) (k : ∀ b u, b ≠ e → h.get? b = some u → h'.get? b = some u) (heo : ∃ u, h'.get? e = some u)
    (new : ObjOk P w (upd H x o') h' x o') : HOk P w (upd H x o') h' := fun b u q => by
  have nown : ∀ c y, H c = some (.own y) → c ≠ x := fun c y r z => by subst z; rw [r] at mu; exact mu
  have ntup : ∀ c xs, H c = some (.tup xs) → c ≠ x := fun c xs r z => by subst z; rw [r] at mu; exact mu
  by_cases hb : b = x
  · subst hb; rw [upd_same] at q; cases q; exact new
  · rw [upd_ne hb] at q
    by_cases hbe : b = e
    · have q' : H b = some (.own x) := by
        rcases he with z | z
        · exact absurd (hbe.trans z) hb
        · rw [hbe]; exact z
      rw [q] at q'; cases q'
      obtain ⟨v, hv⟩ := heo
      exact ⟨v, by rw [hbe]; exact hv⟩
    · refine (ok b u q).stay (fun c v hc r => k c v ?_ r) (fun c r => by rw [upd_ne (nown c b r)]; exact r) fun c xs r => by rw [upd_ne (ntup c xs r)]; exact r
      rcases hc with rfl | hc
      · exact hbe
      · rintro rfl
        rcases he with z | z
        · exact nown c b hc z
        · rw [hc] at z; cases z; exact hb rfl
end

/-! ### kept unless tracked; of the frames at fs (the callers') the slots may change (an exception that passes writes there); of the records at ex (iterators) nothing is said -/
structure Un (fs ex : List Addr) (H H' : Hp) (h h' : Heap) : Prop where
  keep : ∀ b o, h.get? b = some o → H b = none → b ∉ fs → b ∉ ex → h'.get? b = some o
  slot : ∀ b o, h.get? b = some o → H b = none → b ∈ fs → b ∉ ex → ∃ sl, h'.get? b = some { o with slots := sl }
  free : ∀ b o, h.get? b = some o → H b = none → b ∉ ex → H' b = none
  there : ∀ b o, h.get? b = some o → b ∉ ex → ∃ o', h'.get? b = some o'
  tups : ∀ b xs, H b = some (.tup xs) → H' b = some (.tup xs)
  frzs : ∀ b o u, H b = some (.frz o u) → H' b = some (.frz o u)
  tbls : ∀ b ps, H b = some (.tbl ps) → ∃ more, H' b = some (.tbl (ps ++ more))
section
variable {fs fs' ex ex' : List Addr} {H H1 H2 : Hp} {h h1 h2 h' : Heap} {a x e : Addr} {o : HO}
theorem Un.any (u : Un fs ex H H1 h h1) {b : Addr} {ob : Obj} (q : h.get? b = some ob) (n : H b = none) (hx : b ∉ ex) : ∃ sl, h1.get? b = some { ob with slots := sl } := by
  by_cases hb : b ∈ fs
  · exact u.slot b ob q n hb hx
  · exact ⟨ob.slots, u.keep b ob q n hb hx⟩
theorem Un.trans (a : Un fs ex H H1 h h1) (b : Un fs ex H1 H2 h1 h2) : Un fs ex H H2 h h2 where
  keep := fun c ob q n hc hx => b.keep c ob (a.keep c ob q n hc hx) (a.free c ob q n hx) hc hx
  slot := fun c ob q n hc hx => by
    obtain ⟨sl, e1⟩ := a.slot c ob q n hc hx
    obtain ⟨sl', e2⟩ := b.slot c _ e1 (a.free c ob q n hx) hc hx
    exact ⟨sl', e2⟩
  free := fun c ob q n hx => by
    obtain ⟨o', e1⟩ := a.there c ob q hx
    exact b.free c o' e1 (a.free c ob q n hx) hx
  there := fun c ob q hx => by
    obtain ⟨o', e1⟩ := a.there c ob q hx
    exact b.there c o' e1 hx
  tups := fun c xs q => b.tups c xs (a.tups c xs q)
  frzs := fun c ob xs q => b.frzs c ob xs (a.frzs c ob xs q)
  tbls := fun c ps q => by
    obtain ⟨m1, e1⟩ := a.tbls c ps q
    obtain ⟨m2, e2⟩ := b.tbls c _ e1
    exact ⟨m1 ++ m2, by rw [e2, Array.append_assoc]⟩
theorem Un.kept (k : ∀ b u, h.get? b = some u → h'.get? b = some u) : Un fs ex H H h h' :=
  ⟨fun b ob q _ _ _ => k b ob q, fun b ob q _ _ _ => ⟨ob.slots, k b ob q⟩, fun _ _ _ n _ => n, fun b ob q _ => ⟨ob, k b ob q⟩, fun _ _ q => q, fun _ _ _ q => q, fun _ ps q => ⟨#[], by rw [q]; simp⟩⟩
theorem Un.refl : Un fs ex H H h h := Un.kept fun _ _ q => q
theorem Un.laid (k : ∀ b u, h.get? b = some u → h'.get? b = some u) (hp : h.objs.size ≤ a) (hn : H a = none) : Un fs ex H (upd H a o) h h' where
  keep := fun b u q _ _ _ => k b u q
  slot := fun b u q _ _ _ => ⟨u.slots, k b u q⟩
  free := fun b u q n _ => by rw [upd_ne (Nat.ne_of_lt (Nat.lt_of_lt_of_le (Heap.lt_size q) hp))]; exact n
  there := fun b u q _ => ⟨u, k b u q⟩
  tups := fun b xs q => by rw [upd_ne (ne_of_none q hn)]; exact q
  frzs := fun b u xs q => by rw [upd_ne (ne_of_none q hn)]; exact q
  tbls := fun b ps q => ⟨#[], by rw [upd_ne (ne_of_none q hn), q]; simp⟩
theorem Un.write (mu : Mut (H x)) (he : e = x ∨ H e = some (.own x)) (k : ∀ b u, b ≠ e → h.get? b = some u → h'.get? b = some u) (heo : ∃ u, h'.get? e = some u) : Un fs ex H (upd H x o) h h' := by
  have hx : ∀ b, H b = none → b ≠ x := fun b n z => by subst z; rw [n] at mu; exact mu
  have hb : ∀ b, H b = none → b ≠ e := fun b n z => by
    subst z
    rcases he with r | r
    · exact hx b n r
    · rw [n] at r; cases r
  have hm : ∀ b u, H b = some u → ¬ Mut (some u) → b ≠ x := fun b u q nm z => by subst z; rw [q] at mu; exact nm mu
  refine ⟨fun b u q n _ _ => k b u (hb b n) q, fun b u q n _ _ => ⟨u.slots, k b u (hb b n) q⟩, fun b u q n _ => by rw [upd_ne (hx b n)]; exact n, fun b u q _ => ?_,
    fun b xs q => by rw [upd_ne (hm b _ q fun z => z)]; exact q, fun b u xs q => by rw [upd_ne (hm b _ q fun z => z)]; exact q, fun b ps q => ⟨#[], by rw [upd_ne (hm b _ q fun z => z), q]; simp⟩⟩
  by_cases hbe : b = e
  · subst hbe; exact heo
  · exact ⟨u, k b u hbe q⟩
theorem Un.mono (u : Un fs ex H H1 h h1) (hs : ∀ b ∈ fs, b ∈ fs') (hx : ∀ b ∈ ex, b ∈ ex') : Un fs' ex' H H1 h h1 :=
  ⟨fun b ob q n hb he => u.keep b ob q n (fun z => hb (hs b z)) fun z => he (hx b z), fun _ _ q n _ he => u.any q n fun z => he (hx _ z), fun b ob q n he => u.free b ob q n fun z => he (hx b z), fun b ob q he => u.there b ob q fun z => he (hx b z), u.tups, u.frzs, u.tbls⟩
end

/-! ### the heap without what is tracked -/
def trk (h : Heap) (H : Hp) : List Addr := (List.range h.objs.size).filter fun a => (H a).isSome
def hidT (h : Heap) (H : Hp) : Heap := PySem.W.hideAll h (trk h H)
theorem hidT_size (h : Heap) (H : Hp) : (hidT h H).objs.size = h.objs.size := PySem.W.hideAll_size _ _
theorem hidT_get {h : Heap} {H : Hp} {b : Addr} {o : Obj} (e : h.get? b = some o) (n : H b = none) : (hidT h H).get? b = some o :=
  PySem.W.hideAll_get _ e fun hm => by
    have q : (H b).isSome = true := (List.mem_filter.mp hm).2
    rw [n] at q; simp at q
theorem of_hidT {h : Heap} {H : Hp} {b : Addr} {o : Obj} (e : (hidT h H).get? b = some o) : h.get? b = some o ∧ H b = none := by
  have e' : h.get? b = some o := PySem.W.of_hideAll (trk h H) e
  refine ⟨e', ?_⟩
  cases q : H b with
  | none => rfl
  | some x =>
    have hm : b ∈ trk h H := List.mem_filter.mpr ⟨List.mem_range.mpr (Heap.lt_size e'), by simp [q]⟩
    have z : (hidT h H).get? b = none := PySem.W.hideAll_none (trk h H) hm
    rw [z] at e; cases e

/-! ### OpenK's ledger, filled with every new object but one -/
def allNews (g h : Heap) (L : Addr) : List (Addr × Obj) := (List.range h.objs.size).filterMap fun a => if a = L ∨ (g.get? a).isSome = true then none else (h.get? a).map fun o => (a, o)
theorem mem_allNews {g h : Heap} {L a : Addr} {o : Obj} (h1 : a ≠ L) (h2 : g.get? a = none) (h3 : h.get? a = some o) : (a, o) ∈ allNews g h L :=
  List.mem_filterMap.mpr ⟨a, List.mem_range.mpr (Heap.lt_size h3), by simp [h1, h2, h3]⟩
theorem of_mem_allNews {g h : Heap} {L : Addr} {p : Addr × Obj} (hp : p ∈ allNews g h L) : p.1 ≠ L ∧ g.get? p.1 = none ∧ h.get? p.1 = some p.2 := by
  obtain ⟨b, _, e⟩ := List.mem_filterMap.mp hp
  split at e
  · cases e
  · rename_i hn
    cases q : h.get? b with
    | none => rw [q] at e; simp at e
    | some u =>
      rw [q] at e
      simp only [Option.map_some, Option.some.injEq] at e
      subst e
      refine ⟨fun z => hn (.inl z), ?_, q⟩
      show g.get? b = none
      cases r : g.get? b with
      | none => rfl
      | some v => exact (hn (.inr (by simp [r]))).elim
def rest (g h : Heap) (L d : Addr) : List (Addr × Obj) := (allNews g h L).filter fun p => decide (p.1 ≠ d)
theorem rest_ne {g h : Heap} {L d : Addr} : ∀ p ∈ rest g h L d, p.1 ≠ d := fun p hp => of_decide_eq_true (List.mem_filter.mp hp).2
theorem mem_rest {g h : Heap} {L d a : Addr} {o : Obj} (h1 : a ≠ L) (h2 : g.get? a = none) (h3 : h.get? a = some o) (h4 : a ≠ d) : (a, o) ∈ rest g h L d :=
  List.mem_filter.mpr ⟨mem_allNews h1 h2 h3, decide_eq_true h4⟩
theorem news_all {g h : Heap} {L : Addr} : News g L h (allNews g h L) := fun p hp => let ⟨a, b, c⟩ := of_mem_allNews hp; ⟨c, a, b⟩
theorem news_at {g h : Heap} {L d : Addr} {o : Obj} (h1 : d ≠ L) (h2 : g.get? d = none) (h3 : h.get? d = some o) : News g L h ((d, o) :: rest g h L d) := fun p hp => by
  rcases List.mem_cons.mp hp with rfl | hp
  · exact ⟨h3, h1, h2⟩
  · exact news_all p (List.mem_filter.mp hp).1
/-- behind a rule that changed d alone: all else but the frame is kept -/
theorem kept_of_news {g h h' : Heap} {L d : Addr} {m : Str → Option Value} (k : ∀ b o, g.get? b = some o → h.get? b = some o) (F : Fr g L h' m) (N : News g L h' (rest g h L d)) :
    ∀ b o, b ≠ L → b ≠ d → h.get? b = some o → h'.get? b = some o := fun b o h1 h2 e => by
  cases q : g.get? b with
  | some u =>
    have := k b u q
    rw [e] at this; cases this
    exact F.keep b _ q
  | none => exact (N (b, o) (mem_rest h1 q e h2)).1
end L2

namespace L2
open PySem PySem.Spec PyProof.Rows

/-- the module's facts, over the base: the heap at the law's entry without what is tracked there -/
structure Mod (K : PySem.W.Frag) (mg : Str → Option Value) (base : Heap) : Prop where
  kin : K.In base
  glob : base.Ns mainGlobals mg
  blt : ∃ mb, base.Ns builtinsNs mb ∧ ∀ x : Str, x ≠ "__name__" → mb x = bootBuiltins x
  nolimit : base.NoLimit

/-- the context: a def's body (or a comprehension's block) running. base: fixed through the whole law; s₀, H₀: the entry; outer: the frames whose slots others may change (a def's callers); stack: all frames that run;
   ex: iterators that were made ahead of the entry and are walked here (a comprehension's); fn: the names whose cells were made at the entry (a def: all; a comprehension's block: its own); calm: not within an except suite; pn: pins that every state bears; xe: what is wanted of an exception that leaves the code -/
structure Cx where
  prog : Program
  w : World
  K : PySem.W.Frag
  mg : Str → Option Value
  base : Heap
  A : Around
  N : List Str
  s₀ : Shared
  H₀ : Hp
  env : Env
  outer : List Env
  stack : List Env
  ex : List Addr
  fn : Str → Bool
  calm : Bool
  pn : List (Addr × Obj)
  xe : Value → Shared → Prop
/-- the callers' frames -/
def frs (l : List Env) : List Addr := l.filterMap (·.frame)
abbrev Cx.fs (X : Cx) : List Addr := frs X.outer

def Vis (sc : Scope) (x : Str) : Prop := sc.names.lookup x = some .local ∨ sc.names.lookup x = some .cell ∨ sc.names.lookup x = some .free
def Loc (sc : Scope) (x : Str) : Prop := sc.names.lookup x = some .local ∨ sc.names.lookup x = some .cell
def Look (env : Env) (h : Heap) (m : Str → Option Value) (x : Str) (u : Value) : Prop :=
  (env.kindOf x = some .local ∧ m x = some u) ∨ ((env.kindOf x = some .cell ∨ env.kindOf x = some .free) ∧ ∃ c, env.cells.lookup x = some c ∧ h.IsCell c (some u))

structure Cx.Ok (X : Cx) : Prop where
  mod : Mod X.K X.mg X.base
  kind : X.env.scope.kind = .function
  glob : X.env.globals = mainGlobals
  blt : X.env.builtins = builtinsNs
  above : X.s₀.heap.objs.size ≤ X.env.locals
  inj : ∀ x y c, X.env.cells.lookup x = some c → X.env.cells.lookup y = some c → x = y
  has : ∀ x, (X.env.kindOf x = some .cell ∨ X.env.kindOf x = some .free) → ∃ c, X.env.cells.lookup x = some c
  cab : ∀ x c, X.fn x = true → X.env.cells.lookup x = some c → X.s₀.heap.objs.size ≤ c
  hd : X.calm = true → X.A.handled = none
  frames : X.A.frames = some X.stack
  stk : X.stack = X.outer ∨ (X.stack = X.env :: X.outer ∧ X.env.frame = some X.env.locals)
  exf : ∀ b ∈ X.ex, b ≠ X.env.locals ∧ ∀ x c, X.env.cells.lookup x = some c → c ≠ b
  bs : ∀ b o, X.base.get? b = some o → X.s₀.heap.get? b = some o ∧ X.H₀ b = none
  bsz : X.base.objs.size ≤ X.s₀.heap.objs.size
  noex : ∀ b o, X.base.get? b = some o → b ∉ X.ex
  exfs : ∀ b ∈ X.ex, b ∉ X.fs
  funs : X.s₀.heap.FunFrames X.base X.outer
  frf : ∀ b ∈ X.fs, X.H₀ b = none

structure Inv (X : Cx) (pins : List (Addr × Obj)) (σ : List (Option V)) (H : Hp) (s : Shared) : Prop where
  ok : X.Ok
  os : s.os = X.s₀.os
  bare : AllBare s.gens
  base : Un X.fs X.ex X.H₀ H X.s₀.heap s.heap
  loc : ∃ m, s.heap.Ns X.env.locals m ∧ ∀ (i : Nat) (x : Str) (v : V), X.N[i]? = some x → σ[i]? = some (some v) → Vis X.env.scope x → ∃ u, RelV v u ∧ Look X.env s.heap m x u
  cell : ∀ x c, X.env.cells.lookup x = some c → ∃ v, s.heap.IsCell c v
  free : H X.env.locals = none
  freeC : ∀ x c, X.env.cells.lookup x = some c → H c = none
  pin : ∀ p ∈ X.pn ++ pins, s.heap.get? p.1 = some p.2 ∧ H p.1 = none ∧ p.1 ≠ X.env.locals ∧ p.1 ∉ X.fs ∧ ∀ v, p.2.data ≠ .cell v
  hok : HOk X.prog X.w H s.heap
  len : σ.length = X.N.length

section
variable {X : Cx} {pins : List (Addr × Obj)} {σ : List (Option V)} {H H' : Hp} {s : Shared} {h' : Heap}

theorem Cx.Ok.nofr (ok : X.Ok) {b : Addr} {o : Obj} (e : X.base.get? b = some o) : b ∉ X.fs := fun hb => by
  have := (ok.funs.mem hb).1
  rw [e] at this; cases this
theorem Inv.bs (I : Inv X pins σ H s) : ∀ b o, X.base.get? b = some o → s.heap.get? b = some o ∧ H b = none := fun b o e =>
  ⟨I.base.keep b o (I.ok.bs b o e).1 (I.ok.bs b o e).2 (I.ok.nofr e) (I.ok.noex b o e), I.base.free b o (I.ok.bs b o e).1 (I.ok.bs b o e).2 (I.ok.noex b o e)⟩
theorem Inv.bk (I : Inv X pins σ H s) : ∀ b o, X.base.get? b = some o → s.heap.get? b = some o := fun b o e => (I.bs b o e).1
theorem Inv.mod (I : Inv X pins σ H s) : Mod X.K X.mg X.base := I.ok.mod
theorem Inv.kIn (I : Inv X pins σ H s) : X.K.In s.heap := I.ok.mod.kin.keeps I.bk
theorem Inv.nolimit (I : Inv X pins σ H s) : s.heap.NoLimit := I.ok.mod.nolimit.keeps I.bk
/-- the frame over the base: for OpenK's rules (K.In X.base is I.mod.kin) -/
theorem Inv.fr (I : Inv X pins σ H s) : ∃ m, Fr X.base X.env.locals s.heap m :=
  let ⟨m, hn, _⟩ := I.loc
  ⟨m, hn, I.bk, Nat.le_trans I.ok.bsz I.ok.above⟩
theorem Inv.lt (I : Inv X pins σ H s) : X.env.locals < s.heap.objs.size := let ⟨_, hn, _⟩ := I.loc; hn.lt
theorem Inv.sz (I : Inv X pins σ H s) : X.s₀.heap.objs.size ≤ s.heap.objs.size := Nat.le_trans I.ok.above (Nat.le_of_lt I.lt)
theorem Inv.nofs (I : Inv X pins σ H s) {a : Addr} (h : s.heap.objs.size ≤ a) : a ∉ X.fs := fun hb => by
  obtain ⟨_, o, ho, _⟩ := I.ok.funs.mem hb
  exact absurd (Nat.lt_of_lt_of_le (Heap.lt_size ho) (Nat.le_trans I.sz h)) (Nat.lt_irrefl _)
theorem Inv.cne (I : Inv X pins σ H s) : ∀ x c, X.env.cells.lookup x = some c → c ≠ X.env.locals := fun x c e z => by
  obtain ⟨v, o, ho, hd⟩ := I.cell x c e
  obtain ⟨m, ⟨o', es, ep, ho', hd', _⟩, _⟩ := I.loc
  rw [z, ho'] at ho; cases ho; rw [hd'] at hd; cases hd
theorem Inv.funs (I : Inv X pins σ H s) : s.heap.FunFrames X.base X.outer := by
  have all : ∀ (l : List Env), (∀ b ∈ frs l, b ∈ X.fs) → X.s₀.heap.FunFrames X.base l → s.heap.FunFrames X.base l := by
    intro l
    induction l with
    | nil => intro _ _; trivial
    | cons env r ih =>
      intro hs hl
      obtain ⟨hk, ⟨L, o, hf, hn, ho, hd⟩, hr⟩ := hl
      have hL : L ∈ X.fs := hs L (by unfold frs; rw [List.filterMap_cons, hf]; exact List.mem_cons_self)
      obtain ⟨sl, e⟩ := I.base.slot L o ho (I.ok.frf L hL) hL fun z => I.ok.exfs L z hL
      exact ⟨hk, ⟨L, _, hf, hn, e, hd⟩, ih (fun b hb => hs b (by unfold frs; rw [List.filterMap_cons, hf]; exact List.mem_cons_of_mem _ hb)) hr⟩
  exact all X.outer (fun _ hb => hb) I.ok.funs

/-- the frames that run, for a call -/
theorem Inv.stack (I : Inv X pins σ H s) : s.heap.FunFrames X.base X.stack := by
  rcases I.ok.stk with e | ⟨e, hf⟩
  · rw [e]; exact I.funs
  · rw [e]
    obtain ⟨m, hn, _⟩ := I.loc
    refine .cons (by rw [I.ok.kind]; decide) hf hn ?_ I.funs
    exact Heap.get?_none_of_le (Nat.le_trans I.ok.bsz I.ok.above)
theorem Inv.stkSub (I : Inv X pins σ H s) : ∀ b ∈ frs X.stack, b ∈ X.env.locals :: X.fs := fun b hb => by
  rcases I.ok.stk with e | ⟨e, hf⟩
  · rw [e] at hb; exact List.mem_cons_of_mem _ hb
  · rw [e] at hb
    unfold frs at hb
    rw [List.filterMap_cons, hf] at hb
    exact hb
theorem Inv.stkFree (I : Inv X pins σ H s) : ∀ b ∈ frs X.stack, H b = none := fun b hb => by
  rcases List.mem_cons.mp (I.stkSub b hb) with e | hb
  · rw [e]; exact I.free
  · obtain ⟨_, o, ho, _⟩ := I.ok.funs.mem hb
    exact I.base.free b o ho (I.ok.frf b hb) fun z => I.ok.exfs b z hb

/-- THE STEP: the untracked objects but the frame and the records at ch are kept (the callers' frames up to slots), the frame's map is kept, the new abstract heap is held -/
theorem Inv.step {g' : Array GenState} {t' : Nat} {d' : Drawn} {ch : List Addr} (I : Inv X pins σ H s)
    (hch : ∀ b ∈ ch, (b ∈ X.ex ∨ X.s₀.heap.get? b = none) ∧ b ≠ X.env.locals ∧ (∀ x c, X.env.cells.lookup x = some c → c ≠ b) ∧ ∀ p ∈ X.pn ++ pins, p.1 ≠ b)
    (keep : ∀ b o, b ≠ X.env.locals → b ∉ X.fs → b ∉ ch → s.heap.get? b = some o → H b = none → h'.get? b = some o)
    (slot : ∀ b o, b ≠ X.env.locals → b ∈ X.fs → b ∉ ch → s.heap.get? b = some o → H b = none → ∃ sl, h'.get? b = some { o with slots := sl }) (free : ∀ b o, b ∉ ch → s.heap.get? b = some o → H b = none → H' b = none)
    (there : ∀ b o, b ∉ ch → s.heap.get? b = some o → ∃ o', h'.get? b = some o')
    (tups : ∀ b xs, H b = some (.tup xs) → H' b = some (.tup xs)) (frzs : ∀ b o u, H b = some (.frz o u) → H' b = some (.frz o u)) (tbls : ∀ b ps, H b = some (.tbl ps) → ∃ more, H' b = some (.tbl (ps ++ more)))
    (ns : ∀ m, s.heap.Ns X.env.locals m → h'.Ns X.env.locals m) (hok : HOk X.prog X.w H' h') (hg : AllBare g') :
    Inv X pins σ H' { s with heap := h', gens := g', drawn := d', toks := t' } := by
  have neL : ∀ b o, X.s₀.heap.get? b = some o → b ≠ X.env.locals := fun b o e => Nat.ne_of_lt (Nat.lt_of_lt_of_le (Heap.lt_size e) I.ok.above)
  have neC : ∀ b o, X.s₀.heap.get? b = some o → b ∉ X.ex → b ∉ ch := fun b o e hx hb => by
    rcases (hch b hb).1 with z | z
    · exact hx z
    · rw [e] at z; cases z
  have cellK : ∀ x c, X.env.cells.lookup x = some c → ∀ v, s.heap.IsCell c v → h'.IsCell c v := fun x c e v ⟨o, ho, hd⟩ => by
    have nch : c ∉ ch := fun z => (hch c z).2.2.1 x c e rfl
    by_cases hc : c ∈ X.fs
    · obtain ⟨sl, q⟩ := slot c o (I.cne x c e) hc nch ho (I.freeC x c e)
      exact ⟨_, q, hd⟩
    · exact ⟨o, keep c o (I.cne x c e) hc nch ho (I.freeC x c e), hd⟩
  refine ⟨I.ok, I.os, hg, ⟨fun b o e n hb hx => ?_, fun b o e n hb hx => ?_, fun b o e n hx => ?_, fun b o e hx => ?_, fun b xs e => tups b xs (I.base.tups b xs e), fun b o xs e => frzs b o xs (I.base.frzs b o xs e), fun b ps e => ?_⟩, ?_, fun x c e => ?_, ?_, fun x c e => ?_, fun p hp => ?_, hok, I.len⟩
  · exact keep b o (neL b o e) hb (neC b o e hx) (I.base.keep b o e n hb hx) (I.base.free b o e n hx)
  · obtain ⟨sl, e1⟩ := I.base.slot b o e n hb hx
    obtain ⟨sl', e2⟩ := slot b _ (neL b o e) hb (neC b o e hx) e1 (I.base.free b o e n hx)
    exact ⟨sl', e2⟩
  · obtain ⟨o', e1⟩ := I.base.there b o e hx
    exact free b o' (neC b o e hx) e1 (I.base.free b o e n hx)
  · obtain ⟨o', e1⟩ := I.base.there b o e hx
    exact there b o' (neC b o e hx) e1
  · obtain ⟨m1, e1⟩ := I.base.tbls b ps e
    obtain ⟨m2, e2⟩ := tbls b _ e1
    exact ⟨m1 ++ m2, by rw [e2, Array.append_assoc]⟩
  · obtain ⟨m, hn, hl⟩ := I.loc
    refine ⟨m, ns m hn, fun i x v e1 e2 e3 => ?_⟩
    obtain ⟨u, r, l⟩ := hl i x v e1 e2 e3
    refine ⟨u, r, ?_⟩
    rcases l with l | ⟨k, c, e, z⟩
    · exact .inl l
    · exact .inr ⟨k, c, e, cellK x c e _ z⟩
  · obtain ⟨v, z⟩ := I.cell x c e
    exact ⟨v, cellK x c e v z⟩
  · obtain ⟨m, ⟨o, _, _, ho, _⟩, _⟩ := I.loc
    exact free _ o (fun z => (hch _ z).2.1 rfl) ho I.free
  · obtain ⟨v, o, ho, hd⟩ := I.cell x c e
    exact free c o (fun z => (hch c z).2.2.1 x c e rfl) ho (I.freeC x c e)
  · obtain ⟨e, n, ne, nf, d⟩ := I.pin p hp
    have nch : p.1 ∉ ch := fun z => (hch p.1 z).2.2.2 p hp rfl
    exact ⟨keep p.1 p.2 ne nf nch e n, free p.1 p.2 nch e n, ne, nf, d⟩
/-- .. where the frame's own object is kept too -/
theorem Inv.un {t' : Nat} (I : Inv X pins σ H s) (u : Un X.fs [] H H' s.heap h') (hok : HOk X.prog X.w H' h') : Inv X pins σ H' { s with heap := h', toks := t' } := by
  obtain ⟨m, ⟨o, es, ep, ho, r⟩, _⟩ := id I.loc
  obtain ⟨sl, hL⟩ := u.any ho I.free (by simp)
  exact I.step (g' := s.gens) (d' := s.drawn) (ch := []) (fun _ z => nomatch z) (fun b o _ hb _ e n => u.keep b o e n hb (by simp)) (fun b o _ hb _ e n => u.slot b o e n hb (by simp)) (fun b o _ e n => u.free b o e n (by simp)) (fun b o _ e => u.there b o e (by simp)) u.tups u.frzs u.tbls (fun m' hm => by
    obtain ⟨o', es', ep', ho', r'⟩ := hm
    rw [ho] at ho'; cases ho'
    exact ⟨_, es', ep', hL, r'⟩) hok I.bare
/-- behind a call (or a comprehension's block): the slots of this frame may have changed too, the records at ch may have turned -/
theorem Inv.call {g' : Array GenState} {t' : Nat} {d' : Drawn} {ch : List Addr} (I : Inv X pins σ H s) (u : Un (frs X.stack) ch H H' s.heap h') (hok : HOk X.prog X.w H' h') (hg : AllBare g')
    (hch : ∀ b ∈ ch, (b ∈ X.ex ∨ X.s₀.heap.get? b = none) ∧ b ≠ X.env.locals ∧ (∀ x c, X.env.cells.lookup x = some c → c ≠ b) ∧ ∀ p ∈ X.pn ++ pins, p.1 ≠ b) :
    Inv X pins σ H' { s with heap := h', gens := g', drawn := d', toks := t' } := by
  obtain ⟨m, ⟨o, es, ep, ho, r⟩, _⟩ := id I.loc
  obtain ⟨sl, hL⟩ := u.any ho I.free fun z => (hch _ z).2.1 rfl
  exact I.step (ch := ch) hch (fun b o hL hb hc e n => u.keep b o e n (fun z => (List.mem_cons.mp (I.stkSub b z)).elim hL hb) hc) (fun b o _ _ hc e n => u.any e n hc) (fun b o hc e n => u.free b o e n hc) (fun b o hc e => u.there b o e hc) u.tups u.frzs u.tbls (fun m' hm => by
    obtain ⟨o', es', ep', ho', r'⟩ := hm
    rw [ho] at ho'; cases ho'
    exact ⟨_, es', ep', hL, r'⟩) hok hg
/-- an untracked record of ours (an iterator) has turned -/
theorem Inv.turned {t' : Nat} {it : Addr} (I : Inv X pins σ H s) (k : ∀ b o, b ≠ it → s.heap.get? b = some o → h'.get? b = some o) (hn : H it = none) (hL : it ≠ X.env.locals)
    (h1 : it ∈ X.ex ∨ X.s₀.heap.get? it = none) (h2 : ∀ x c, X.env.cells.lookup x = some c → c ≠ it) (h3 : ∀ p ∈ X.pn ++ pins, p.1 ≠ it) : Inv X pins σ H { s with heap := h', toks := t' } := by
  have nit : ∀ b u, H b = some u → b ≠ it := fun b u e z => by rw [z, hn] at e; cases e
  refine I.step (g' := s.gens) (d' := s.drawn) (ch := [it]) (fun b hb => ?_) (fun b o _ _ hc e _ => k b o (fun z => hc (by simp [z])) e) (fun b o _ _ hc e _ => ⟨o.slots, k b o (fun z => hc (by simp [z])) e⟩) (fun _ _ _ _ n => n)
    (fun b o hc e => ⟨o, k b o (fun z => hc (by simp [z])) e⟩) (fun _ _ e => e) (fun _ _ _ e => e) (fun b ps e => ⟨#[], by rw [e]; simp⟩) (fun m hm => ?_) (fun b u e => ?_) I.bare
  · have e : b = it := by simpa using hb
    subst e
    exact ⟨h1, hL, h2, h3⟩
  · obtain ⟨o, es, ep, ho, r⟩ := hm
    exact ⟨o, es, ep, k _ o (Ne.symm hL) ho, r⟩
  · refine (I.hok b u e).stay (fun c v hc q => k c v ?_ q) (fun _ q => q) fun _ _ q => q
    rcases hc with z | z
    · rw [z]; exact nit b u e
    · exact nit c _ z
theorem Inv.tok (I : Inv X pins σ H s) (t : Nat) : Inv X pins σ H { s with toks := t } := I.un (h' := s.heap) (t' := t) Un.refl I.hok
/-- all objects kept -/
theorem Inv.kept {t' : Nat} (I : Inv X pins σ H s) (k : ∀ b u, s.heap.get? b = some u → h'.get? b = some u) : Inv X pins σ H { s with heap := h', toks := t' } := I.un (Un.kept k) (I.hok.kept k)
/-- a new object laid and tracked -/
theorem Inv.laid {a : Addr} {o : HO} {t' : Nat} (I : Inv X pins σ H s) (k : ∀ b u, s.heap.get? b = some u → h'.get? b = some u) (hp : s.heap.objs.size ≤ a) (new : ObjOk X.prog X.w (upd H a o) h' a o) :
    Inv X pins σ (upd H a o) { s with heap := h', toks := t' } := I.un (Un.laid k hp (I.hok.fresh hp)) (I.hok.laid k hp new)
/-- an object written -/
theorem Inv.write {x e : Addr} {o : HO} {t' : Nat} (I : Inv X pins σ H s) (mu : Mut (H x)) (he : e = x ∨ H e = some (.own x)) (k : ∀ b u, b ≠ e → s.heap.get? b = some u → h'.get? b = some u) (heo : ∃ u, h'.get? e = some u)
    (new : ObjOk X.prog X.w (upd H x o) h' x o) : Inv X pins σ (upd H x o) { s with heap := h', toks := t' } := I.un (Un.write mu he k heo) (I.hok.write mu he k heo new)
/-- forgetting slots, pins -/
theorem Inv.weak {σ' : List (Option V)} (I : Inv X pins σ H s) (hl : σ'.length = σ.length) (w : ∀ (i : Nat) v, σ'[i]? = some (some v) → σ[i]? = some (some v)) : Inv X pins σ' H s :=
  ⟨I.ok, I.os, I.bare, I.base, let ⟨m, hn, hl'⟩ := I.loc; ⟨m, hn, fun i x v e1 e2 e3 => hl' i x v e1 (w i v e2) e3⟩, I.cell, I.free, I.freeC, I.pin, I.hok, hl.trans I.len⟩
theorem Inv.pins_of {pins' : List (Addr × Obj)} (I : Inv X pins σ H s) (h : ∀ p ∈ pins', s.heap.get? p.1 = some p.2 ∧ H p.1 = none ∧ p.1 ≠ X.env.locals ∧ p.1 ∉ X.fs ∧ ∀ v, p.2.data ≠ .cell v) : Inv X pins' σ H s :=
  ⟨I.ok, I.os, I.bare, I.base, I.loc, I.cell, I.free, I.freeC, fun p hp => (List.mem_append.mp hp).elim (fun z => I.pin p (List.mem_append_left _ z)) (h p), I.hok, I.len⟩

theorem nodup_ix {N : List Str} (hN : N.Nodup) {i j : Nat} {x : Str} (a : N[i]? = some x) (b : N[j]? = some x) : i = j := by
  obtain ⟨h1, e1⟩ := List.getElem?_eq_some_iff.mp a
  obtain ⟨h2, e2⟩ := List.getElem?_eq_some_iff.mp b
  exact (List.getElem_inj hN).mp (e1.trans e2.symm)

/-- a name is stored; what changed -/
theorem store_ok2 {M : Model} {A : Around} {E : Value → Shared → Prop} {i : Nat} {x : Str} {v : V} {u : Value} {Q : Unit → Shared → Prop} (I : Inv X pins σ H s) (hN : X.N.Nodup) (hi : X.N[i]? = some x) (hx : Loc X.env.scope x) (r : RelV v u)
    (h : ∀ s', Inv X pins (σ.set i (some v)) H s' → (∃ a, Heap.SameBut a s.heap s'.heap ∧ (a = X.env.locals ∨ X.env.cells.lookup x = some a)) → Q () s') (hf : X.fn x = true ∨ X.env.scope.names.lookup x = some .local := by first | exact .inl rfl | exact .inr rfl | assumption) : wpAny M A (storeName X.env x u) Q E s := by
  obtain ⟨m, hn, hl⟩ := id I.loc
  have hcls : (X.env.scope.kind == .class || (X.env.scope.kind == .module && X.env.locals != X.env.globals)) = false := by rw [I.ok.kind]; rfl
  have hiσ : i < σ.length := by rw [I.len]; exact (List.getElem?_eq_some_iff.mp hi).1
  have cne := I.cne
  have tracked : ∀ {a : Addr} {h' : Heap}, (∃ o, s.heap.get? a = some o ∧ H a = none) → Heap.SameBut a s.heap h' → HOk X.prog X.w H h' := fun {a h'} ha hs b ob e => by
    obtain ⟨_, _, hfree⟩ := ha
    refine (I.hok b ob e).stay (fun c w' hc q => (hs.2 c ?_).trans q) (fun _ q => q) fun _ _ q => q
    rintro rfl
    rcases hc with rfl | hc
    · rw [hfree] at e; cases e
    · rw [hfree] at hc; cases hc
  rcases hx with hk | hk
  · refine wpAny_storeName_local hk hn (fun h' hn' hs => ?_) hcls
    obtain ⟨oL, _, _, hoL, _⟩ := id hn
    refine h _ ⟨I.ok, I.os, I.bare, ⟨fun b o e n hb hx => ?_, fun b o e n hb hx => ?_, I.base.free, fun b o e hx => ?_, I.base.tups, I.base.frzs, I.base.tbls⟩, ⟨_, hn', fun j y v' e1 e2 e3 => ?_⟩, fun y c e => ?_, I.free, I.freeC, fun p hp => ?_, tracked ⟨oL, hoL, I.free⟩ hs, by simpa using I.len⟩ ⟨_, hs, .inl rfl⟩
    · exact (hs.2 b (Nat.ne_of_lt (Nat.lt_of_lt_of_le (Heap.lt_size e) I.ok.above))).trans (I.base.keep b o e n hb hx)
    · obtain ⟨sl, e1⟩ := I.base.slot b o e n hb hx
      exact ⟨sl, (hs.2 b (Nat.ne_of_lt (Nat.lt_of_lt_of_le (Heap.lt_size e) I.ok.above))).trans e1⟩
    · obtain ⟨o', e1⟩ := I.base.there b o e hx
      exact ⟨o', (hs.2 b (Nat.ne_of_lt (Nat.lt_of_lt_of_le (Heap.lt_size e) I.ok.above))).trans e1⟩
    · by_cases hj : j = i
      · subst hj
        rw [hi] at e1; cases e1
        rw [List.getElem?_set_self hiσ] at e2
        cases e2
        exact ⟨u, r, .inl ⟨hk, by simp⟩⟩
      · rw [List.getElem?_set_ne (Ne.symm hj)] at e2
        obtain ⟨u', r', q⟩ := hl j y v' e1 e2 e3
        refine ⟨u', r', ?_⟩
        rcases q with ⟨k, e⟩ | ⟨k, c, e, z⟩
        · refine .inl ⟨k, ?_⟩
          have : y ≠ x := fun e => hj (nodup_ix hN e1 (e ▸ hi))
          simp [this, e]
        · exact .inr ⟨k, c, e, z.sameBut hs (cne y c e)⟩
    · obtain ⟨w', z⟩ := I.cell y c e
      exact ⟨w', z.sameBut hs (cne y c e)⟩
    · obtain ⟨e, n, ne, nf, d⟩ := I.pin p hp
      exact ⟨(hs.2 p.1 ne).trans e, n, ne, nf, d⟩
  · have hfn : X.fn x = true := by
      rcases hf with z | z
      · exact z
      · rw [z] at hk; cases hk
    obtain ⟨c, hc⟩ := I.ok.has x (.inl hk)
    obtain ⟨w', z⟩ := I.cell x c hc
    refine wpAny_storeName_cell I.ok.kind hk hc z (fun h' hc' hs => ?_)
    obtain ⟨oc, hoc, hocd⟩ := id z
    refine h { s with heap := h' } ⟨I.ok, I.os, I.bare, ⟨fun b o e n hb hx => ?_, fun b o e n hb hx => ?_, I.base.free, fun b o e hx => ?_, I.base.tups, I.base.frzs, I.base.tbls⟩, ⟨m, hn.sameBut hs (Ne.symm (cne x c hc)), fun j y v' e1 e2 e3 => ?_⟩, fun y c' e => ?_, I.free, I.freeC, fun p hp => ?_, tracked ⟨oc, hoc, I.freeC x c hc⟩ hs, by simpa using I.len⟩ ⟨c, hs, .inr hc⟩
    · exact (hs.2 b (Nat.ne_of_lt (Nat.lt_of_lt_of_le (Heap.lt_size e) (I.ok.cab x c hfn hc)))).trans (I.base.keep b o e n hb hx)
    · obtain ⟨sl, e1⟩ := I.base.slot b o e n hb hx
      exact ⟨sl, (hs.2 b (Nat.ne_of_lt (Nat.lt_of_lt_of_le (Heap.lt_size e) (I.ok.cab x c hfn hc)))).trans e1⟩
    · obtain ⟨o', e1⟩ := I.base.there b o e hx
      exact ⟨o', (hs.2 b (Nat.ne_of_lt (Nat.lt_of_lt_of_le (Heap.lt_size e) (I.ok.cab x c hfn hc)))).trans e1⟩
    · by_cases hj : j = i
      · subst hj
        rw [hi] at e1; cases e1
        rw [List.getElem?_set_self hiσ] at e2
        cases e2
        exact ⟨u, r, .inr ⟨.inl hk, c, hc, hc'⟩⟩
      · rw [List.getElem?_set_ne (Ne.symm hj)] at e2
        obtain ⟨u', r', q⟩ := hl j y v' e1 e2 e3
        refine ⟨u', r', ?_⟩
        rcases q with q | ⟨k, c', e, z'⟩
        · exact .inl q
        · refine .inr ⟨k, c', e, z'.sameBut hs ?_⟩
          rintro rfl
          exact hj (nodup_ix hN e1 (I.ok.inj _ _ _ e hc ▸ hi))
    · by_cases hcc : c' = c
      · subst hcc; exact ⟨_, hc'⟩
      · obtain ⟨w2, z2⟩ := I.cell y c' e
        exact ⟨w2, z2.sameBut hs hcc⟩
    · obtain ⟨e, n, ne, nf, d⟩ := I.pin p hp
      refine ⟨(hs.2 p.1 ?_).trans e, n, ne, nf, d⟩
      intro q
      rw [q, hoc] at e
      have q' : oc = p.2 := Option.some.inj e
      exact d w' (by rw [← q']; exact hocd)
theorem store_ok {M : Model} {A : Around} {E : Value → Shared → Prop} {i : Nat} {x : Str} {v : V} {u : Value} {Q : Unit → Shared → Prop} (I : Inv X pins σ H s) (hN : X.N.Nodup) (hi : X.N[i]? = some x) (hx : Loc X.env.scope x) (r : RelV v u)
    (h : ∀ s', Inv X pins (σ.set i (some v)) H s' → Q () s') (hf : X.fn x = true ∨ X.env.scope.names.lookup x = some .local := by first | exact .inl rfl | exact .inr rfl | assumption) : wpAny M A (storeName X.env x u) Q E s :=
  store_ok2 I hN hi hx r (fun s' I' _ => h s' I') hf
/-- behind a call or a block, the state as it is -/
theorem Inv.call' {s' : Shared} {ch : List Addr} (I : Inv X pins σ H s) (ho : s'.os = s.os) (u : Un (frs X.stack) ch H H' s.heap s'.heap) (hok : HOk X.prog X.w H' s'.heap) (hg : AllBare s'.gens)
    (hch : ∀ b ∈ ch, (b ∈ X.ex ∨ X.s₀.heap.get? b = none) ∧ b ≠ X.env.locals ∧ (∀ x c, X.env.cells.lookup x = some c → c ≠ b) ∧ ∀ p ∈ X.pn ++ pins, p.1 ≠ b) : Inv X pins σ H' s' := by
  obtain ⟨h', g', d', t', o'⟩ := s'
  have e : o' = s.os := ho
  subst e
  exact I.call (g' := g') (t' := t') (d' := d') u hok hg hch
end

/-! ### the judgements -/
/-- an exception: its class, its own dict's address (where it has one), the abstract heap behind it -/
abbrev XK := Value → Option Addr → Hp → Prop
abbrev St := List (Option V)
abbrev VK := V → Hp → Prop
/-- an expression's reading; a test's; an argument list's -/
abbrev TE := St → Hp → VK → Prop
abbrev TT := St → Hp → (Bool → Hp → Prop) → Prop
abbrev TA := St → Hp → (List V → Hp → Prop) → Prop
/-- what is wanted behind a statement -/
structure Ends where
  nx : St → Hp → Prop
  rt : VK
  bk : St → Hp → Prop := fun _ _ => False
  ct : St → Hp → Prop := fun _ _ => False
abbrev TS := Ends → St → Hp → Prop

def EP (X : Cx) (pins : List (Addr × Obj)) (σ : St) (Q : VK) (u : Value) (s' : Shared) : Prop := ∃ v H', Inv X pins σ H' s' ∧ RelV v u ∧ Q v H'
def TP (X : Cx) (pins : List (Addr × Obj)) (σ : St) (Q : Bool → Hp → Prop) (b : Bool) (s' : Shared) : Prop := ∃ H', Inv X pins σ H' s' ∧ Q b H'
def AP (X : Cx) (pins : List (Addr × Obj)) (σ : St) (Q : List V → Hp → Prop) (us : List Value) (s' : Shared) : Prop := ∃ vs H', Inv X pins σ H' s' ∧ Vals vs us ∧ Q vs H'
def SP (X : Cx) (pins : List (Addr × Obj)) (D : Ends) (f : Flow) (s' : Shared) : Prop :=
  match f with
  | .next => ∃ σ' H', Inv X pins σ' H' s' ∧ D.nx σ' H'
  | .brk => ∃ σ' H', Inv X pins σ' H' s' ∧ D.bk σ' H'
  | .cont => ∃ σ' H', Inv X pins σ' H' s' ∧ D.ct σ' H'
  | .ret u => ∃ v σ' H', Inv X pins σ' H' s' ∧ RelV v u ∧ D.rt v H'

def PE (X : Cx) (e : Expr) (t : TE) : Prop :=
  ∀ (pins : List (Addr × Obj)) (s : Shared) (σ : St) (H : Hp) (Q : VK), Inv X pins σ H s → t σ H Q → wpAny (model X.prog X.w) X.A (eval e X.env) (EP X pins σ Q) X.xe s
def PT (X : Cx) (e : Expr) (t : TT) : Prop :=
  ∀ (pins : List (Addr × Obj)) (s : Shared) (σ : St) (H : Hp) (Q : Bool → Hp → Prop), Inv X pins σ H s → t σ H Q → wpAny (model X.prog X.w) X.A (isTrue e X.env (eval e X.env)) (TP X pins σ Q) X.xe s
/-- a test whatever its 'whole' is (and, or) -/
def PW (X : Cx) (e : Expr) (t : TT) : Prop :=
  ∀ (whole : Sem Value) (pins : List (Addr × Obj)) (s : Shared) (σ : St) (H : Hp) (Q : Bool → Hp → Prop), Inv X pins σ H s → t σ H Q → wpAny (model X.prog X.w) X.A (isTrue e X.env whole) (TP X pins σ Q) X.xe s
theorem PW.pt {X : Cx} {e : Expr} {t : TT} (h : PW X e t) : PT X e t := h _
/-- an argument list (no star), from the left -/
def PA (X : Cx) (es : List Expr) (t : TA) : Prop :=
  ∀ (pos : Pos) (pins : List (Addr × Obj)) (s : Shared) (σ : St) (H : Hp) (Q : List V → Hp → Prop), Inv X pins σ H s → t σ H Q → wpAny (model X.prog X.w) X.A (spliced (backTo pos (starEach es X.env))) (AP X pins σ Q) X.xe s
def PS (X : Cx) (st : Stmt) (t : TS) : Prop :=
  ∀ (pins : List (Addr × Obj)) (s : Shared) (σ : St) (H : Hp) (D : Ends), Inv X pins σ H s → t D σ H → wpAny (model X.prog X.w) X.A (exec st X.env) (SP X pins D) X.xe s
def PSs (X : Cx) (st : List Stmt) (t : TS) : Prop :=
  ∀ (pins : List (Addr × Obj)) (s : Shared) (σ : St) (H : Hp) (D : Ends), Inv X pins σ H s → t D σ H → wpAny (model X.prog X.w) X.A (execs st X.env) (SP X pins D) X.xe s
/-- weaken the end -/
theorem thn {α : Type} {t : Sem α} {Q Q' : α → Shared → Prop} {M : Model} {A : Around} {E : Value → Shared → Prop} {s : Shared} (h : wpAny M A t Q E s) (hQ : ∀ a s, Q a s → Q' a s) : wpAny M A t Q' E s := wpAny_mono h hQ fun _ _ x => x
end L2

namespace L2
open PySem PySem.Spec PyProof.Rows
section
variable {X : Cx}

/-- two expressions in a row -/
theorem bin {a b : Expr} {ta tb : TE} (ha : PE X a ta) (hb : PE X b tb) {pins : List (Addr × Obj)} {s : Shared} {σ : St} {H : Hp} {R : V → V → Hp → Prop} (I : Inv X pins σ H s) (h : ta σ H fun x H1 => tb σ H1 fun y H2 => R x y H2)
    {α : Type} {Q : α → Shared → Prop} {f : Value → Value → Sem α}
    (hf : ∀ v u s2 x y H2, Inv X pins σ H2 s2 → RelV x v → RelV y u → R x y H2 → wpAny (model X.prog X.w) X.A (f v u) Q X.xe s2) :
    wpAny (model X.prog X.w) X.A (eval a X.env) (fun v s₁ => wpAny (model X.prog X.w) X.A (eval b X.env) (fun u s₂ => wpAny (model X.prog X.w) X.A (f v u) Q X.xe s₂) X.xe s₁) X.xe s := by
  refine thn (ha pins s σ H _ I h) fun v s1 ⟨x, H1, I1, r1, q1⟩ => ?_
  refine thn (hb pins s1 σ H1 _ I1 q1) fun u s2 ⟨y, H2, I2, r2, q2⟩ => ?_
  exact hf v u s2 x y H2 I2 r1 r2 q2

/-! ### names and constants -/
def tVar (i : Nat) : TE := fun σ H Q => ∃ v, σ[i]? = some (some v) ∧ Q v H
def tC (v : V) : TE := fun _ H Q => Q v H
theorem pe_var {i : Nat} {x : Str} {pos : Pos} (hN : X.N[i]? = some x) (hv : Vis X.env.scope x) (hd : (x == ("__debug__" : Str)) = false := by decide) (hcd : (x == ("__classdict__" : Str)) = false := by decide) : PE X (.Name x pos) (tVar i) := by
  intro pins s σ H Q I h
  obtain ⟨v, e, h⟩ := h
  obtain ⟨m, hn, hl⟩ := I.loc
  obtain ⟨u, r, l⟩ := hl i x v hN e hv
  have fin : EP X pins σ Q u s := ⟨v, H, I, r, h⟩
  rcases l with ⟨hk, hm⟩ | ⟨hk, c, hc, hcell⟩
  · exact wpAny_Name (wpAny_loadName_local I.ok.kind hk hn hm fin) hd
  · rcases hk with hk | hk
    · exact wpAny_Name (wpAny_loadName_cell I.ok.kind hk hc hcell fin) hd
    · exact wpAny_Name (wpAny_loadName_free I.ok.kind hk hc hcell fin hcd) hd
theorem pe_int {i j pos} : PE X (.Constant (.int i) j pos) (tC (.int i)) := fun _ _ _ H _ I h => wpAny_Constant_int ⟨.int i, H, I.tok _, ⟨_, rfl⟩, h⟩
theorem pe_bl {b j pos} : PE X (.Constant (.bool b) j pos) (tC (.bl b)) := fun _ _ _ H _ I h => Constant_bool ⟨.bl b, H, I, rfl, h⟩
theorem pe_non {j pos} : PE X (.Constant .none j pos) (tC .non) := fun _ _ _ H _ I h => Constant_none ⟨.non, H, I, rfl, h⟩
theorem pe_str {x j pos} : PE X (.Constant (.str x) j pos) (tC (.str x)) := fun _ _ _ H _ I h => Calls.Constant_str ⟨.str x, H, I.tok _, ⟨_, rfl⟩, h⟩

/-- a global name of the def -/
def Gl (X : Cx) (x : Str) : Prop := X.env.kindOf x = some .globalImplicit
theorem ld_glob {E : Value → Shared → Prop} {pins : List (Addr × Obj)} {s : Shared} {σ : St} {H : Hp} {x : Str} {u : Value} {pos : Pos} {Q : Value → Shared → Prop} (I : Inv X pins σ H s) (hg : Gl X x) (hm : X.mg x = some u) (h : Q u s)
    (hd : (x == ("__debug__" : Str)) = false := by decide) : wpAny (model X.prog X.w) X.A (eval (.Name x pos) X.env) Q E s :=
  Calls.Name_function_global I.ok.kind hg (Calls.loadGlobal_global (by rw [I.ok.glob]; exact I.mod.glob.keeps I.bk) hm h) hd
theorem ld_blt {E : Value → Shared → Prop} {pins : List (Addr × Obj)} {s : Shared} {σ : St} {H : Hp} {x : Str} {u : Value} {pos : Pos} {Q : Value → Shared → Prop} (I : Inv X pins σ H s) (hg : Gl X x) (hm : X.mg x = none) (hv : bootBuiltins x = some u) (h : Q u s)
    (hn : x ≠ "__name__" := by decide) (hd : (x == ("__debug__" : Str)) = false := by decide) : wpAny (model X.prog X.w) X.A (eval (.Name x pos) X.env) Q E s := by
  obtain ⟨mb, h1, h2⟩ := I.mod.blt
  exact Calls.Name_function_global I.ok.kind hg (Calls.loadGlobal_builtin (by rw [I.ok.glob]; exact I.mod.glob.keeps I.bk) hm (by rw [I.ok.blt]; exact h1.keeps I.bk) ((h2 x hn).trans hv) h) hd
/-- a module's constant, a class, a function, as a value -/
theorem pe_glob {x : Str} {v : V} {u : Value} {pos : Pos} (hg : Gl X x) (hm : X.mg x = some u) (r : RelV v u) (hd : (x == ("__debug__" : Str)) = false := by decide) : PE X (.Name x pos) (tC v) :=
  fun _ _ _ H _ I h => ld_glob I hg hm ⟨v, H, I, r, h⟩ hd
theorem pe_bltn {x : Str} {v : V} {u : Value} {pos : Pos} (hg : Gl X x) (hm : X.mg x = none) (hv : bootBuiltins x = some u) (r : RelV v u) (hn : x ≠ "__name__" := by decide) (hd : (x == ("__debug__" : Str)) = false := by decide) : PE X (.Name x pos) (tC v) :=
  fun _ _ _ H _ I h => ld_blt I hg hm hv ⟨v, H, I, r, h⟩ hn hd

/-! ### arithmetic -/
/-- two ints -/
def t2I (ta tb : TE) (k : Int → Int → Hp → Prop) : St → Hp → Prop := fun σ H => ta σ H fun x H1 => tb σ H1 fun y H2 => ∃ i j, x = .int i ∧ y = .int j ∧ k i j H2
def tAdd (ta tb : TE) : TE := fun σ H Q => t2I ta tb (fun i j H2 => Q (.int (i + j)) H2) σ H
def tSub (ta tb : TE) : TE := fun σ H Q => t2I ta tb (fun i j H2 => Q (.int (i - j)) H2) σ H
/-- the left factor below 2^64 -/
def tMul (ta tb : TE) : TE := fun σ H Q => t2I ta tb (fun i j H2 => (-(2 ^ 64) < i ∧ i < 2 ^ 64) ∧ Q (.int (i * j)) H2) σ H
variable {a b : Expr} {ta tb : TE} {pos : Pos}
theorem pe_add (ha : PE X a ta) (hb : PE X b tb) : PE X (.BinOp a .Add b pos) (tAdd ta tb) := by
  intro pins s σ H Q I h
  refine wpAny_BinOp (bin ha hb I h fun v u s2 x y H2 I2 rx ry q => ?_)
  obtain ⟨i, j, rfl, rfl, q⟩ := q
  obtain ⟨t, rfl⟩ := rx
  obtain ⟨t', rfl⟩ := ry
  exact add_int ⟨.int _, H2, I2.tok _, ⟨_, rfl⟩, q⟩
theorem pe_sub (ha : PE X a ta) (hb : PE X b tb) : PE X (.BinOp a .Sub b pos) (tSub ta tb) := by
  intro pins s σ H Q I h
  refine wpAny_BinOp (bin ha hb I h fun v u s2 x y H2 I2 rx ry q => ?_)
  obtain ⟨i, j, rfl, rfl, q⟩ := q
  obtain ⟨t, rfl⟩ := rx
  obtain ⟨t', rfl⟩ := ry
  exact sub_int ⟨.int _, H2, I2.tok _, ⟨_, rfl⟩, q⟩
theorem pe_mul (ha : PE X a ta) (hb : PE X b tb) : PE X (.BinOp a .Mult b pos) (tMul ta tb) := by
  intro pins s σ H Q I h
  refine wpAny_BinOp (bin ha hb I h fun v u s2 x y H2 I2 rx ry q => ?_)
  obtain ⟨i, j, rfl, rfl, ⟨q1, q2⟩, q⟩ := q
  obtain ⟨t, rfl⟩ := rx
  obtain ⟨t', rfl⟩ := ry
  exact mul_int ⟨.int _, H2, I2.tok _, ⟨_, rfl⟩, q⟩ (.of_left (intBits_le_64 q1 q2))

/-! ### comparisons -/
def PC (X : Cx) (op : CmpOp) (a b : Expr) (t : TE) : Prop :=
  ∀ (pins : List (Addr × Obj)) (s : Shared) (σ : St) (H : Hp) (Q : VK), Inv X pins σ H s → t σ H Q →
    wpAny (model X.prog X.w) X.A (eval a X.env) (fun v s₁ => wpAny (model X.prog X.w) X.A (eval b X.env) (fun u s₂ => wpAny (model X.prog X.w) X.A (compareOp op v u) (EP X pins σ Q) X.xe s₂) X.xe s₁) X.xe s
theorem nobehind (b : Expr) {op : CmpOp} (h : op ≠ .In) (h2 : op ≠ .NotIn) : behindInMarks op b = false := by
  have e1 : (op == CmpOp.In) = false := by cases op <;> first | rfl | exact absurd rfl h
  have e2 : (op == CmpOp.NotIn) = false := by cases op <;> first | rfl | exact absurd rfl h2
  cases b <;> simp [behindInMarks, e1, e2]
def tCmp (p : Int → Int → Bool) (ta tb : TE) : TE := fun σ H Q => t2I ta tb (fun i j H2 => Q (.bl (p i j)) H2) σ H
abbrev tLt : TE → TE → TE := tCmp fun i j => decide (i < j)
abbrev tLe : TE → TE → TE := tCmp fun i j => decide (i ≤ j)
abbrev tGt : TE → TE → TE := tCmp fun i j => decide (j < i)
abbrev tGe : TE → TE → TE := tCmp fun i j => decide (j ≤ i)
abbrev tEqI : TE → TE → TE := tCmp fun i j => decide (i = j)
abbrev tNeI : TE → TE → TE := tCmp fun i j => !decide (i = j)
/-- a comparison of two ints, by its rule -/
theorem pc_int {op : CmpOp} {p : Int → Int → Bool} (ha : PE X a ta) (hb : PE X b tb)
    (rule : ∀ (i j : Int) (t u : Tok) (Q : Value → Shared → Prop) (s : Shared), Q (.bool (p i j)) s → wpAny (model X.prog X.w) X.A (compareOp op (.int i t) (.int j u)) Q X.xe s) : PC X op a b (tCmp p ta tb) := by
  intro pins s σ H Q I h
  refine bin ha hb I h fun v u s2 x y H2 I2 rx ry q => ?_
  obtain ⟨i, j, rfl, rfl, q⟩ := q
  obtain ⟨t, rfl⟩ := rx
  obtain ⟨t', rfl⟩ := ry
  exact rule i j t t' _ s2 ⟨.bl _, H2, I2, rfl, q⟩
theorem pc_lt (ha : PE X a ta) (hb : PE X b tb) : PC X .Lt a b (tLt ta tb) := pc_int ha hb fun _ _ _ _ _ _ h => lt_int h
theorem pc_le (ha : PE X a ta) (hb : PE X b tb) : PC X .LtE a b (tLe ta tb) := pc_int ha hb fun _ _ _ _ _ _ h => le_int h
theorem pc_gt (ha : PE X a ta) (hb : PE X b tb) : PC X .Gt a b (tGt ta tb) := pc_int ha hb fun _ _ _ _ _ _ h => gt_int h
theorem pc_ge (ha : PE X a ta) (hb : PE X b tb) : PC X .GtE a b (tGe ta tb) := pc_int ha hb fun _ _ _ _ _ _ h => ge_int h
theorem pc_eqI (ha : PE X a ta) (hb : PE X b tb) : PC X .Eq a b (tEqI ta tb) := pc_int ha hb fun _ _ _ _ _ _ h => eq_int (by rw [Bool.beq_eq_decide_eq]; exact h)
theorem pc_neI (ha : PE X a ta) (hb : PE X b tb) : PC X .NotEq a b (tNeI ta tb) := pc_int ha hb fun _ _ _ _ _ _ h => ne_int (by rw [bne, Bool.beq_eq_decide_eq]; exact h)
/-- is None -/
def tIsN (ta : TE) : TE := fun σ H Q => ta σ H fun x H1 => Q (.bl (decide (x = .non))) H1
def tNotN (ta : TE) : TE := fun σ H Q => ta σ H fun x H1 => Q (.bl (!decide (x = .non))) H1
theorem RelV.none_iff {x : V} {v : Value} (r : RelV x v) : (v == Value.none) = decide (x = .non) := by
  cases x with
  | non => cases r; rfl
  | bl _ => cases r; rfl
  | int _ => obtain ⟨t, rfl⟩ := r; rfl
  | str _ => obtain ⟨t, rfl⟩ := r; rfl
  | byt _ => obtain ⟨t, rfl⟩ := r; rfl
  | flt _ => obtain ⟨t, rfl⟩ := r; rfl
  | ref _ => cases r; rfl
  | ty _ => cases r; rfl
theorem pc_isN {j pos'} (ha : PE X a ta) : PC X .Is a (.Constant .none j pos') (tIsN ta) := by
  intro pins s σ H Q I h
  refine thn (ha pins s σ H _ I h) fun v s1 ⟨x, H1, I1, r1, q1⟩ => ?_
  exact Constant_none (is_none_gen ⟨.bl _, H1, I1, by rw [r1.none_iff]; rfl, q1⟩)
theorem pc_notN {j pos'} (ha : PE X a ta) : PC X .IsNot a (.Constant .none j pos') (tNotN ta) := by
  intro pins s σ H Q I h
  refine thn (ha pins s σ H _ I h) fun v s1 ⟨x, H1, I1, r1, q1⟩ => ?_
  exact Constant_none (isnot_none_gen ⟨.bl _, H1, I1, by rw [r1.none_iff]; rfl, q1⟩)
/-- a comparison as a value, as a test -/
def tB (t : TE) : TT := fun σ H Q => t σ H fun x H1 => ∃ c, x = .bl c ∧ Q c H1
theorem pe_cmp {op : CmpOp} {t : TE} (h : PC X op a b t) (h1 : behindInMarks op b = false := by first | exact nobehind _ (by decide) (by decide) | rfl) : PE X (.Compare a [op] [b] pos) t := fun pins s σ H Q I hw => wpAny_Compare1 (h pins s σ H Q I hw) h1
theorem pt_cmp {op : CmpOp} {t : TE} (h : PC X op a b t) (h1 : behindInMarks op b = false := by first | exact nobehind _ (by decide) (by decide) | rfl) : PT X (.Compare a [op] [b] pos) (tB t) := by
  intro pins s σ H Q I hw
  refine wpAny_isTrue_Compare1 (thn (h pins s σ H _ I hw) fun v s1 h1 => thn h1 fun u s2 h2 => thn h2 fun c s3 ⟨x, H1, I1, r1, q1⟩ => ?_) h1
  obtain ⟨d, rfl, q⟩ := q1
  cases r1
  exact wpAny_truthy_bool ⟨H1, I1, q⟩
/-- an expression whose value is a bool, as a test -/
theorem pt_val {e : Expr} {t : TE} (h : PE X e t) (he : ∀ whole, isTrue e X.env whole = (do let v ← whole; standAt e.pos; holding [v] (truthy v)) := by intro _; rfl) : PT X e (tB t) := by
  intro pins s σ H Q I hw
  refine isTrue_plain (thn (h pins s σ H _ I hw) fun v s1 ⟨x, H1, I1, r1, q1⟩ => ?_) (he _)
  obtain ⟨d, rfl, q⟩ := q1
  cases r1
  exact wpAny_truthy_bool ⟨H1, I1, q⟩

/-! ### and, or, not -/
variable {tA tB' : TT} {rest : List Expr}
def tAnd (t u : TT) : TT := fun σ H Q => t σ H fun c H1 => if c = true then u σ H1 Q else Q false H1
def tOr (t u : TT) : TT := fun σ H Q => t σ H fun c H1 => if c = true then Q true H1 else u σ H1 Q
def tNot (t : TT) : TT := fun σ H Q => t σ H fun c H1 => Q (!c) H1
theorem pw_and1 (ha : PT X a tA) : PW X (.BoolOp .And [a] pos) tA := by
  intro wh pins s σ H Q I h
  refine isTrue_and (thn (ha pins s σ H Q I h) fun c s1 e => ?_)
  cases c with
  | true => exact isTrue_and_nil e
  | false => exact e
theorem pw_or1 (ha : PT X a tA) : PW X (.BoolOp .Or [a] pos) tA := by
  intro wh pins s σ H Q I h
  refine isTrue_or (thn (ha pins s σ H Q I h) fun c s1 e => ?_)
  cases c with
  | false => exact isTrue_or_nil e
  | true => exact e
theorem pw_and (ha : PT X a tA) (hb : PW X (.BoolOp .And (b :: rest) pos) tB') : PW X (.BoolOp .And (a :: b :: rest) pos) (tAnd tA tB') := by
  intro wh pins s σ H Q I h
  refine isTrue_and (thn (ha pins s σ H _ I h) fun c s1 ⟨H1, I1, q1⟩ => ?_)
  cases c with
  | true => exact hb wh pins s1 σ H1 Q I1 q1
  | false => exact ⟨H1, I1, q1⟩
theorem pw_or (ha : PT X a tA) (hb : PW X (.BoolOp .Or (b :: rest) pos) tB') : PW X (.BoolOp .Or (a :: b :: rest) pos) (tOr tA tB') := by
  intro wh pins s σ H Q I h
  refine isTrue_or (thn (ha pins s σ H _ I h) fun c s1 ⟨H1, I1, q1⟩ => ?_)
  cases c with
  | true => exact ⟨H1, I1, q1⟩
  | false => exact hb wh pins s1 σ H1 Q I1 q1
theorem pt_not (ha : PT X a tA) : PT X (.UnaryOp .Not a pos) (tNot tA) := by
  intro pins s σ H Q I h
  exact isTrue_not (ha pins s σ H (fun c H1 => Q (!c) H1) I h)
/-- .. as values (bools) -/
def tAndV (ta tb : TE) : TE := fun σ H Q => ta σ H fun x H1 => ∃ c, x = .bl c ∧ if c = true then tb σ H1 Q else Q (.bl false) H1
def tOrV (ta tb : TE) : TE := fun σ H Q => ta σ H fun x H1 => ∃ c, x = .bl c ∧ if c = true then Q (.bl true) H1 else tb σ H1 Q
def tNotV (ta : TE) : TE := fun σ H Q => ta σ H fun x H1 => ∃ c, x = .bl c ∧ Q (.bl (!c)) H1
theorem pe_one {op} {t : TE} (h : PE X a t) : PE X (.BoolOp op [a] pos) t := fun pins s σ H Q I hw => BoolOp_one (h pins s σ H Q I hw)
theorem pe_and (ha : PE X a ta) (hb : PE X (.BoolOp .And (b :: rest) pos) tb) : PE X (.BoolOp .And (a :: b :: rest) pos) (tAndV ta tb) := by
  intro pins s σ H Q I h
  refine BoolOp_and (thn (ha pins s σ H _ I h) fun v s1 ⟨x, H1, I1, r1, q1⟩ => ?_)
  obtain ⟨c, rfl, q1⟩ := q1
  cases r1
  refine wpAny_truthy_bool ?_
  cases c with
  | true => exact hb pins s1 σ H1 Q I1 q1
  | false => exact ⟨.bl false, H1, I1, rfl, q1⟩
theorem pe_or (ha : PE X a ta) (hb : PE X (.BoolOp .Or (b :: rest) pos) tb) : PE X (.BoolOp .Or (a :: b :: rest) pos) (tOrV ta tb) := by
  intro pins s σ H Q I h
  refine BoolOp_or (thn (ha pins s σ H _ I h) fun v s1 ⟨x, H1, I1, r1, q1⟩ => ?_)
  obtain ⟨c, rfl, q1⟩ := q1
  cases r1
  refine wpAny_truthy_bool ?_
  cases c with
  | false => exact hb pins s1 σ H1 Q I1 q1
  | true => exact ⟨.bl true, H1, I1, rfl, q1⟩
theorem pe_not (ha : PE X a ta) : PE X (.UnaryOp .Not a pos) (tNotV ta) := by
  intro pins s σ H Q I h
  refine UnaryOp_ (thn (ha pins s σ H _ I h) fun v s1 ⟨x, H1, I1, r1, q1⟩ => ?_)
  obtain ⟨c, rfl, q1⟩ := q1
  cases r1
  exact not_of (wpAny_truthy_bool ⟨.bl (!c), H1, I1, rfl, q1⟩)
/-- a if t else b -/
def tIf (t : TT) (ta tb : TE) : TE := fun σ H Q => t σ H fun c H1 => if c = true then ta σ H1 Q else tb σ H1 Q
theorem pe_ifExp {c : Expr} (hc : PT X c tA) (ha : PE X a ta) (hb : PE X b tb) : PE X (.IfExp c a b pos) (tIf tA ta tb) := by
  intro pins s σ H Q I h
  refine wpAny_IfExp (thn (hc pins s σ H _ I h) fun d s1 ⟨H1, I1, q1⟩ => ?_)
  cases d with
  | true => exact ha pins s1 σ H1 Q I1 q1
  | false => exact hb pins s1 σ H1 Q I1 q1
end
end L2

namespace L2
open PySem PySem.Spec PyProof.Rows

/-! ### a list, a tuple that is read: tracked, frozen, or an object of the module -/
def SqL (K : PySem.W.Frag) (H : Hp) (a : Addr) (xs : List V) : Prop :=
  Rd H a (.lst xs) ∨
    ∃ (o : Obj) (its : Array Value) (n : Nat), K.lookup a = some o ∧ o.cls = .type "list" ∧ o.dict = none ∧ o.data = .seq its n ∧ its.size ≤ sizeLine ∧ Vals xs its.toList
def SqT (K : PySem.W.Frag) (H : Hp) (a : Addr) (xs : List V) : Prop :=
  Rd H a (.tup xs) ∨
    ∃ (o : Obj) (its : Array Value) (n : Nat), K.lookup a = some o ∧ o.cls = .type "tuple" ∧ o.data = .seq its n ∧ its.size ≤ sizeLine ∧ Vals xs its.toList
def absV : Value → Option V
  | .none => some .non
  | .bool b => some (.bl b)
  | .int i _ => some (.int i)
  | .str x _ => some (.str x)
  | .bytes b _ => some (.byt b)
  | .float b _ => some (.flt b)
  | .ref a => some (.ref a)
  | .type n => some (.ty n)
  | _ => none
theorem RelV.abs {x : V} {u : Value} (r : RelV x u) : absV u = some x := by
  cases x with
  | non => cases r; rfl
  | bl _ => cases r; rfl
  | int _ => obtain ⟨t, rfl⟩ := r; rfl
  | str _ => obtain ⟨t, rfl⟩ := r; rfl
  | byt _ => obtain ⟨t, rfl⟩ := r; rfl
  | flt _ => obtain ⟨t, rfl⟩ := r; rfl
  | ref _ => cases r; rfl
  | ty _ => cases r; rfl
theorem RelV.inj {x y : V} {u : Value} (r : RelV x u) (q : RelV y u) : x = y := Option.some.inj (r.abs.symm.trans q.abs)
theorem Vals.inj : ∀ {xs ys : List V} {us : List Value}, Vals xs us → Vals ys us → xs = ys
  | _, _, _, .nil, .nil => rfl
  | _, _, _, .cons r t, .cons r' t' => by rw [r.inj r', Vals.inj t t']
section
variable {X : Cx} {pins : List (Addr × Obj)} {σ : St} {H : Hp} {s : Shared} {a : Addr} {xs ys : List V}
theorem SqL.of {K : PySem.W.Frag} (h : H a = some (.lst xs)) : SqL K H a xs := .inl (.inl h)
theorem SqT.of {K : PySem.W.Frag} (h : H a = some (.tup xs)) : SqT K H a xs := .inl (.inl h)
theorem Inv.list (I : Inv X pins σ H s) (h : SqL X.K H a xs) : ∃ its : List Value, Vals xs its ∧ PlainL s.heap a its.toArray ∧ xs.length ≤ sizeLine := by
  rcases h with h | ⟨o, its, n, hk, hc, hd, hs, hz, r⟩
  · obtain ⟨z, its, n, r, e⟩ := h.ok I.hok
    exact ⟨its, r, ⟨_, n, e, rfl, rfl, rfl⟩, z⟩
  · refine ⟨its.toList, r, ⟨o, n, I.kIn a o hk, hc, hd, by simpa using hs⟩, ?_⟩
    have e := r.length
    simp only [Array.length_toList] at e
    omega
theorem Inv.tuple (I : Inv X pins σ H s) (h : SqT X.K H a xs) : ∃ its : List Value, Vals xs its ∧ IsTup s.heap a its.toArray ∧ xs.length ≤ sizeLine := by
  rcases h with h | ⟨o, its, n, hk, hc, hs, hz, r⟩
  · obtain ⟨z, its, r, p⟩ := h.ok I.hok
    exact ⟨its, r, p, z⟩
  · refine ⟨its.toList, r, ⟨o, I.kIn a o hk, hc, n, by simpa using hs⟩, ?_⟩
    have e := r.length
    simp only [Array.length_toList] at e
    omega
theorem Inv.list_inj (I : Inv X pins σ H s) (h : SqL X.K H a xs) (h' : SqL X.K H a ys) : xs = ys := by
  obtain ⟨its, r, ⟨o, n, e, _, _, d⟩, _⟩ := I.list h
  obtain ⟨its', r', ⟨o', n', e', _, _, d'⟩, _⟩ := I.list h'
  rw [e] at e'; cases e'
  rw [d] at d'
  injection d' with d1 _
  have : its = its' := by simpa using congrArg Array.toList d1
  subst this
  exact r.inj r'
theorem Inv.tuple_inj (I : Inv X pins σ H s) (h : SqT X.K H a xs) (h' : SqT X.K H a ys) : xs = ys := by
  obtain ⟨its, r, ⟨o, e, _, n, d⟩, _⟩ := I.tuple h
  obtain ⟨its', r', ⟨o', e', _, n', d'⟩, _⟩ := I.tuple h'
  rw [e] at e'; cases e'
  rw [d] at d'
  injection d' with d1 _
  have : its = its' := by simpa using congrArg Array.toList d1
  subst this
  exact r.inj r'
end

/-! ### another wish about exceptions -/
abbrev Cx.wish (X : Cx) (E : Value → Shared → Prop) : Cx := { X with xe := E }
/-- no exception leaves -/
abbrev Cx.nox (X : Cx) : Cx := X.wish fun _ _ => False
theorem Cx.Ok.wish {X : Cx} (ok : X.Ok) (E : Value → Shared → Prop) : (X.wish E).Ok :=
  ⟨ok.mod, ok.kind, ok.glob, ok.blt, ok.above, ok.inj, ok.has, ok.cab, ok.hd, ok.frames, ok.stk, ok.exf, ok.bs, ok.bsz, ok.noex, ok.exfs, ok.funs, ok.frf⟩
theorem Cx.Ok.unwish {X : Cx} {E : Value → Shared → Prop} (ok : (X.wish E).Ok) : X.Ok :=
  ⟨ok.mod, ok.kind, ok.glob, ok.blt, ok.above, ok.inj, ok.has, ok.cab, ok.hd, ok.frames, ok.stk, ok.exf, ok.bs, ok.bsz, ok.noex, ok.exfs, ok.funs, ok.frf⟩
section
variable {X : Cx} {pins : List (Addr × Obj)} {σ : St} {H : Hp} {s : Shared} {E : Value → Shared → Prop}
theorem Inv.wish (I : Inv X pins σ H s) (E : Value → Shared → Prop) : Inv (X.wish E) pins σ H s := ⟨I.ok.wish E, I.os, I.bare, I.base, I.loc, I.cell, I.free, I.freeC, I.pin, I.hok, I.len⟩
theorem Inv.unwish (I : Inv (X.wish E) pins σ H s) : Inv X pins σ H s := ⟨I.ok.unwish, I.os, I.bare, I.base, I.loc, I.cell, I.free, I.freeC, I.pin, I.hok, I.len⟩
theorem SP.unwish {D : Ends} {f : Flow} {s' : Shared} (h : SP (X.wish E) pins D f s') : SP X pins D f s' := by
  cases f with
  | next => obtain ⟨σ', H', I, q⟩ := h; exact ⟨σ', H', I.unwish, q⟩
  | brk => obtain ⟨σ', H', I, q⟩ := h; exact ⟨σ', H', I.unwish, q⟩
  | cont => obtain ⟨σ', H', I, q⟩ := h; exact ⟨σ', H', I.unwish, q⟩
  | ret u => obtain ⟨v, σ', H', I, r, q⟩ := h; exact ⟨v, σ', H', I.unwish, r, q⟩
theorem PE.nox {e : Expr} {t : TE} (h : PE X.nox e t) : PE X e t := fun pins s σ H Q I hw =>
  wpAny_mono (h pins s σ H Q (I.wish _) hw) (fun _ _ ⟨v, H', I', r, q⟩ => ⟨v, H', I'.unwish, r, q⟩) fun _ _ z => False.elim z
theorem PT.nox {e : Expr} {t : TT} (h : PT X.nox e t) : PT X e t := fun pins s σ H Q I hw =>
  wpAny_mono (h pins s σ H Q (I.wish _) hw) (fun _ _ ⟨H', I', q⟩ => ⟨H', I'.unwish, q⟩) fun _ _ z => False.elim z
theorem PSs.nox {st : List Stmt} {t : TS} (h : PSs X.nox st t) : PSs X st t := fun pins s σ H D I hw =>
  wpAny_mono (h pins s σ H D (I.wish _) hw) (fun _ _ q => q.unwish) fun _ _ z => False.elim z
end

/-! ### blocks and small statements -/
section
variable {X : Cx} {st : Stmt} {rest : List Stmt} {t u : TS} {e : Expr} {te : TE} {pos : Pos}
def tNext : TS := fun D σ H => D.nx σ H
def tSeq (t u : TS) : TS := fun D σ H => t { D with nx := u D } σ H
theorem pss_nil : PSs X [] tNext := fun _ _ σ H _ I h => wpAny_execs_nil ⟨σ, H, I, h⟩
theorem pss_cons (h1 : PS X st t) (h2 : PSs X rest u) : PSs X (st :: rest) (tSeq t u) := by
  intro pins s σ H D I h
  refine wpAny_execs_cons (thn (h1 pins s σ H { D with nx := u D } I h) fun f s1 q => ?_)
  cases f with
  | next =>
    obtain ⟨σ', H', I', q⟩ := q
    exact h2 pins s1 σ' H' D I' q
  | ret v => exact q
  | brk => exact q
  | cont => exact q
theorem pss_one (h1 : PS X st t) : PSs X [st] t := by
  intro pins s σ H D I h
  refine wpAny_execs_cons (thn (h1 pins s σ H D I h) fun f s1 q => ?_)
  cases f with
  | next => exact wpAny_execs_nil q
  | ret v => exact q
  | brk => exact q
  | cont => exact q
def tBreak : TS := fun D σ H => D.bk σ H
def tCont : TS := fun D σ H => D.ct σ H
theorem ps_pass : PS X (.Pass pos) tNext := fun _ _ σ H _ I h => wpAny_Pass ⟨σ, H, I, h⟩
theorem ps_break : PS X (.Break pos) tBreak := fun _ _ σ H _ I h => wpAny_Break ⟨σ, H, I, h⟩
theorem ps_continue : PS X (.Continue pos) tCont := fun _ _ σ H _ I h => wpAny_Continue ⟨σ, H, I, h⟩
/-- in a def's body nothing is shown -/
theorem Inv.quiet {pins : List (Addr × Obj)} {σ : St} {H : Hp} {s : Shared} (I : Inv X pins σ H s) : interactive X.env = false := by simp [interactive, I.ok.kind]
/-- a docstring -/
theorem ps_doc {x j pos pos'} : PS X (.Expr (.Constant (.str x) j pos) pos') tNext := fun _ s σ H _ I h => wpAny_Expr (Calls.Constant_str (show SP X _ _ .next { s with toks := s.toks + 1 } from ⟨σ, H, I.tok _, h⟩)) I.quiet
/-- an expression whose value is dropped -/
def tDrop (te : TE) : TS := fun D σ H => te σ H fun _ H1 => D.nx σ H1
theorem ps_expr (he : PE X e te) (hs : swapsWith e none pos.line X.env = pure false := by rfl) : PS X (.Expr e pos) (tDrop te) := by
  intro pins s σ H D I h
  exact wpAny_Expr_any (thn (he pins s σ H _ I h) fun v s1 ⟨x, H1, I1, r1, q1⟩ => ⟨σ, H1, I1, q1⟩) I.quiet hs
def tRet (te : TE) : TS := fun D σ H => te σ H D.rt
theorem ps_ret (he : PE X e te) : PS X (.Return (some e) pos) (tRet te) := by
  intro pins s σ H D I h
  exact wpAny_Return_some (thn (he pins s σ H _ I h) fun v s1 ⟨x, H1, I1, r1, q1⟩ => ⟨x, σ, H1, I1, r1, q1⟩)
def tRetN : TS := fun D _ H => D.rt .non H
theorem ps_retN : PS X (.Return none pos) tRetN := fun _ _ σ H _ I h => wpAny_Return_none ⟨.non, σ, H, I, rfl, h⟩
def tIfS (c : TT) (t u : TS) : TS := fun D σ H => c σ H fun b H1 => if b = true then t D σ H1 else u D σ H1
theorem ps_if {c : Expr} {a b : List Stmt} {tc : TT} (hc : PT X c tc) (ha : PSs X a t) (hb : PSs X b u) : PS X (.If c a b pos) (tIfS tc t u) := by
  intro pins s σ H D I h
  refine wpAny_If (thn (hc pins s σ H _ I h) fun d s1 ⟨H1, I1, q1⟩ => ?_)
  cases d with
  | true => exact ha pins s1 σ H1 D I1 q1
  | false => exact hb pins s1 σ H1 D I1 q1
/-- code that the proof never comes to -/
def tNever : TS := fun _ _ _ => False
theorem ps_never : PS X st tNever := fun _ _ _ _ _ _ h => h.elim
theorem pss_never {sts : List Stmt} : PSs X sts tNever := fun _ _ _ _ _ _ h => h.elim
end

/-! ### targets -/
abbrev TG := V → St → Hp → (St → Hp → Prop) → Prop
abbrev TGs := List V → St → Hp → (St → Hp → Prop) → Prop
def PG (X : Cx) (target : Expr) (t : TG) : Prop :=
  ∀ (pins : List (Addr × Obj)) (s : Shared) (σ : St) (H : Hp) (v : V) (u : Value) (Q : St → Hp → Prop), Inv X pins σ H s → RelV v u → t v σ H Q →
    wpAny (model X.prog X.w) X.A (assign target X.env u) (fun _ s' => ∃ σ' H', Inv X pins σ' H' s' ∧ Q σ' H') X.xe s
/-- several targets, one after another -/
def PGs (X : Cx) (ts : List Expr) (t : TGs) : Prop :=
  ∀ (pins : List (Addr × Obj)) (s : Shared) (σ : St) (H : Hp) (vs : List V) (us : List Value) (Q : St → Hp → Prop), Inv X pins σ H s → Vals vs us → t vs σ H Q →
    wpAny (model X.prog X.w) X.A (assignInOrder ((assignEach ts X.env).map (·.2)) us) (fun _ s' => ∃ σ' H', Inv X pins σ' H' s' ∧ Q σ' H') X.xe s
/-- o[i] = v, by values -/
abbrev TSet := V → V → V → Hp → (Hp → Prop) → Prop
def PSet (X : Cx) (t : TSet) : Prop :=
  ∀ (pins : List (Addr × Obj)) (s : Shared) (σ : St) (H : Hp) (o i v : V) (ov iv u : Value) (Q : Hp → Prop), Inv X pins σ H s → RelV o ov → RelV i iv → RelV v u → t o i v H Q →
    wpAny (model X.prog X.w) X.A (setItem ov iv u) (fun _ s' => ∃ H', Inv X pins σ H' s' ∧ Q H') X.xe s
/-- a op= b, by values -/
abbrev TIp := V → V → Hp → VK → Prop
def PIp (X : Cx) (op : Operator) (t : TIp) : Prop :=
  ∀ (pins : List (Addr × Obj)) (s : Shared) (σ : St) (H : Hp) (x y : V) (v u : Value) (Q : VK), Inv X pins σ H s → RelV x v → RelV y u → t x y H Q →
    wpAny (model X.prog X.w) X.A (inplaceOp op v u) (EP X pins σ Q) X.xe s
section
variable {X : Cx} {pos : Pos}
def gName (i : Nat) : TG := fun v σ H Q => Q (σ.set i (some v)) H
theorem pg_name {i : Nat} {x : Str} (hN : X.N.Nodup) (hi : X.N[i]? = some x) (hx : Loc X.env.scope x) (hf : X.fn x = true ∨ X.env.scope.names.lookup x = some .local := by first | exact .inl rfl | exact .inr rfl | assumption) : PG X (.Name x pos) (gName i) := by
  intro pins s σ H v u Q I r h
  exact wpAny_assign_Name (store_ok I hN hi hx r (fun s' I' => ⟨_, H, I', h⟩) hf)
def gNil : TGs := fun vs σ H Q => vs = [] ∧ Q σ H
def gCons (t : TG) (u : TGs) : TGs := fun vs σ H Q => ∃ v r, vs = v :: r ∧ t v σ H fun σ' H' => u r σ' H' Q
theorem pgs_nil : PGs X [] gNil := by
  intro pins s σ H vs us Q I r h
  obtain ⟨e, h⟩ := h
  subst e
  cases r
  exact assignInOrder_nil ⟨σ, H, I, h⟩
theorem pgs_cons {e : Expr} {es : List Expr} {t : TG} {u : TGs} (h1 : PG X e t) (h2 : PGs X es u)
    (hs : (assignEach (e :: es) X.env).map (·.2) = assign e X.env :: (assignEach es X.env).map (·.2) := by rfl) : PGs X (e :: es) (gCons t u) := by
  intro pins s σ H vs us Q I r h
  obtain ⟨v, vr, e1, h⟩ := h
  subst e1
  cases r with
  | cons r rr =>
    rw [hs]
    refine assignInOrder_cons (thn (h1 pins s σ H _ _ _ I r h) fun _ s1 ⟨σ1, H1, I1, q1⟩ => ?_)
    exact h2 pins s1 σ1 H1 _ _ Q I1 rr q1
/-- (a, b, ..) = a tuple of that length -/
def gTup (K : PySem.W.Frag) (n : Nat) (t : TGs) : TG := fun v σ H Q => ∃ a xs, v = .ref a ∧ SqT K H a xs ∧ xs.length = n ∧ t xs σ H Q
theorem pg_tup {es : List Expr} {k : Nat} {t : TGs} {n : Nat} (hc : X.calm = true) (h : PGs X es t)
    (hn : (assignEach es X.env).length = n := by rfl) (hst : (assignEach es X.env).findIdx? (·.1) = none := by rfl) : PG X (.Tuple es k pos) (gTup X.K n t) := by
  intro pins s σ H v u Q I r hw
  obtain ⟨a, xs, e1, hq, hl, hw⟩ := hw
  subst e1
  cases r
  obtain ⟨its, rv, ht, hz⟩ := I.tuple hq
  refine assign_Tuple_tuple (I.ok.hd hc) ht (by simp [hn, ← hl, rv.length]) hst fun h' hx => ?_
  have I1 : Inv X pins σ H { s with heap := h' } := I.kept (t' := s.toks) fun b o e => hx b o (Nat.ne_of_lt (Heap.lt_size e)) e
  exact h pins _ σ H xs _ Q I1 (by simpa using rv) hw
/-- o[i] = .. -/
def gSub (to ti : TE) (t : TSet) : TG := fun v σ H Q => to σ H fun o H1 => ti σ H1 fun i H2 => t o i v H2 fun H3 => Q σ H3
theorem pg_sub {o i : Expr} {to ti : TE} {t : TSet} (ho : PE X o to) (hi : PE X i ti) (hs : PSet X t)
    (ha : ∀ v, assign (.Subscript o i pos) X.env v = (do
      let ov ← holding [v] (eval o X.env)
      let iv ← holding [v, ov] (eval i X.env)
      standAt pos
      holding [v, ov, iv] (setItem ov iv v)
      release [v, ov, iv] []) := by intro _; rfl) : PG X (.Subscript o i pos) (gSub to ti t) := by
  intro pins s σ H v u Q I r h
  rw [ha]
  refine wpAny_bind (wpAny_holding (thn (ho pins s σ H _ I h) fun ov s1 ⟨x, H1, I1, r1, q1⟩ => ?_))
  refine wpAny_bind (wpAny_holding (thn (hi pins s1 σ H1 _ I1 q1) fun iv s2 ⟨y, H2, I2, r2, q2⟩ => ?_))
  refine wpAny_bind (wpAny_standAt (wpAny_bind (wpAny_holding (thn (hs pins s2 σ H2 x y v ov iv u _ I2 r1 r2 r q2) fun _ s3 ⟨H3, I3, q3⟩ => ?_))))
  exact wpAny_release ⟨σ, H3, I3, q3⟩
/-- target = value -/
def tAsg (te : TE) (g : TG) : TS := fun D σ H => te σ H fun x H1 => g x σ H1 D.nx
theorem ps_asg {tg e : Expr} {te : TE} {g : TG} (he : PE X e te) (hg : PG X tg g) (hs : swapsWithSole [tg] e pos.line X.env = pure false := by rfl) (hw : swappedStores [tg] e X.env = pure none := by rfl)
    (h1 : (assignEach [tg] X.env).map (·.2) = [assign tg X.env] := by rfl) : PS X (.Assign [tg] e pos) (tAsg te g) := by
  intro pins s σ H D I h
  refine wpAny_Assign_stores (thn (he pins s σ H _ I h) fun v s1 ⟨x, H1, I1, r1, q1⟩ => ?_) hs hw
  rw [h1]
  exact thn (hg pins s1 σ H1 x v _ I1 r1 q1) fun _ s2 q => q
/-- name = value -/
theorem ps_set {i : Nat} {x : Str} {e : Expr} {te : TE} {pos' : Pos} (hN : X.N.Nodup) (hi : X.N[i]? = some x) (hx : Loc X.env.scope x) (he : PE X e te) (hs : swapsWith e (some (.Name x pos')) pos.line X.env = pure false := by rfl) (hf : X.fn x = true ∨ X.env.scope.names.lookup x = some .local := by first | exact .inl rfl | exact .inr rfl | assumption) :
    PS X (.Assign [.Name x pos'] e pos) (tAsg te (gName i)) := by
  intro pins s σ H D I h
  refine wpAny_Assign_Name (thn (he pins s σ H _ I h) fun v s1 ⟨y, H1, I1, r1, q1⟩ => ?_) hs
  exact store_ok I1 hN hi hx r1 (fun s2 I2 => ⟨_, H1, I2, q1⟩) hf
/-- a, b = x, y with plain local names: stored from the right; the pair itself is not tracked (the opening rows as in PyProof/Rows/TupAssign.lean:23) -/
def tPar (i j : Nat) (ta : TA) : TS := fun D σ H => ta σ H fun vs H1 => ∃ v w, vs = [v, w] ∧ D.nx ((σ.set i (some v)).set j (some w)) H1
theorem ps_par {i j : Nat} {x y : Str} {a b : Expr} {ta : TA} {px py pt : Pos} {kt k2 pt2} (hc : X.calm = true) (hN : X.N.Nodup) (hi : X.N[i]? = some x) (hj : X.N[j]? = some y) (hij : i ≠ j)
    (hx : X.env.scope.names.lookup x = some .local) (hy : X.env.scope.names.lookup y = some .local) (ha : PA X [a, b] ta)
    (hw : swappedStores [.Tuple [.Name x px, .Name y py] kt pt] (.Tuple [a, b] k2 pt2) X.env = pure (some [x, y]))
    (hs : swapsWithSole [.Tuple [.Name x px, .Name y py] kt pt] (.Tuple [a, b] k2 pt2) pos.line X.env = pure false := by rfl) :
    PS X (.Assign [.Tuple [.Name x px, .Name y py] kt pt] (.Tuple [a, b] k2 pt2) pos) (tPar i j ta) := by
  intro pins s σ H D I h
  rw [exec_Assign_arm]
  refine wpAny_bind (wpAny_standAt ?_)
  rw [hs]
  refine wpAny_bind (wpAny_pure ?_)
  rw [if_neg (by decide)]
  refine wpAny_bind (Tuple_ (thn (ha _ pins s σ H _ I h) fun us s1 ⟨vs, H1, I1, r1, q1⟩ => ?_))
  obtain ⟨v, w, e1, q1⟩ := q1
  subst e1
  obtain ⟨u1, u2, rfl, rv, rw'⟩ : ∃ u1 u2, us = [u1, u2] ∧ RelV v u1 ∧ RelV w u2 := by
    cases r1 with
    | cons p q =>
      cases q with
      | cons p' q' =>
        cases q'
        exact ⟨_, _, rfl, p, p'⟩
  refine wpAny_newObj_type ?_ (by show 2 ≤ sizeLine; decide)
  have I2 : Inv X pins σ H1 { s1 with heap := s1.heap.push { cls := .type "tuple", data := .seq [u1, u2].toArray } } := I1.kept (t' := s1.toks) fun b o e => Heap.get?_push_of_some _ e
  rw [hw]
  refine wpAny_bind (wpAny_pure ?_)
  show wpAny (model X.prog X.w) X.A (do rule "assign.swapped-stores"; let items ← unpackItems (.ref s1.heap.objs.size) 2 none; assignInOrder [fun v => bindName X.env y v, fun v => bindName X.env x v] items.reverse; pure Flow.next) _ _ _
  refine wpAny_bind (wpAny_rule (wpAny_bind (unpackItems_tuple (items := #[u1, u2]) (I.ok.hd hc) (IsTup.new s1.heap _) fun h' hx' => ?_)))
  have I3 := I2.kept (h' := h') (t' := s1.toks) fun b o e => hx' b o (Nat.ne_of_lt (Heap.lt_size e)) e
  show wpAny _ _ (assignInOrder [fun v => bindName X.env y v, fun v => bindName X.env x v] [u2, u1] >>= fun _ => pure Flow.next) _ _ _
  refine wpAny_bind (assignInOrder_cons (wpAny_bindName (store_ok I3 hN hj (.inl hy) rw' (fun s2 I4 => ?_) (.inr hy))))
  refine assignInOrder_cons (wpAny_bindName (store_ok I4 hN hi (.inl hx) rv (fun s3 I5 => assignInOrder_nil (wpAny_pure ?_)) (.inr hx)))
  rw [List.set_comm _ _ (Ne.symm hij)] at I5
  exact ⟨_, H1, I5, q1⟩
/-- name op= e -/
def tAug (i : Nat) (te : TE) (ti : TIp) : TS := fun D σ H => ∃ x, σ[i]? = some (some x) ∧ te σ H fun y H1 => ti x y H1 fun z H2 => D.nx (σ.set i (some z)) H2
theorem ps_aug {i : Nat} {x : Str} {e : Expr} {te : TE} {op : Operator} {ti : TIp} {pos' : Pos} (hN : X.N.Nodup) (hi : X.N[i]? = some x) (hx : Loc X.env.scope x) (he : PE X e te) (ho : PIp X op ti) (hf : X.fn x = true ∨ X.env.scope.names.lookup x = some .local := by first | exact .inl rfl | exact .inr rfl | assumption) :
    PS X (.AugAssign (.Name x pos') op e pos) (tAug i te ti) := by
  intro pins s σ H D I h
  obtain ⟨v, e1, h⟩ := h
  obtain ⟨m, hn, hl⟩ := I.loc
  have vis : Vis X.env.scope x := by rcases hx with k | k; exact .inl k; exact .inr (.inl k)
  obtain ⟨u, r, l⟩ := hl i x v hi e1 vis
  refine wpAny_AugAssign_Name ?_
  have go : wpAny (model X.prog X.w) X.A (eval e X.env) (fun w s₂ => wpAny (model X.prog X.w) X.A (inplaceOp op u w) (fun r s₃ => wpAny (model X.prog X.w) X.A (storeName X.env x r) (fun _ => SP X pins D .next) X.xe s₃) X.xe s₂) X.xe s := by
    refine thn (he pins s σ H _ I h) fun w s1 ⟨y, H1, I1, r1, q1⟩ => ?_
    refine thn (ho pins s1 σ H1 v y u w _ I1 r r1 q1) fun z s2 ⟨zv, H2, I2, r2, q2⟩ => ?_
    exact store_ok I2 hN hi hx r2 (fun s3 I3 => ⟨_, H2, I3, q2⟩) hf
  rcases l with ⟨hk, hm⟩ | ⟨hk, c, hc, hcell⟩
  · exact wpAny_loadName_local I.ok.kind hk hn hm go
  · rcases hk with hk | hk
    · exact wpAny_loadName_cell I.ok.kind hk hc hcell go
    · rcases hx with k | k
      · have : X.env.scope.names.lookup x = some .free := hk
        rw [k] at this; cases this
      · have : X.env.scope.names.lookup x = some .free := hk
        rw [k] at this; cases this
/-- o[i] op= e -/
def tAugS (to ti te : TE) (tget : V → V → Hp → VK → Prop) (tip : TIp) (tset : TSet) : TS := fun D σ H => to σ H fun o H1 => ti σ H1 fun i H2 => tget o i H2 fun x H3 => te σ H3 fun y H4 => tip x y H4 fun z H5 => tset o i z H5 fun H6 => D.nx σ H6
/-- o[i], by values -/
def PGet (X : Cx) (t : V → V → Hp → VK → Prop) : Prop :=
  ∀ (pins : List (Addr × Obj)) (s : Shared) (σ : St) (H : Hp) (o i : V) (ov iv : Value) (Q : VK), Inv X pins σ H s → RelV o ov → RelV i iv → t o i H Q →
    wpAny (model X.prog X.w) X.A (getItem ov iv) (EP X pins σ Q) X.xe s
theorem ps_augS {o i e : Expr} {to ti te : TE} {tget : V → V → Hp → VK → Prop} {tip : TIp} {tset : TSet} {op : Operator} {tpos : Pos} (ho : PE X o to) (hi : PE X i ti) (hg : PGet X tget) (he : PE X e te) (hp : PIp X op tip) (hs : PSet X tset)
    (ha : ∀ ov iv new, augStore i ov iv new = (do holding [new, ov, iv] (setItem ov iv new); release [new, ov, iv] []; pure .next) := by intros; rfl) : PS X (.AugAssign (.Subscript o i tpos) op e pos) (tAugS to ti te tget tip tset) := by
  intro pins s σ H D I h
  refine wpAny_AugAssign_SubscriptAny (thn (ho pins s σ H _ I h) fun ov s1 ⟨x1, H1, I1, r1, q1⟩ => ?_) ha
  refine thn (hi pins s1 σ H1 _ I1 q1) fun iv s2 ⟨x2, H2, I2, r2, q2⟩ => ?_
  refine thn (hg pins s2 σ H2 x1 x2 ov iv _ I2 r1 r2 q2) fun old s3 ⟨x3, H3, I3, r3, q3⟩ => ?_
  refine thn (he pins s3 σ H3 _ I3 q3) fun v s4 ⟨x4, H4, I4, r4, q4⟩ => ?_
  refine thn (hp pins s4 σ H4 x3 x4 old v _ I4 r3 r4 q4) fun new s5 ⟨x5, H5, I5, r5, q5⟩ => ?_
  exact thn (hs pins s5 σ H5 x1 x2 x5 ov iv new _ I5 r1 r2 r5 q5) fun _ s6 ⟨H6, I6, q6⟩ => ⟨σ, H6, I6, q6⟩
/-- ints -/
def ipI (f : Int → Int → Int) : TIp := fun x y H Q => ∃ i j, x = .int i ∧ y = .int j ∧ Q (.int (f i j)) H
theorem ip_add : PIp X .Add (ipI fun i j => i + j) := by
  intro pins s σ H x y v u Q I r1 r2 h
  obtain ⟨i, j, e1, e2, q⟩ := h
  subst e1; subst e2
  obtain ⟨t, rfl⟩ := r1
  obtain ⟨t', rfl⟩ := r2
  exact iadd_int ⟨.int _, H, I.tok _, ⟨_, rfl⟩, q⟩
theorem ip_sub : PIp X .Sub (ipI fun i j => i - j) := by
  intro pins s σ H x y v u Q I r1 r2 h
  obtain ⟨i, j, e1, e2, q⟩ := h
  subst e1; subst e2
  obtain ⟨t, rfl⟩ := r1
  obtain ⟨t', rfl⟩ := r2
  exact isub_int ⟨.int _, H, I.tok _, ⟨_, rfl⟩, q⟩
end

/-! ### while -/
section
variable {X : Cx} {pos : Pos}
/-- the invariant W with its measure -/
def tWhile (c : TT) (tb : TS) : TS := fun D σ H => ∃ W : Nat → St → Hp → Prop, (∃ m, W m σ H) ∧ ∀ m σ H, W m σ H →
  c σ H fun b H1 => if b = true then ∃ N : St → Hp → Prop, (∀ σ' H', N σ' H' → ∃ m', m' < m ∧ W m' σ' H') ∧ tb { D with nx := N, ct := N, bk := D.nx } σ H1 else D.nx σ H1
theorem ps_while {c : Expr} {body : List Stmt} {tc : TT} {tb : TS} (hp : PassesOwn (model X.prog X.w) X.A X.env X.xe) (hc : PT X c tc) (hb : PSs X body tb) : PS X (.While c body [] pos) (tWhile tc tb) := by
  intro pins s σ H D I h
  obtain ⟨W, ⟨m0, w0⟩, turn⟩ := h
  refine wpAny_While (codeAny_whileLoop (fun n s' => ∃ σ' H', Inv X pins σ' H' s' ∧ W n σ' H') ?_ m0 ⟨σ, H, I, w0⟩)
  rintro n s1 ⟨σ1, H1, I1, w1⟩
  refine wpAny_passesOwn hp (thn (hc pins s1 σ1 H1 _ I1 (turn n σ1 H1 w1)) fun b s2 ⟨H2, I2, q2⟩ => ?_)
  cases b with
  | true =>
    obtain ⟨N, hN, q2⟩ := q2
    rw [if_pos rfl]
    refine wpAny_passesOwn hp (thn (hb pins s2 σ1 H2 _ I2 q2) fun f s3 q3 => ?_)
    cases f with
    | next =>
      obtain ⟨σ3, H3, I3, n3⟩ := q3
      obtain ⟨m', hm, w3⟩ := hN σ3 H3 n3
      exact ⟨m', hm, σ3, H3, I3, w3⟩
    | cont =>
      obtain ⟨σ3, H3, I3, n3⟩ := q3
      obtain ⟨m', hm, w3⟩ := hN σ3 H3 n3
      exact ⟨m', hm, σ3, H3, I3, w3⟩
    | brk => exact q3
    | ret v => exact q3
  | false =>
    rw [if_neg Bool.false_ne_true]
    exact wpAny_execs_nil ⟨σ1, H2, I2, q2⟩
end

/-! ### what a loop or a comprehension walks -/
/-- at turn i: it yields x (the heap may grow), or it stops -/
structure It where
  go : Nat → Hp → Prop
  yld : Nat → Hp → V → Hp → Prop
  stop : Nat → Hp → Prop
/-- the iterator's own objects may turn: they are not the frame's, not pinned, younger than the entry (or a comprehension's own) -/
def FpOk (X : Cx) (pins : List (Addr × Obj)) (H : Hp) (b : Addr) : Prop :=
  H b = none ∧ b ≠ X.env.locals ∧ b ∉ X.fs ∧ (b ∈ X.ex ∨ X.s₀.heap.get? b = none) ∧ (∀ x c, X.env.cells.lookup x = some c → c ≠ b) ∧ ∀ p ∈ X.pn ++ pins, p.1 ≠ b
theorem Inv.fpOk {X : Cx} {pins : List (Addr × Obj)} {σ : St} {H H' : Hp} {s : Shared} {b : Addr} (I : Inv X pins σ H s) (hb : s.heap.objs.size ≤ b) (hn : H' b = none) : FpOk X pins H' b := by
  refine ⟨hn, Nat.ne_of_gt (Nat.lt_of_lt_of_le I.lt hb), I.nofs hb, .inr (Heap.get?_none_of_le (Nat.le_trans I.sz hb)), fun x c e z => ?_, fun p hp z => ?_⟩
  · obtain ⟨v, q⟩ := I.cell x c e
    exact absurd (Nat.lt_of_lt_of_le q.lt (by rw [z]; exact hb)) (Nat.lt_irrefl _)
  · exact absurd (Nat.lt_of_lt_of_le (Heap.lt_size (I.pin p hp).1) (by rw [z]; exact hb)) (Nat.lt_irrefl _)
structure Turn (P : Program) (w : World) (K : PySem.W.Frag) (tg : Expr) (J : It) (fp : List Addr) (it : Addr) (tn : Nat → Heap → Prop) : Prop where
  mem : it ∈ fp
  obj : ∀ i h, tn i h → ∀ b ∈ fp, ∃ o, h.get? b = some o ∧ ∀ v, o.data ≠ .cell v
  keep : ∀ i h h', tn i h → (∀ b ∈ fp, ∀ o, h.get? b = some o → h'.get? b = some o) → tn i h'
  item : ∀ (X : Cx), X.prog = P → X.w = w → X.K = K → X.calm = true → ∀ (i : Nat) (pins : List (Addr × Obj)) (s : Shared) (σ : St) (H : Hp) (E : Value → Shared → Prop), Inv X pins σ H s → (∀ b ∈ fp, FpOk X pins H b) → tn i s.heap → J.go i H →
    wpAny (model P w) X.A (pyNext (.ref it)) (fun r s1 => ∃ u, r = some u ∧
      wpAny (model P w) X.A (letOwnedTupleGo tg (.ref it) u) (fun _ s2 => ∃ x H', Inv X pins σ H' s2 ∧ RelV x u ∧ J.yld i H x H' ∧ tn (i + 1) s2.heap ∧ ∀ b ∈ fp, H' b = none) E s1) E s
  done : ∀ (X : Cx), X.prog = P → X.w = w → X.K = K → X.calm = true → ∀ (i : Nat) (pins : List (Addr × Obj)) (s : Shared) (σ : St) (H : Hp) (E : Value → Shared → Prop), Inv X pins σ H s → (∀ b ∈ fp, FpOk X pins H b) → tn i s.heap → J.stop i H →
    wpAny (model P w) X.A (pyNext (.ref it)) (fun r s1 => r = none ∧ Inv X pins σ H s1) E s
  self : ∀ (A : Around) (i : Nat) (s : Shared) (Q : Value → Shared → Prop) (E : Value → Shared → Prop), tn i s.heap → Q (.ref it) s → wpAny (model P w) A (pyIter (.ref it)) Q E s
abbrev TI := St → Hp → (It → Hp → Prop) → Prop
/-- an iterator has come -/
def PIE (X : Cx) (pins : List (Addr × Obj)) (σ : St) (tg : Expr) (R : It → Hp → Prop) (itv : Value) (s2 : Shared) : Prop :=
  ∃ (it : Addr) (fp : List Addr) (tn : Nat → Heap → Prop) (J : It) (H' : Hp), itv = .ref it ∧ Inv X pins σ H' s2 ∧ Turn X.prog X.w X.K tg J fp it tn ∧ tn 0 s2.heap ∧ (∀ b ∈ fp, FpOk X pins H' b) ∧ R J H'
def PI (X : Cx) (tg iter : Expr) (wi : TI) : Prop :=
  ∀ (pins : List (Addr × Obj)) (s : Shared) (σ : St) (H : Hp) (R : It → Hp → Prop), Inv X pins σ H s → wi σ H R →
    wpAny (model X.prog X.w) X.A (eval iter X.env) (fun v s1 => wpAny (model X.prog X.w) X.A (pyIter v) (PIE X pins σ tg R) X.xe s1) X.xe s

/-- the step ahead of the store is nothing for an iterator that keeps no tuple -/
theorem go_of {M : Model} {A : Around} {E : Value → Shared → Prop} {s : Shared} {tg : Expr} {it : Addr} {u : Value} {o : Obj} {n : String} {vs : Array Value} {Q : Unit → Shared → Prop} (ho : s.heap.get? it = some o) (hc : o.cls = .type n) (hd : o.data = .fields vs)
    (hn : ["enumerate", "zip", "dict_itemiterator", "dict_reverseitemiterator", "odict_iterator", "itertools.zip_longest", "itertools.pairwise"].contains n = false) (hQ : Q () s) : wpAny M A (letOwnedTupleGo tg (.ref it) u) Q E s := by
  unfold letOwnedTupleGo
  cases tg <;> first
    | exact wpAny_pure hQ
    | (cases u <;> first
        | exact wpAny_pure hQ
        | (refine wpAny_bind (wpAny_load ho ?_)
           rw [hc, hd]
           show wpAny M A (if (["enumerate", "zip", "dict_itemiterator", "dict_reverseitemiterator", "odict_iterator", "itertools.zip_longest", "itertools.pairwise"].contains n && vs[0]? == some (rawInt _)) = true then _ else _) Q E s
           rw [if_neg (by intro h; rw [hn, Bool.false_and] at h; cases h)]
           exact wpAny_pure hQ))

/-- the list at a, as it stands at each turn (a loop may append to it) -/
def Itl (K : PySem.W.Frag) (a : Addr) : It :=
  ⟨fun i H => ∃ xs x, SqL K H a xs ∧ xs[i]? = some x, fun i H x H' => H' = H ∧ ∀ xs, SqL K H a xs → xs[i]? = some x, fun i H => ∃ xs, SqL K H a xs ∧ xs.length ≤ i⟩
def Itt (K : PySem.W.Frag) (a : Addr) : It :=
  ⟨fun i H => ∃ xs x, SqT K H a xs ∧ xs[i]? = some x, fun i H x H' => H' = H ∧ ∀ xs, SqT K H a xs → xs[i]? = some x, fun i H => ∃ xs, SqT K H a xs ∧ xs.length ≤ i⟩
/-- lo, lo + 1, .. (n of them) -/
def Itr (lo : Int) (n : Nat) : It := ⟨fun i _ => i < n, fun i H x H' => H' = H ∧ x = .int (lo + i), fun i _ => n ≤ i⟩
theorem turn_list {P : Program} {w : World} {K : PySem.W.Frag} {tg : Expr} (a it : Addr) : Turn P w K tg (Itl K a) [it] it (fun i h => h.IsListIter it a i) where
  mem := by simp
  obj := fun i h st b hb => by
    have e : b = it := by simpa using hb
    subst e
    obtain ⟨o, e, c, d⟩ := st
    exact ⟨o, e, fun v z => by rw [d] at z; cases z⟩
  keep := fun i h h' st k => st.at fun o e => k it (by simp) o e
  item := by
    intro X hP hw hK hc i pins s σ H E I hf st hg
    subst hP hw hK
    obtain ⟨xs, x, hq, hx⟩ := hg
    obtain ⟨its, rv, p, hz⟩ := I.list hq
    obtain ⟨u, hu, ru⟩ := rv.get hx
    obtain ⟨f0, f1, f2, f3, f4, f5⟩ := hf it (by simp)
    refine wpAny_pyNext_list_item st p.isList (x := u) (by simpa using hu) fun h' st' sb => ?_
    have I1 : Inv X pins σ H { s with heap := h' } := I.turned (t' := s.toks) (fun b o hb e => (sb.2 b hb).trans e) f0 f1 f3 f4 f5
    obtain ⟨o, e, c, d⟩ := id st'
    exact ⟨u, rfl, go_of (s := { s with heap := h' }) e c d (by decide) ⟨x, H, I1, ru, ⟨rfl, fun ys hy => by rw [I.list_inj hy hq]; exact hx⟩, st', fun b hb => (hf b hb).1⟩⟩
  done := by
    intro X hP hw hK hc i pins s σ H E I hf st hg
    subst hP hw hK
    obtain ⟨xs, hq, hx⟩ := hg
    obtain ⟨its, rv, p, hz⟩ := I.list hq
    obtain ⟨f0, f1, f2, f3, f4, f5⟩ := hf it (by simp)
    have hl := rv.length
    exact wpAny_pyNext_list_end (I.ok.hd hc) st p.isList (by simp; omega) fun h' eb => ⟨rfl, I.turned (t' := s.toks) (fun b o hb e => eb b o hb e) f0 f1 f3 f4 f5⟩
  self := fun _ _ _ _ _ st h => wpAny_pyIter_listiter st h
theorem turn_tuple {P : Program} {w : World} {K : PySem.W.Frag} {tg : Expr} (a it : Addr) : Turn P w K tg (Itt K a) [it] it (fun i h => h.IsTupleIter it a i) where
  mem := by simp
  obj := fun i h st b hb => by
    have e : b = it := by simpa using hb
    subst e
    obtain ⟨o, e, c, d⟩ := st
    exact ⟨o, e, fun v z => by rw [d] at z; cases z⟩
  keep := fun i h h' st k => st.at fun o e => k it (by simp) o e
  item := by
    intro X hP hw hK hc i pins s σ H E I hf st hg
    subst hP hw hK
    obtain ⟨xs, x, hq, hx⟩ := hg
    obtain ⟨its, rv, p, hz⟩ := I.tuple hq
    obtain ⟨u, hu, ru⟩ := rv.get hx
    obtain ⟨f0, f1, f2, f3, f4, f5⟩ := hf it (by simp)
    refine wpAny_pyNext_tuple_item st (show s.heap.IsTuple a its.toArray from p) (x := u) (by simpa using hu) fun h' st' sb => ?_
    have I1 : Inv X pins σ H { s with heap := h' } := I.turned (t' := s.toks) (fun b o hb e => (sb.2 b hb).trans e) f0 f1 f3 f4 f5
    obtain ⟨o, e, c, d⟩ := id st'
    exact ⟨u, rfl, go_of (s := { s with heap := h' }) e c d (by decide) ⟨x, H, I1, ru, ⟨rfl, fun ys hy => by rw [I.tuple_inj hy hq]; exact hx⟩, st', fun b hb => (hf b hb).1⟩⟩
  done := by
    intro X hP hw hK hc i pins s σ H E I hf st hg
    subst hP hw hK
    obtain ⟨xs, hq, hx⟩ := hg
    obtain ⟨its, rv, p, hz⟩ := I.tuple hq
    obtain ⟨f0, f1, f2, f3, f4, f5⟩ := hf it (by simp)
    have hl := rv.length
    exact wpAny_pyNext_tuple_end (I.ok.hd hc) st (show s.heap.IsTuple a its.toArray from p) (by simp; omega) fun h' eb => ⟨rfl, I.turned (t' := s.toks) (fun b o hb e => eb b o hb e) f0 f1 f3 f4 f5⟩
  self := fun _ _ _ _ _ st h => wpAny_pyIter_tupleiter st h
theorem turn_range {P : Program} {w : World} {K : PySem.W.Frag} {tg : Expr} (it : Addr) (lo : Int) (n : Nat) : Turn P w K tg (Itr lo n) [it] it (fun i h => IsRangeIter h it (lo + (i : Nat) * 1) ((n : Int) - (i : Nat)) 1) where
  mem := by simp
  obj := fun i h st b hb => by
    have e : b = it := by simpa using hb
    subst e
    exact ⟨_, st, fun v z => by
      have z' : Data.fields _ = Data.cell v := z
      cases z'⟩
  keep := fun i h h' st k => k it (by simp) _ st
  item := by
    intro X hP hw hK hc i pins s σ H E I hf st hg
    subst hP hw hK
    obtain ⟨f0, f1, f2, f3, f4, f5⟩ := hf it (by simp)
    have W := Walks.range (prog := X.prog) (w := X.w) (I.ok.hd hc) it lo 1 n
    refine W.item i s _ _ hg st fun v h' tk hv st' kk => ?_
    obtain ⟨t, rfl⟩ := hv
    have I1 : Inv X pins σ H { s with heap := h', toks := tk } := I.turned (fun b o hb e => kk b o (by simpa using hb) e) f0 f1 f3 f4 f5
    refine ⟨_, rfl, go_of (s := { s with heap := h', toks := tk }) (n := "range_iterator") st' rfl rfl (by decide) ⟨.int (lo + i), H, I1, ⟨t, ?_⟩, ⟨rfl, rfl⟩, st', fun b hb => (hf b hb).1⟩⟩
    rw [Int.mul_one]
  done := by
    intro X hP hw hK hc i pins s σ H E I hf st hg
    subst hP hw hK
    obtain ⟨f0, f1, f2, f3, f4, f5⟩ := hf it (by simp)
    exact wpAny_pyNext_range_end (I.ok.hd hc) st (by have : n ≤ i := hg; omega) fun h' eb => ⟨rfl, I.turned (t' := s.toks) (fun b o hb e => eb b o hb e) f0 f1 f3 f4 f5⟩
  self := fun _ _ _ _ _ st h => wpAny_pyIter_rangeiter st h
end L2

namespace L2
open PySem PySem.Spec PyProof.Rows
section
variable {X : Cx} {tg : Expr}
def iList (K : PySem.W.Frag) (tl : TE) : TI := fun σ H R => tl σ H fun x H1 => ∃ a, x = .ref a ∧ (∃ xs, SqL K H1 a xs) ∧ R (Itl K a) H1
def iTup (K : PySem.W.Frag) (tl : TE) : TI := fun σ H R => tl σ H fun x H1 => ∃ a, x = .ref a ∧ (∃ xs, SqT K H1 a xs) ∧ R (Itt K a) H1
theorem pi_list {l : Expr} {tl : TE} (hl : PE X l tl) : PI X tg l (iList X.K tl) := by
  intro pins s σ H R I h
  refine thn (hl pins s σ H _ I h) fun v s1 ⟨x, H1, I1, r1, q1⟩ => ?_
  obtain ⟨a, e, ⟨xs, hq⟩, q⟩ := q1
  subst e
  cases r1
  obtain ⟨its, rv, p, hz⟩ := I1.list hq
  refine wpAny_pyIter_list p.isList ?_
  refine ⟨s1.heap.objs.size, [s1.heap.objs.size], _, _, H1, rfl, I1.kept (t' := s1.toks) fun b o e => Heap.get?_push_of_some _ e, turn_list a _, ⟨_, Heap.get?_push_size _ rfl, rfl, rfl⟩, fun b hb => ?_, q⟩
  have e : b = s1.heap.objs.size := by simpa using hb
  subst e
  exact I1.fpOk (Nat.le_refl _) (I1.hok.fresh (Nat.le_refl _))
theorem pi_tup {l : Expr} {tl : TE} (hl : PE X l tl) : PI X tg l (iTup X.K tl) := by
  intro pins s σ H R I h
  refine thn (hl pins s σ H _ I h) fun v s1 ⟨x, H1, I1, r1, q1⟩ => ?_
  obtain ⟨a, e, ⟨xs, hq⟩, q⟩ := q1
  subst e
  cases r1
  obtain ⟨its, rv, p, hz⟩ := I1.tuple hq
  refine wpAny_pyIter_tuple (show s1.heap.IsTuple a its.toArray from p) ?_
  refine ⟨s1.heap.objs.size, [s1.heap.objs.size], _, _, H1, rfl, I1.kept (t' := s1.toks) fun b o e => Heap.get?_push_of_some _ e, turn_tuple a _, ⟨_, Heap.get?_push_size _ rfl, rfl, rfl⟩, fun b hb => ?_, q⟩
  have e : b = s1.heap.objs.size := by simpa using hb
  subst e
  exact I1.fpOk (Nat.le_refl _) (I1.hok.fresh (Nat.le_refl _))
/-- a range object just made, walked -/
theorem range_it {pins : List (Addr × Obj)} {σ : St} {H : Hp} {s : Shared} {R : It → Hp → Prop} {E : Value → Shared → Prop} {lo hi : Int} {t u v : Tok} {tk : Nat} (I : Inv X pins σ H s) (h1 : -(2 ^ 62) ≤ lo) (h2 : lo < 2 ^ 62) (h3 : -(2 ^ 62) ≤ hi) (h4 : hi < 2 ^ 62)
    (q : R (Itr lo (hi - lo).toNat) H) : wpAny (model X.prog X.w) X.A (pyIter (.ref s.heap.objs.size)) (PIE X pins σ tg R) E { s with heap := s.heap.push { cls := .type "range", data := .fields #[.int lo t, .int hi u, .int 1 v] }, toks := tk } := by
  refine wpAny_pyIter_range (IsRange.new ..) (small_one h1 h2 h3 h4) ?_
  have I1 : Inv X pins σ H { s with heap := s.heap.push { cls := .type "range", data := .fields #[.int lo t, .int hi u, .int 1 v] }, toks := tk } := I.kept fun b o e => Heap.get?_push_of_some _ e
  refine ⟨(s.heap.push { cls := .type "range", data := .fields #[.int lo t, .int hi u, .int 1 v] }).objs.size, [(s.heap.push { cls := .type "range", data := .fields #[.int lo t, .int hi u, .int 1 v] }).objs.size], _, _, H, rfl,
    I1.kept (t' := tk) fun b o e => Heap.get?_push_of_some _ e, turn_range _ lo (hi - lo).toNat, ?_, fun b hb => ?_, q⟩
  · have e1 : lo + ((0 : Nat) : Int) * 1 = lo := by simp
    have e2 : (((hi - lo).toNat : Nat) : Int) - ((0 : Nat) : Int) = Builtin.Range.rangeSize lo hi 1 := by rw [rangeSize_one]; split <;> omega
    show IsRangeIter _ _ (lo + ((0 : Nat) : Int) * 1) ((((hi - lo).toNat : Nat) : Int) - ((0 : Nat) : Int)) 1
    rw [e1, e2]
    exact Heap.get?_push_size _ rfl
  · have e : b = (s.heap.push { cls := .type "range", data := .fields #[.int lo t, .int hi u, .int 1 v] }).objs.size := by simpa using hb
    subst e
    exact I1.fpOk (Nat.le_refl _) (I1.hok.fresh (Nat.le_refl _))
def iRng1 (ta : TA) : TI := fun σ H R => ta σ H fun vs H1 => ∃ j : Int, vs = [.int j] ∧ -(2 ^ 62) ≤ j ∧ j < 2 ^ 62 ∧ R (Itr 0 j.toNat) H1
def iRng2 (ta : TA) : TI := fun σ H R => ta σ H fun vs H1 => ∃ i j : Int, vs = [.int i, .int j] ∧ (-(2 ^ 62) ≤ i ∧ i < 2 ^ 62 ∧ -(2 ^ 62) ≤ j ∧ j < 2 ^ 62) ∧ R (Itr i (j - i).toNat) H1
theorem pi_range1 {a : Expr} {ta : TA} {p pos : Pos} (hg : Gl X "range") (hm : X.mg "range" = none) (ha : PA X [a] ta) (hs : starEach [a] X.env = [(false, eval a X.env)] := by rfl) : PI X tg (.Call (.Name "range" p) [a] [] pos) (iRng1 ta) := by
  intro pins s σ H R I h
  refine Call_ (ld_blt I hg hm boot_range (PyProof.Rows.callWith_type1 (thn (ha pos pins s σ H _ I h) fun us s1 ⟨vs, H1, I1, r1, q1⟩ => ?_) hs rfl))
  obtain ⟨j, e, q1, q2, q⟩ := q1
  subst e
  cases r1 with
  | cons r rr =>
    cases rr
    obtain ⟨t, rfl⟩ := r
    exact call_range_1 (range_it I1 (by omega) (by omega) q1 q2 (by simpa using q))
theorem pi_range2 {a b : Expr} {ta : TA} {p pos : Pos} (hg : Gl X "range") (hm : X.mg "range" = none) (ha : PA X [a, b] ta) (hs : starEach [a, b] X.env = [(false, eval a X.env), (false, eval b X.env)] := by rfl) (hs2 : starEach [b] X.env = [(false, eval b X.env)] := by rfl) :
    PI X tg (.Call (.Name "range" p) [a, b] [] pos) (iRng2 ta) := by
  intro pins s σ H R I h
  refine Call_ (ld_blt I hg hm boot_range (PyProof.Rows.callWith_type1 (thn (ha pos pins s σ H _ I h) fun us s1 ⟨vs, H1, I1, r1, q1⟩ => ?_) (by rw [hs, hs2]) (by rw [hs2]; rfl)))
  obtain ⟨i, j, e, ⟨q1, q2, q3, q4⟩, q⟩ := q1
  subst e
  cases r1 with
  | cons r rr =>
    cases rr with
    | cons r' rr =>
      cases rr
      obtain ⟨t, rfl⟩ := r
      obtain ⟨t', rfl⟩ := r'
      exact call_range_2 (range_it I1 q1 q2 q3 q4 q)

/-! ### for -/
/-- W: the invariant by the turn and a measure; N: what the body is to reach -/
def tFor (wi : TI) (g : TG) (tb : TS) : TS := fun D σ H => wi σ H fun J H1 => ∃ W : Nat → Nat → St → Hp → Prop, (∃ m, W 0 m σ H1) ∧ ∀ i m σ H, W i m σ H →
  (J.stop i H ∧ D.nx σ H) ∨ (J.go i H ∧ ∃ N : St → Hp → Prop, (∀ σ' H', N σ' H' → ∃ m', m' < m ∧ W (i + 1) m' σ' H') ∧ ∀ x H', J.yld i H x H' → g x σ H' fun σ2 H2 => tb { D with nx := N, ct := N, bk := D.nx } σ2 H2)
/-- the records at fp as they stand -/
def pinsAt (fp : List Addr) (h : Heap) : List (Addr × Obj) := fp.filterMap fun b => (h.get? b).map fun o => (b, o)
theorem mem_pinsAt {fp : List Addr} {h : Heap} {b : Addr} {o : Obj} (hb : b ∈ fp) (e : h.get? b = some o) : (b, o) ∈ pinsAt fp h := List.mem_filterMap.mpr ⟨b, hb, by rw [e]; rfl⟩
theorem of_pinsAt {fp : List Addr} {h : Heap} {p : Addr × Obj} (hp : p ∈ pinsAt fp h) : p.1 ∈ fp ∧ h.get? p.1 = some p.2 := by
  obtain ⟨b, hb, e⟩ := List.mem_filterMap.mp hp
  cases q : h.get? b with
  | none => rw [q] at e; cases e
  | some o =>
    rw [q] at e
    have e' : (b, o) = p := Option.some.inj e
    subst e'
    exact ⟨hb, q⟩
theorem Inv.pinned {pins : List (Addr × Obj)} {σ : St} {H : Hp} {s : Shared} {fp : List Addr} (I : Inv X pins σ H s) (hf : ∀ b ∈ fp, FpOk X pins H b) (ho : ∀ b ∈ fp, ∃ o, s.heap.get? b = some o ∧ ∀ v, o.data ≠ .cell v) : Inv X (pins ++ pinsAt fp s.heap) σ H s :=
  I.pins_of fun p hp => (List.mem_append.mp hp).elim (fun z => I.pin p (List.mem_append_right _ z)) fun z => by
    obtain ⟨hb, e⟩ := of_pinsAt z
    obtain ⟨f0, f1, f2, _⟩ := hf p.1 hb
    obtain ⟨o, e', d⟩ := ho p.1 hb
    rw [e] at e'; cases e'
    exact ⟨e, f0, f1, f2, d⟩
theorem Inv.unpinned {pins pl : List (Addr × Obj)} {σ : St} {H : Hp} {s : Shared} (I : Inv X (pins ++ pl) σ H s) : Inv X pins σ H s := I.pins_of fun p hp => I.pin p (List.mem_append_right _ (List.mem_append_left _ hp))
theorem ps_for {iter : Expr} {body : List Stmt} {wi : TI} {g : TG} {tb : TS} {pos : Pos} (hp : PassesOwn (model X.prog X.w) X.A X.env X.xe) (hc : X.calm = true) (hi : PI X tg iter wi) (hg : PG X tg g) (hb : PSs X body tb)
    (hs : ∀ x, foldedSetIterable iter X.env x = pure x := by intro _; rfl) : PS X (.For tg iter body [] pos) (tFor wi g tb) := by
  intro pins s σ H D I h
  refine wpAny_For (thn (hi pins s σ H _ I h) fun v s1 h1 => thn h1 fun itv s2 h2 => ?_) hs
  obtain ⟨it, fp, tn, J, H2, e, I2, T, st2, f2, W, ⟨m0, w0⟩, turn⟩ := h2
  subst e
  -- what stays true of the iterator's objects through the loop
  have stat : ∀ {H' : Hp}, (∀ b ∈ fp, H' b = none) → ∀ b ∈ fp, FpOk X pins H' b := fun hn b hb => ⟨hn b hb, (f2 b hb).2⟩
  refine codeAny_forLoop_any (fun n s' => ∃ i σ' H', Inv X pins σ' H' s' ∧ tn i s'.heap ∧ (∀ b ∈ fp, H' b = none) ∧ W i n σ' H') ?_ m0 ⟨0, σ, H2, I2, st2, fun b hb => (f2 b hb).1, w0⟩
  rintro n s3 ⟨i, σ3, H3, I3, st3, fr3, w3⟩
  rcases turn i n σ3 H3 w3 with ⟨stop, qn⟩ | ⟨go, N, hN, step⟩
  · refine wpAny_passesOwn hp (thn (T.done X rfl rfl rfl hc i pins s3 σ3 H3 X.xe I3 (stat fr3) st3 stop) fun r s4 ⟨hr, I4⟩ => ?_)
    subst hr
    exact wpAny_execs_nil ⟨σ3, H3, I4, qn⟩
  · refine wpAny_passesOwn hp (thn (T.item X rfl rfl rfl hc i pins s3 σ3 H3 X.xe I3 (stat fr3) st3 go) fun r s4 ⟨u, hr, h4⟩ => ?_)
    subst hr
    refine wpAny_passesOwn hp (thn h4 fun _ s5 ⟨x, H5, I5, r5, y5, st5, fr5⟩ => ?_)
    have I5' := I5.pinned (stat fr5) (T.obj _ _ st5)
    refine wpAny_passesOwn hp (thn (hg _ s5 σ3 H5 x u _ I5' r5 (step x H5 y5)) fun _ s6 ⟨σ6, H6, I6, q6⟩ => ?_)
    refine wpAny_passesOwn hp (thn (hb _ s6 σ6 H6 _ I6 q6) fun f s7 q7 => ?_)
    have again : ∀ {σ7 : St} {H7 : Hp}, Inv X (pins ++ pinsAt fp s5.heap) σ7 H7 s7 → N σ7 H7 → ∃ m, m < n ∧ ∃ i σ' H', Inv X pins σ' H' s7 ∧ tn i s7.heap ∧ (∀ b ∈ fp, H' b = none) ∧ W i m σ' H' := fun {σ7 H7} I7 n7 => by
      obtain ⟨m', hm, w7⟩ := hN σ7 H7 n7
      refine ⟨m', hm, i + 1, σ7, H7, I7.unpinned, T.keep _ _ _ st5 fun b hb o e => (I7.pin (b, o) (List.mem_append_right _ (List.mem_append_right _ (mem_pinsAt hb e)))).1, fun b hb => ?_, w7⟩
      obtain ⟨o, e, d⟩ := T.obj _ _ st5 b hb
      exact (I7.pin (b, o) (List.mem_append_right _ (List.mem_append_right _ (mem_pinsAt hb e)))).2.1
    cases f with
    | next => obtain ⟨σ7, H7, I7, n7⟩ := q7; exact again I7 n7
    | cont => obtain ⟨σ7, H7, I7, n7⟩ := q7; exact again I7 n7
    | brk => obtain ⟨σ7, H7, I7, q7⟩ := q7; exact ⟨σ7, H7, I7.unpinned, q7⟩
    | ret v => obtain ⟨x7, σ7, H7, I7, r7, q7⟩ := q7; exact ⟨x7, σ7, H7, I7.unpinned, r7, q7⟩
end

/-! ### the forms one uses -/
/-- over a list that the body leaves as it is -/
theorem for_list {K : PySem.W.Frag} {a : Addr} {xs : List V} {g : TG} {tb : TS} {D : Ends} {σ : St} {H : Hp} (Pv : Nat → St → Hp → Prop) (h0 : Pv 0 σ H) (hl : ∀ i σ H, i ≤ xs.length → Pv i σ H → SqL K H a xs)
    (hs : ∀ i x σ H, xs[i]? = some x → Pv i σ H → g x σ H fun σ2 H2 => tb { D with nx := Pv (i + 1), ct := Pv (i + 1), bk := D.nx } σ2 H2) (hd : ∀ σ H, Pv xs.length σ H → D.nx σ H) :
    ∃ W : Nat → Nat → St → Hp → Prop, (∃ m, W 0 m σ H) ∧ ∀ i m σ H, W i m σ H →
      ((Itl K a).stop i H ∧ D.nx σ H) ∨ ((Itl K a).go i H ∧ ∃ N : St → Hp → Prop, (∀ σ' H', N σ' H' → ∃ m', m' < m ∧ W (i + 1) m' σ' H') ∧ ∀ x H', (Itl K a).yld i H x H' → g x σ H' fun σ2 H2 => tb { D with nx := N, ct := N, bk := D.nx } σ2 H2) := by
  refine ⟨fun i m σ H => m = xs.length - i ∧ i ≤ xs.length ∧ Pv i σ H, ⟨xs.length, by simp, Nat.zero_le _, h0⟩, ?_⟩
  rintro i m σ H ⟨rfl, hi, p⟩
  have q := hl i σ H hi p
  by_cases hlt : i < xs.length
  · refine .inr ⟨⟨xs, xs[i], q, by simp [hlt]⟩, Pv (i + 1), fun σ' H' p' => ⟨xs.length - (i + 1), by omega, rfl, hlt, p'⟩, fun x H' y => ?_⟩
    obtain ⟨e, y⟩ := y
    subst e
    exact hs i x σ _ (y xs q) p
  · have e : i = xs.length := by omega
    subst e
    exact .inl ⟨⟨xs, q, Nat.le_refl _⟩, hd σ H p⟩
theorem for_tup {K : PySem.W.Frag} {a : Addr} {xs : List V} {g : TG} {tb : TS} {D : Ends} {σ : St} {H : Hp} (Pv : Nat → St → Hp → Prop) (h0 : Pv 0 σ H) (hl : ∀ i σ H, i ≤ xs.length → Pv i σ H → SqT K H a xs)
    (hs : ∀ i x σ H, xs[i]? = some x → Pv i σ H → g x σ H fun σ2 H2 => tb { D with nx := Pv (i + 1), ct := Pv (i + 1), bk := D.nx } σ2 H2) (hd : ∀ σ H, Pv xs.length σ H → D.nx σ H) :
    ∃ W : Nat → Nat → St → Hp → Prop, (∃ m, W 0 m σ H) ∧ ∀ i m σ H, W i m σ H →
      ((Itt K a).stop i H ∧ D.nx σ H) ∨ ((Itt K a).go i H ∧ ∃ N : St → Hp → Prop, (∀ σ' H', N σ' H' → ∃ m', m' < m ∧ W (i + 1) m' σ' H') ∧ ∀ x H', (Itt K a).yld i H x H' → g x σ H' fun σ2 H2 => tb { D with nx := N, ct := N, bk := D.nx } σ2 H2) := by
  refine ⟨fun i m σ H => m = xs.length - i ∧ i ≤ xs.length ∧ Pv i σ H, ⟨xs.length, by simp, Nat.zero_le _, h0⟩, ?_⟩
  rintro i m σ H ⟨rfl, hi, p⟩
  have q := hl i σ H hi p
  by_cases hlt : i < xs.length
  · refine .inr ⟨⟨xs, xs[i], q, by simp [hlt]⟩, Pv (i + 1), fun σ' H' p' => ⟨xs.length - (i + 1), by omega, rfl, hlt, p'⟩, fun x H' y => ?_⟩
    obtain ⟨e, y⟩ := y
    subst e
    exact hs i x σ _ (y xs q) p
  · have e : i = xs.length := by omega
    subst e
    exact .inl ⟨⟨xs, q, Nat.le_refl _⟩, hd σ H p⟩
theorem for_range {lo : Int} {n : Nat} {g : TG} {tb : TS} {D : Ends} {σ : St} {H : Hp} (Pv : Nat → St → Hp → Prop) (h0 : Pv 0 σ H)
    (hs : ∀ i σ H, i < n → Pv i σ H → g (.int (lo + i)) σ H fun σ2 H2 => tb { D with nx := Pv (i + 1), ct := Pv (i + 1), bk := D.nx } σ2 H2) (hd : ∀ σ H, Pv n σ H → D.nx σ H) :
    ∃ W : Nat → Nat → St → Hp → Prop, (∃ m, W 0 m σ H) ∧ ∀ i m σ H, W i m σ H →
      ((Itr lo n).stop i H ∧ D.nx σ H) ∨ ((Itr lo n).go i H ∧ ∃ N : St → Hp → Prop, (∀ σ' H', N σ' H' → ∃ m', m' < m ∧ W (i + 1) m' σ' H') ∧ ∀ x H', (Itr lo n).yld i H x H' → g x σ H' fun σ2 H2 => tb { D with nx := N, ct := N, bk := D.nx } σ2 H2) := by
  refine ⟨fun i m σ H => m = n - i ∧ i ≤ n ∧ Pv i σ H, ⟨n, by simp, Nat.zero_le _, h0⟩, ?_⟩
  rintro i m σ H ⟨rfl, hi, p⟩
  by_cases hlt : i < n
  · refine .inr ⟨hlt, Pv (i + 1), fun σ' H' p' => ⟨n - (i + 1), by omega, rfl, hlt, p'⟩, fun x H' y => ?_⟩
    obtain ⟨e, y⟩ := y
    subst e y
    exact hs i σ _ hlt p
  · have e : i = n := by omega
    subst e
    exact .inl ⟨Nat.le_refl _, hd σ H p⟩
/-- while, by a word and a measure of the state -/
theorem while_by {c : TT} {tb : TS} {D : Ends} {σ : St} {H : Hp} (Pv : St → Hp → Prop) (μ : St → Hp → Nat) (h0 : Pv σ H)
    (hs : ∀ σ H, Pv σ H → c σ H fun b H1 => if b = true then tb { D with nx := fun σ' H' => Pv σ' H' ∧ μ σ' H' < μ σ H, ct := fun σ' H' => Pv σ' H' ∧ μ σ' H' < μ σ H, bk := D.nx } σ H1 else D.nx σ H1)
    (mono : ∀ σ H Q Q', (∀ b H1, Q b H1 → Q' b H1) → c σ H Q → c σ H Q') : tWhile c tb D σ H := by
  refine ⟨fun m σ H => m = μ σ H ∧ Pv σ H, ⟨_, rfl, h0⟩, ?_⟩
  rintro m σ H ⟨rfl, p⟩
  refine mono σ H _ _ (fun b H1 q => ?_) (hs σ H p)
  cases b with
  | true => exact ⟨_, fun σ' H' ⟨p', l⟩ => ⟨_, l, rfl, p'⟩, q⟩
  | false => exact q
end L2

namespace L2
open PySem PySem.Spec PyProof.Rows

abbrev R2 := V → V → Hp → VK → Prop
/-- a two-place operation on values: f is binaryOp op, inplaceOp op or compareOp op -/
def OpR (X : Cx) (f : Value → Value → Sem Value) (r : R2) : Prop :=
  ∀ (pins : List (Addr × Obj)) (s : Shared) (σ : St) (H : Hp) (x y : V) (v u : Value) (Q : VK), Inv X pins σ H s → RelV x v → RelV y u → r x y H Q →
    wpAny (model X.prog X.w) X.A (f v u) (EP X pins σ Q) X.xe s
/-- a one-place operation -/
def UnR (X : Cx) (f : Value → Sem Value) (r : V → Hp → VK → Prop) : Prop :=
  ∀ (pins : List (Addr × Obj)) (s : Shared) (σ : St) (H : Hp) (x : V) (v : Value) (Q : VK), Inv X pins σ H s → RelV x v → r x H Q →
    wpAny (model X.prog X.w) X.A (f v) (EP X pins σ Q) X.xe s
/-- a call of a value that is known (a builtin, a type) with values -/
def CallR (X : Cx) (f : Value) (r : List V → Hp → VK → Prop) : Prop :=
  ∀ (pins : List (Addr × Obj)) (s : Shared) (σ : St) (H : Hp) (xs : List V) (us : List Value) (Q : VK), Inv X pins σ H s → Vals xs us → r xs H Q →
    wpAny (model X.prog X.w) X.A (call f us) (EP X pins σ Q) X.xe s
/-- a value's truth -/
def TruR (X : Cx) (r : V → Hp → (Bool → Hp → Prop) → Prop) : Prop :=
  ∀ (pins : List (Addr × Obj)) (s : Shared) (σ : St) (H : Hp) (x : V) (v : Value) (Q : Bool → Hp → Prop), Inv X pins σ H s → RelV x v → r x H Q →
    wpAny (model X.prog X.w) X.A (truthy v) (TP X pins σ Q) X.xe s

def tOp (r : R2) (ta tb : TE) : TE := fun σ H Q => ta σ H fun x H1 => tb σ H1 fun y H2 => r x y H2 Q
def tUn (r : V → Hp → VK → Prop) (ta : TE) : TE := fun σ H Q => ta σ H fun x H1 => r x H1 Q
/-- ints in, under C, and a value out -/
def rI (C : Int → Int → Prop) (g : Int → Int → V) : R2 := fun x y H Q => ∃ i j, x = .int i ∧ y = .int j ∧ C i j ∧ Q (g i j) H
def rI0 (g : Int → Int → V) : R2 := fun x y H Q => ∃ i j, x = .int i ∧ y = .int j ∧ Q (g i j) H
def rU (g : Int → V) : V → Hp → VK → Prop := fun x H Q => ∃ i, x = .int i ∧ Q (g i) H

section
variable {X : Cx} {a b c : Expr} {ta tb tc : TE} {pos : Pos}

theorem binT (ha : PE X a ta) (hb : PE X b tb) {pins : List (Addr × Obj)} {s : Shared} {σ : St} {H : Hp} {R : V → V → Hp → Prop} (I : Inv X pins σ H s)
    (h : ta σ H fun x H1 => tb σ H1 fun y H2 => R x y H2) {Q : Value → Shared → Prop} {f : Value → Value → Sem Value}
    (hf : ∀ v u s2 x y H2, Inv X pins σ H2 s2 → RelV x v → RelV y u → R x y H2 → wpAny (model X.prog X.w) X.A (f v u) Q X.xe s2) :
    wpAny (model X.prog X.w) X.A (eval a X.env) (fun v s₁ => wpAny (model X.prog X.w) X.A (eval b X.env) (fun u s₂ => wpAny (model X.prog X.w) X.A (f v u) Q X.xe s₂) X.xe s₁) X.xe s := by
  refine thn (ha pins s σ H _ I h) fun v s1 ⟨x, H1, I1, r1, q1⟩ => ?_
  refine thn (hb pins s1 σ H1 _ I1 q1) fun u s2 ⟨y, H2, I2, r2, q2⟩ => ?_
  exact hf v u s2 x y H2 I2 r1 r2 q2

theorem pe_op {op : Operator} {r : R2} (ho : OpR X (binaryOp op) r) (ha : PE X a ta) (hb : PE X b tb) : PE X (.BinOp a op b pos) (tOp r ta tb) := by
  intro pins s σ H Q I h
  exact wpAny_BinOp (binT ha hb I h fun v u s2 x y H2 I2 rx ry q => ho pins s2 σ H2 x y v u Q I2 rx ry q)
theorem pe_un {op : UnaryOp} {r : V → Hp → VK → Prop} (ho : UnR X (unaryOp op) r) (ha : PE X a ta) : PE X (.UnaryOp op a pos) (tUn r ta) := by
  intro pins s σ H Q I h
  exact UnaryOp_ (thn (ha pins s σ H _ I h) fun v s1 ⟨x, H1, I1, r1, q1⟩ => ho pins s1 σ H1 x v Q I1 r1 q1)
/-- a op= e at a name: the name's slot i -/
theorem augR {op : Operator} {r : R2} (ho : OpR X (inplaceOp op) r) {pins : List (Addr × Obj)} {s : Shared} {σ : St} {H : Hp} {x y : V} {v u : Value} {Q : VK} (I : Inv X pins σ H s)
    (rx : RelV x v) (ry : RelV y u) (q : r x y H Q) : wpAny (model X.prog X.w) X.A (inplaceOp op v u) (EP X pins σ Q) X.xe s := ho pins s σ H x y v u Q I rx ry q

/-! ### ints -/
theorem opI {f : Value → Value → Sem Value} {C : Int → Int → Prop} {g : Int → Int → Int}
    (rule : ∀ (i j : Int) (t u : Tok) (s : Shared) (Q : Value → Shared → Prop) (E : Value → Shared → Prop), C i j → Q (.int (g i j) s.toks) { s with toks := s.toks + 1 } → wpAny (model X.prog X.w) X.A (f (.int i t) (.int j u)) Q E s) :
    OpR X f (rI C fun i j => .int (g i j)) := by
  intro pins s σ H x y v u Q I rx ry h
  obtain ⟨i, j, rfl, rfl, hc, q⟩ := h
  obtain ⟨t, rfl⟩ := rx
  obtain ⟨t', rfl⟩ := ry
  exact rule i j t t' s _ _ hc ⟨.int (g i j), H, I.tok _, ⟨_, rfl⟩, q⟩
theorem opI0 {f : Value → Value → Sem Value} {g : Int → Int → Int}
    (rule : ∀ (i j : Int) (t u : Tok) (s : Shared) (Q : Value → Shared → Prop) (E : Value → Shared → Prop), Q (.int (g i j) s.toks) { s with toks := s.toks + 1 } → wpAny (model X.prog X.w) X.A (f (.int i t) (.int j u)) Q E s) :
    OpR X f (rI0 fun i j => .int (g i j)) := by
  intro pins s σ H x y v u Q I rx ry h
  obtain ⟨i, j, rfl, rfl, q⟩ := h
  obtain ⟨t, rfl⟩ := rx
  obtain ⟨t', rfl⟩ := ry
  exact rule i j t t' s _ _ ⟨.int (g i j), H, I.tok _, ⟨_, rfl⟩, q⟩
theorem opB0 {f : Value → Value → Sem Value} {g : Int → Int → Bool}
    (rule : ∀ (i j : Int) (t u : Tok) (s : Shared) (Q : Value → Shared → Prop) (E : Value → Shared → Prop), Q (.bool (g i j)) s → wpAny (model X.prog X.w) X.A (f (.int i t) (.int j u)) Q E s) :
    OpR X f (rI0 fun i j => .bl (g i j)) := by
  intro pins s σ H x y v u Q I rx ry h
  obtain ⟨i, j, rfl, rfl, q⟩ := h
  obtain ⟨t, rfl⟩ := rx
  obtain ⟨t', rfl⟩ := ry
  exact rule i j t t' s _ _ ⟨.bl (g i j), H, I, rfl, q⟩

def CDiv (i j : Int) : Prop := 0 < j ∧ j < 1073741824
def CDivN (i j : Int) : Prop := j ≠ 0 ∧ j.natAbs < 1073741824
def CPow (i j : Int) : Prop := 0 ≤ j ∧ j ≤ 1000000 ∧ i.natAbs < 2 ^ 64
def CMul (i j : Int) : Prop := (-(2 ^ 64) < i ∧ i < 2 ^ 64) ∨ (-(2 ^ 64) < j ∧ j < 2 ^ 64)
theorem CMul.ok {i j : Int} (h : CMul i j) : IntMulOk i j := by
  rcases h with ⟨h1, h2⟩ | ⟨h1, h2⟩
  · exact .of_left (intBits_le_64 h1 h2)
  · exact .of_right (intBits_le_64 h1 h2)
theorem two_pow_nn (k : Nat) : (0 : Int) ≤ 2 ^ k := by
  rw [two_pow_cast]
  exact Int.natCast_nonneg _

theorem op_add : OpR X (binaryOp .Add) (rI0 fun i j => .int (i + j)) := opI0 fun _ _ _ _ _ _ _ q => add_int q
theorem op_sub : OpR X (binaryOp .Sub) (rI0 fun i j => .int (i - j)) := opI0 fun _ _ _ _ _ _ _ q => sub_int q
theorem op_mul : OpR X (binaryOp .Mult) (rI CMul fun i j => .int (i * j)) := opI fun _ _ _ _ _ _ _ hc q => mul_int q hc.ok
/-- // by a positive divisor -/
theorem op_fdiv : OpR X (binaryOp .FloorDiv) (rI CDiv fun i j => .int (i / j)) := opI fun i j _ _ _ _ _ hc q => by
  have h1 : (0 : Int) < j := hc.1
  have h2 : j < 1073741824 := hc.2
  exact floordiv_int (by omega) (by rw [Int.fdiv_eq_ediv_of_nonneg i (by omega)]; exact q) (.inl (PyProof.noPylong_small (by omega)))
theorem op_fdivN : OpR X (binaryOp .FloorDiv) (rI CDivN fun i j => .int (i.fdiv j)) := opI fun _ _ _ _ _ _ _ hc q => floordiv_int hc.1 q (.inl (PyProof.noPylong_small hc.2))
/-- % by a positive divisor of any size -/
theorem op_mod : OpR X (binaryOp .Mod) (rI (fun _ j => 0 < j) fun i j => .int (i % j)) := opI fun i j _ _ _ _ _ hc q => by
  have h1 : (0 : Int) < j := hc
  exact mod_int' (by omega) (by rw [Int.fmod_eq_emod_of_nonneg i (by omega)]; exact q)
theorem op_modN : OpR X (binaryOp .Mod) (rI (fun _ j => j ≠ 0) fun i j => .int (i.fmod j)) := opI fun _ _ _ _ _ _ _ hc q => mod_int' hc q
theorem op_pow : OpR X (binaryOp .Pow) (rI CPow fun i j => .int (i ^ j.toNat)) := opI fun _ _ _ _ _ _ _ hc q => pow_int_small hc.1 hc.2.1 hc.2.2 q
theorem op_shl : OpR X (binaryOp .LShift) (rI CPow fun i j => .int (i * 2 ^ j.toNat)) := opI fun _ _ _ _ _ _ _ hc q => lshift_int_small hc.1 hc.2.1 hc.2.2 q
theorem op_shr : OpR X (binaryOp .RShift) (rI (fun _ j => 0 ≤ j) fun i j => .int (i / 2 ^ j.toNat)) := opI fun i j _ _ _ _ _ hc q =>
  rshift_int hc (by rw [Int.fdiv_eq_ediv_of_nonneg i (two_pow_nn _)]; exact q)
theorem op_and : OpR X (binaryOp .BitAnd) (rI0 fun i j => .int (Builtin.bitAnd i j)) := opI0 fun _ _ _ _ _ _ _ q => and_int q
theorem op_or : OpR X (binaryOp .BitOr) (rI0 fun i j => .int (Builtin.bitOr i j)) := opI0 fun _ _ _ _ _ _ _ q => or_int q
theorem op_xor : OpR X (binaryOp .BitXor) (rI0 fun i j => .int (Builtin.bitXor i j)) := opI0 fun _ _ _ _ _ _ _ q => xor_int q

theorem iop_add : OpR X (inplaceOp .Add) (rI0 fun i j => .int (i + j)) := opI0 fun _ _ _ _ _ _ _ q => iadd_int q
theorem iop_sub : OpR X (inplaceOp .Sub) (rI0 fun i j => .int (i - j)) := opI0 fun _ _ _ _ _ _ _ q => isub_int q
theorem iop_mul : OpR X (inplaceOp .Mult) (rI CMul fun i j => .int (i * j)) := opI fun _ _ _ _ _ _ _ hc q => imul_int q hc.ok
theorem iop_fdiv : OpR X (inplaceOp .FloorDiv) (rI CDiv fun i j => .int (i / j)) := opI fun i j _ _ _ _ _ hc q => by
  have h1 : (0 : Int) < j := hc.1
  have h2 : j < 1073741824 := hc.2
  exact ifloordiv_int (by omega) (by rw [Int.fdiv_eq_ediv_of_nonneg i (by omega)]; exact q) (.inl (PyProof.noPylong_small (by omega)))
theorem iop_mod : OpR X (inplaceOp .Mod) (rI (fun _ j => 0 < j) fun i j => .int (i % j)) := opI fun i j _ _ _ _ _ hc q => by
  have h1 : (0 : Int) < j := hc
  exact imod_int (by omega) (by rw [Int.fmod_eq_emod_of_nonneg i (by omega)]; exact q)
theorem iop_shl : OpR X (inplaceOp .LShift) (rI CPow fun i j => .int (i * 2 ^ j.toNat)) := opI fun _ _ _ _ _ _ _ hc q => ilshift_int_small hc.1 hc.2.1 hc.2.2 q
theorem iop_shr : OpR X (inplaceOp .RShift) (rI (fun _ j => 0 ≤ j) fun i j => .int (i / 2 ^ j.toNat)) := opI fun i j _ _ _ _ _ hc q =>
  irshift_int hc (by rw [Int.fdiv_eq_ediv_of_nonneg i (two_pow_nn _)]; exact q)
theorem iop_and : OpR X (inplaceOp .BitAnd) (rI0 fun i j => .int (Builtin.bitAnd i j)) := opI0 fun _ _ _ _ _ _ _ q => iand_int q
theorem iop_or : OpR X (inplaceOp .BitOr) (rI0 fun i j => .int (Builtin.bitOr i j)) := opI0 fun _ _ _ _ _ _ _ q => ior_int q
theorem iop_xor : OpR X (inplaceOp .BitXor) (rI0 fun i j => .int (Builtin.bitXor i j)) := opI0 fun _ _ _ _ _ _ _ q => ixor_int q

theorem unI {f : Value → Sem Value} {g : Int → Int}
    (rule : ∀ (i : Int) (t : Tok) (s : Shared) (Q : Value → Shared → Prop) (E : Value → Shared → Prop), Q (.int (g i) s.toks) { s with toks := s.toks + 1 } → wpAny (model X.prog X.w) X.A (f (.int i t)) Q E s) :
    UnR X f (rU fun i => .int (g i)) := by
  intro pins s σ H x v Q I rx h
  obtain ⟨i, rfl, q⟩ := h
  obtain ⟨t, rfl⟩ := rx
  exact rule i t s _ _ ⟨.int (g i), H, I.tok _, ⟨_, rfl⟩, q⟩
theorem un_neg : UnR X (unaryOp .USub) (rU fun i => .int (-i)) := unI fun _ _ _ _ _ q => neg_int q
theorem un_inv : UnR X (unaryOp .Invert) (rU fun i => .int (Builtin.bitNot i)) := unI fun _ _ _ _ _ q => invert_int q

/-! ### bools among ints: n += (a < b) -/
theorem op_add_ib : OpR X (binaryOp .Add) (fun x y H Q => ∃ i k, x = .int i ∧ y = .bl k ∧ Q (.int (i + b2i k)) H) := by
  intro pins s σ H x y v u Q I rx ry h
  obtain ⟨i, k, rfl, rfl, q⟩ := h
  obtain ⟨t, rfl⟩ := rx
  cases ry
  exact add_int_bool ⟨.int (i + b2i k), H, I.tok _, ⟨_, rfl⟩, q⟩
end

/-! ### comparisons -/
/-- the scalars that == tells apart as data does -/
def scal : V → V → Bool
  | .non, .non => true | .non, .int _ => true | .int _, .non => true | .non, .bl _ => true | .bl _, .non => true | .non, .str _ => true | .str _, .non => true
  | .int _, .int _ => true | .bl _, .bl _ => true | .str _, .str _ => true | .byt _, .byt _ => true
  | .int _, .str _ => true | .str _, .int _ => true | .bl _, .str _ => true | .str _, .bl _ => true
  | _, _ => false
def rEq : R2 := fun x y H Q => scal x y = true ∧ Q (.bl (decide (x = y))) H
def rNe : R2 := fun x y H Q => scal x y = true ∧ Q (.bl (!decide (x = y))) H

theorem dec_int {i j : Int} : decide (V.int i = V.int j) = (i == j) := by
  rw [Bool.eq_iff_iff]
  simp
theorem dec_bl {i j : Bool} : decide (V.bl i = V.bl j) = (i == j) := by
  rw [Bool.eq_iff_iff]
  simp
theorem dec_str {i j : Str} : decide (V.str i = V.str j) = (i == j) := by
  rw [Bool.eq_iff_iff]
  simp
theorem dec_byt {i j : Array UInt8} : decide (V.byt i = V.byt j) = (i.toList == j.toList) := by
  rw [Bool.eq_iff_iff]
  cases i
  cases j
  simp

section
variable {X : Cx} {a b c : Expr} {ta tb tc : TE} {pos : Pos}
theorem fin_bl {pins : List (Addr × Obj)} {σ : St} {H : Hp} {s : Shared} {Q : VK} {k k' : Bool} (I : Inv X pins σ H s) (q : Q (.bl k) H) (e : k = k') : EP X pins σ Q (.bool k') s := by
  subst e
  exact ⟨.bl k, H, I, rfl, q⟩
theorem op_eq : OpR X (compareOp .Eq) rEq := by
  intro pins s σ H x y v u Q I rx ry h
  obtain ⟨hs, q⟩ := h
  cases x with
  | non =>
    cases rx
    cases y with
    | non => cases ry; exact PySem.EqNone.eq_none_none (fin_bl I q (by simp))
    | bl j => cases ry; exact PySem.EqNone.eq_none_bool (fin_bl I q (by simp))
    | int j => obtain ⟨t', rfl⟩ := ry; exact PySem.EqNone.eq_none_int (fin_bl I q (by simp))
    | str j => obtain ⟨t', rfl⟩ := ry; exact PySem.EqNone.eq_none_str (fin_bl I q (by simp))
    | _ => exact absurd (show false = true from hs) Bool.false_ne_true
  | bl i =>
    cases rx
    cases y with
    | non => cases ry; exact PySem.EqNone.eq_bool_none (fin_bl I q (by simp))
    | bl j => cases ry; exact eq_bool (fin_bl I q dec_bl)
    | str j => obtain ⟨t', rfl⟩ := ry; exact PySem.EqMixed.eq_bool_str (fin_bl I q (by simp))
    | _ => exact absurd (show false = true from hs) Bool.false_ne_true
  | int i =>
    obtain ⟨t, rfl⟩ := rx
    cases y with
    | non => cases ry; exact PySem.EqNone.eq_int_none (fin_bl I q (by simp))
    | int j => obtain ⟨t', rfl⟩ := ry; exact eq_int (fin_bl I q dec_int)
    | str j => obtain ⟨t', rfl⟩ := ry; exact PySem.EqMixed.eq_int_str (fin_bl I q (by simp))
    | _ => exact absurd (show false = true from hs) Bool.false_ne_true
  | str i =>
    obtain ⟨t, rfl⟩ := rx
    cases y with
    | non => cases ry; exact PySem.EqNone.eq_str_none (fin_bl I q (by simp))
    | bl j => cases ry; exact PySem.EqMixed.eq_str_bool (fin_bl I q (by simp))
    | int j => obtain ⟨t', rfl⟩ := ry; exact PySem.EqMixed.eq_str_int (fin_bl I q (by simp))
    | str j => obtain ⟨t', rfl⟩ := ry; exact eq_str (fin_bl I q dec_str)
    | _ => exact absurd (show false = true from hs) Bool.false_ne_true
  | byt i =>
    obtain ⟨t, rfl⟩ := rx
    cases y with
    | byt j => obtain ⟨t', rfl⟩ := ry; exact PySem.W.eq_bytes (fin_bl I q dec_byt)
    | _ => exact absurd (show false = true from hs) Bool.false_ne_true
  | _ => cases y <;> exact absurd (show false = true from hs) Bool.false_ne_true
theorem op_ne : OpR X (compareOp .NotEq) rNe := by
  intro pins s σ H x y v u Q I rx ry h
  obtain ⟨hs, q⟩ := h
  cases x with
  | non =>
    cases rx
    cases y with
    | non => cases ry; exact PySem.EqNone.ne_none_none (fin_bl I q (by simp))
    | bl j => cases ry; exact PySem.EqNone.ne_none_bool (fin_bl I q (by simp))
    | int j => obtain ⟨t', rfl⟩ := ry; exact PySem.EqNone.ne_none_int (fin_bl I q (by simp))
    | str j => obtain ⟨t', rfl⟩ := ry; exact PySem.EqNone.ne_none_str (fin_bl I q (by simp))
    | _ => exact absurd (show false = true from hs) Bool.false_ne_true
  | bl i =>
    cases rx
    cases y with
    | non => cases ry; exact PySem.EqNone.ne_bool_none (fin_bl I q (by simp))
    | bl j => cases ry; exact ne_bool (fin_bl I q (congrArg not dec_bl))
    | str j => obtain ⟨t', rfl⟩ := ry; exact PySem.EqMixed.ne_bool_str (fin_bl I q (by simp))
    | _ => exact absurd (show false = true from hs) Bool.false_ne_true
  | int i =>
    obtain ⟨t, rfl⟩ := rx
    cases y with
    | non => cases ry; exact PySem.EqNone.ne_int_none (fin_bl I q (by simp))
    | int j => obtain ⟨t', rfl⟩ := ry; exact ne_int (fin_bl I q (congrArg not dec_int))
    | str j => obtain ⟨t', rfl⟩ := ry; exact PySem.EqMixed.ne_int_str (fin_bl I q (by simp))
    | _ => exact absurd (show false = true from hs) Bool.false_ne_true
  | str i =>
    obtain ⟨t, rfl⟩ := rx
    cases y with
    | non => cases ry; exact PySem.EqNone.ne_str_none (fin_bl I q (by simp))
    | bl j => cases ry; exact PySem.EqMixed.ne_str_bool (fin_bl I q (by simp))
    | int j => obtain ⟨t', rfl⟩ := ry; exact PySem.EqMixed.ne_str_int (fin_bl I q (by simp))
    | str j => obtain ⟨t', rfl⟩ := ry; exact ne_str (fin_bl I q (congrArg not dec_str))
    | _ => exact absurd (show false = true from hs) Bool.false_ne_true
  | byt i =>
    obtain ⟨t, rfl⟩ := rx
    cases y with
    | byt j => obtain ⟨t', rfl⟩ := ry; exact PySem.W.ne_bytes (fin_bl I q (congrArg not dec_byt))
    | _ => exact absurd (show false = true from hs) Bool.false_ne_true
  | _ => cases y <;> exact absurd (show false = true from hs) Bool.false_ne_true

theorem op_lt : OpR X (compareOp .Lt) (rI0 fun i j => .bl (decide (i < j))) := opB0 fun _ _ _ _ _ _ _ q => lt_int q
theorem op_le : OpR X (compareOp .LtE) (rI0 fun i j => .bl (decide (i ≤ j))) := opB0 fun _ _ _ _ _ _ _ q => le_int q
theorem op_gt : OpR X (compareOp .Gt) (rI0 fun i j => .bl (decide (j < i))) := opB0 fun _ _ _ _ _ _ _ q => gt_int q
theorem op_ge : OpR X (compareOp .GtE) (rI0 fun i j => .bl (decide (j ≤ i))) := opB0 fun _ _ _ _ _ _ _ q => ge_int q
theorem op_lt_str : OpR X (compareOp .Lt) (fun x y H Q => ∃ i j, x = .str i ∧ y = .str j ∧ Q (.bl (decide (i.cps.toList < j.cps.toList))) H) := by
  intro pins s σ H x y v u Q I rx ry h
  obtain ⟨i, j, rfl, rfl, q⟩ := h
  obtain ⟨t, rfl⟩ := rx
  obtain ⟨t', rfl⟩ := ry
  exact lt_str (fin_bl I q rfl)
/-- the one string within the other -/
theorem op_in_str : OpR X (compareOp .In) (fun x y H Q => ∃ i j, x = .str i ∧ y = .str j ∧ Q (.bl (!(Builtin.Str.occurrences j i 0 j.length 1).isEmpty)) H) := by
  intro pins s σ H x y v u Q I rx ry h
  obtain ⟨i, j, rfl, rfl, q⟩ := h
  obtain ⟨t, rfl⟩ := rx
  obtain ⟨t', rfl⟩ := ry
  exact in_str (fin_bl I q rfl)

/-- is None, is not None: the right side a value none -/
theorem op_isN : OpR X (compareOp .Is) (fun x y H Q => y = .non ∧ Q (.bl (decide (x = .non))) H) := by
  intro pins s σ H x y v u Q I rx ry h
  obtain ⟨rfl, q⟩ := h
  cases ry
  refine is_none_gen (fin_bl I q ?_)
  cases x <;> first
    | (cases rx; rfl)
    | (obtain ⟨t, rfl⟩ := rx; rfl)
theorem op_notN : OpR X (compareOp .IsNot) (fun x y H Q => y = .non ∧ Q (.bl (!decide (x = .non))) H) := by
  intro pins s σ H x y v u Q I rx ry h
  obtain ⟨rfl, q⟩ := h
  cases ry
  refine isnot_none_gen (fin_bl I q ?_)
  cases x <;> first
    | (cases rx; rfl)
    | (obtain ⟨t, rfl⟩ := rx; rfl)

theorem op_notin_str : OpR X (compareOp .NotIn) (fun x y H Q => ∃ i j, x = .str i ∧ y = .str j ∧ Q (.bl (!(!(Builtin.Str.occurrences j i 0 j.length 1).isEmpty))) H) := by
  intro pins s σ H x y v u Q I rx ry h
  obtain ⟨i, j, rfl, rfl, q⟩ := h
  obtain ⟨t, rfl⟩ := rx
  obtain ⟨t', rfl⟩ := ry
  exact notIn_str (fin_bl I q rfl)
/-- is, is not of two objects that are tracked lists or instances -/
def isObj : HO → Bool
  | .lst _ => true
  | .ins _ _ _ => true
  | _ => false
theorem obj_there {pins : List (Addr × Obj)} {s : Shared} {σ : St} {H : Hp} {a : Addr} {o : HO} (I : Inv X pins σ H s) (h : H a = some o) (p : isObj o = true) : ∃ ob, s.heap.get? a = some ob ∧ ob.cls ≠ .type "tuple" := by
  cases o with
  | lst xs =>
    obtain ⟨_, its, n, _, e⟩ : xs.length ≤ sizeLine ∧ ∃ (its : List Value) (n : Nat), Vals xs its ∧ s.heap.get? a = some { cls := .type "list", data := .seq its.toArray n } := I.hok a _ h
    exact ⟨_, e, (by show Value.type "list" ≠ .type "tuple"; decide +kernel)⟩
  | ins C dx fs =>
    have x := I.hok a _ h
    obtain ⟨_, _, _, e, _⟩ := x
    exact ⟨_, e, (by show Value.ref C ≠ .type "tuple"; exact fun z => by cases z)⟩
  | _ => exact absurd (show false = true from p) Bool.false_ne_true
theorem op_is_ref : OpR X (compareOp .Is) (fun x y H Q => ∃ a b oa ob, x = .ref a ∧ y = .ref b ∧ H a = some oa ∧ isObj oa = true ∧ H b = some ob ∧ isObj ob = true ∧ Q (.bl (decide (a = b))) H) := by
  intro pins s σ H x y v u Q I rx ry h
  obtain ⟨a, b, oa, ob, rfl, rfl, ha, pa, hb, pb, q⟩ := h
  cases rx
  cases ry
  obtain ⟨o1, e1, n1⟩ := obj_there I ha pa
  obtain ⟨o2, e2, _⟩ := obj_there I hb pb
  by_cases z : a = b
  · subst z
    exact wpAny_is_ref_self (fin_bl I q (by simp))
  · exact wpAny_is_ref_other z e1 e2 n1 (fin_bl I q (by simp [z]))
theorem op_isnot_ref : OpR X (compareOp .IsNot) (fun x y H Q => ∃ a b oa ob, x = .ref a ∧ y = .ref b ∧ H a = some oa ∧ isObj oa = true ∧ H b = some ob ∧ isObj ob = true ∧ Q (.bl (!decide (a = b))) H) := by
  intro pins s σ H x y v u Q I rx ry h
  obtain ⟨a, b, oa, ob, rfl, rfl, ha, pa, hb, pb, q⟩ := h
  cases rx
  cases ry
  obtain ⟨o1, e1, n1⟩ := obj_there I ha pa
  obtain ⟨o2, e2, _⟩ := obj_there I hb pb
  by_cases z : a = b
  · subst z
    exact wpAny_isNot_ref_self (fin_bl I q (by simp))
  · exact wpAny_isNot_ref_other z e1 e2 n1 (fin_bl I q (by simp [z]))

/-- two rules for one operation: by cases -/
theorem OpR.or {f : Value → Value → Sem Value} {r r' : R2} (h : OpR X f r) (h' : OpR X f r') : OpR X f (fun x y H Q => r x y H Q ∨ r' x y H Q) := by
  intro pins s σ H x y v u Q I rx ry q
  rcases q with q | q
  · exact h pins s σ H x y v u Q I rx ry q
  · exact h' pins s σ H x y v u Q I rx ry q

theorem nomark (b : Expr) {op : CmpOp} (h : op ≠ .In := by decide) (h2 : op ≠ .NotIn := by decide) : behindInMarks op b = false := by
  have e1 : (op == CmpOp.In) = false := by cases op <;> first | rfl | exact absurd rfl h
  have e2 : (op == CmpOp.NotIn) = false := by cases op <;> first | rfl | exact absurd rfl h2
  cases b <;> simp [behindInMarks, e1, e2]
/-- a comparison as a value; hm: nomark b, or (for in, not in) by with_unfolding_all rfl -/
theorem pe_cmpR {op : CmpOp} {r : R2} (ho : OpR X (compareOp op) r) (ha : PE X a ta) (hb : PE X b tb) (hm : behindInMarks op b = false) : PE X (.Compare a [op] [b] pos) (tOp r ta tb) := by
  intro pins s σ H Q I h
  exact wpAny_Compare1 (binT ha hb I h fun v u s2 x y H2 I2 rx ry q => ho pins s2 σ H2 x y v u Q I2 rx ry q) hm
/-- a reading of a value as a test -/
def tTest (t : TE) : TT := fun σ H Q => t σ H fun x H' => ∃ k, x = .bl k ∧ Q k H'
theorem pt_cmpR {op : CmpOp} {r : R2} (ho : OpR X (compareOp op) r) (ha : PE X a ta) (hb : PE X b tb) (hm : behindInMarks op b = false) : PT X (.Compare a [op] [b] pos) (tTest (tOp r ta tb)) := by
  intro pins s σ H Q I h
  refine wpAny_isTrue_Compare1 (thn (ha pins s σ H _ I h) fun v s1 ⟨x, H1, I1, r1, q1⟩ => thn (hb pins s1 σ H1 _ I1 q1) fun u s2 ⟨y, H2, I2, r2, q2⟩ =>
    thn (ho pins s2 σ H2 x y v u _ I2 r1 r2 q2) fun c s3 ⟨z, H3, I3, r3, k, e, q3⟩ => ?_) hm
  subst e
  cases r3
  exact wpAny_truthy_bool ⟨H3, I3, q3⟩
/-- a op1 b op2 c -/
def tChain (r r' : R2) (ta tb tc : TE) : TE := fun σ H Q => ta σ H fun x H1 => tb σ H1 fun y H2 => r x y H2 fun z H3 => ∃ k, z = .bl k ∧
  (if k = true then tc σ H3 fun w' H4 => r' y w' H4 Q else Q (.bl false) H3)
theorem pe_chain {op op' : CmpOp} {r r' : R2} (ho : OpR X (compareOp op) r) (ho' : OpR X (compareOp op') r') (ha : PE X a ta) (hb : PE X b tb) (hc : PE X c tc)
    (hm : lastMarks [op, op'] [b, c] = false := by with_unfolding_all rfl) : PE X (.Compare a [op, op'] [b, c] pos) (tChain r r' ta tb tc) := by
  intro pins s σ H Q I h
  refine Compare_chain (thn (ha pins s σ H _ I h) fun v s1 ⟨x, H1, I1, r1, q1⟩ => chain_link (thn (hb pins s1 σ H1 _ I1 q1) fun u s2 ⟨y, H2, I2, r2, q2⟩ =>
    thn (ho pins s2 σ H2 x y v u _ I2 r1 r2 q2) fun d s3 ⟨z, H3, I3, r3, k, e, q3⟩ => ?_)) hm
  subst e
  cases r3
  refine wpAny_truthy_bool ?_
  cases k with
  | false => exact ite_ff ⟨.bl false, H3, I3, rfl, q3⟩
  | true => exact ite_tt (chain_last (thn (hc pins s3 σ H3 _ I3 q3) fun w' s4 ⟨z', H4, I4, r4, q4⟩ => ho' pins s4 σ H4 y z' u w' Q I4 r2 r4 q4))
theorem pt_chain {op op' : CmpOp} {r r' : R2} (ho : OpR X (compareOp op) r) (ho' : OpR X (compareOp op') r') (ha : PE X a ta) (hb : PE X b tb) (hc : PE X c tc)
    (hm : lastMarks [op, op'] [b, c] = false := by with_unfolding_all rfl) : PT X (.Compare a [op, op'] [b, c] pos) (tTest (tChain r r' ta tb tc)) := by
  intro pins s σ H Q I h
  refine isTrue_chain (thn (ha pins s σ H _ I h) fun v s1 ⟨x, H1, I1, r1, q1⟩ => test_link (thn (hb pins s1 σ H1 _ I1 q1) fun u s2 ⟨y, H2, I2, r2, q2⟩ =>
    thn (ho pins s2 σ H2 x y v u _ I2 r1 r2 q2) fun d s3 ⟨z, H3, I3, r3, k, e, q3⟩ => ?_)) hm
  subst e
  cases r3
  refine wpAny_truthy_bool ?_
  cases k with
  | false =>
    obtain ⟨k', e', q'⟩ := q3
    cases e'
    exact ite_ff ⟨H3, I3, q'⟩
  | true =>
    refine ite_tt (test_last (thn (hc pins s3 σ H3 _ I3 q3) fun w' s4 ⟨z', H4, I4, r4, q4⟩ => thn (ho' pins s4 σ H4 y z' u w' _ I4 r2 r4 q4) fun d' s5 ⟨z2, H5, I5, r5, k2, e2, q5⟩ => ?_))
    subst e2
    cases r5
    exact wpAny_truthy_bool ⟨H5, I5, q5⟩

/-! ### truth -/
/-- a value's truth by the abstract heap -/
def TruV (K : PySem.W.Frag) (x : V) (H : Hp) (k : Bool) : Prop :=
  match x with
  | .non => k = false
  | .bl b => k = b
  | .int i => k = (i != 0)
  | .str y => y.length ≤ sizeLine ∧ k = ((y.length : Int) != 0)
  | .byt y => y.size ≤ sizeLine ∧ k = ((y.size : Int) != 0)
  | .ref p => (∃ xs, SqL K H p xs ∧ k = !xs.isEmpty) ∨ (∃ xs, SqT K H p xs ∧ k = !xs.isEmpty) ∨ ∃ kvs, H p = some (.dK kvs) ∧ k = !kvs.isEmpty
  | _ => False
theorem isEmpty_kv {κ : Type} {kvs : List (κ × V)} {vs : List (κ × Value)} (r : KV kvs vs) : (!vs.isEmpty) = !kvs.isEmpty := by
  cases r <;> rfl
theorem isEmpty_of {xs : List V} {its : List Value} (r : Vals xs its) : (!its.toArray.isEmpty) = !xs.isEmpty := by
  cases r <;> simp
theorem line63 : (sizeLine : Nat) < 2 ^ 63 := by rw [sizeLine_eq]; decide
theorem tru_ok : TruR X (fun x H Q => ∃ k, TruV X.K x H k ∧ Q k H) := by
  intro pins s σ H x v Q I rx h
  obtain ⟨k, e, q⟩ := h
  have hl := line63
  have hs : sizeLine = 16777216 := sizeLine_eq
  cases x with
  | non =>
    cases rx
    have e' : k = false := e
    subst e'
    exact truthy_none ⟨H, I, q⟩
  | bl b =>
    cases rx
    have e' : k = b := e
    subst e'
    exact wpAny_truthy_bool ⟨H, I, q⟩
  | int i =>
    obtain ⟨t, rfl⟩ := rx
    have e' : k = (i != 0) := e
    subst e'
    exact PySem.P.truthy_int ⟨H, I, q⟩
  | str y =>
    obtain ⟨t, rfl⟩ := rx
    obtain ⟨hy, e'⟩ : y.length ≤ sizeLine ∧ k = ((y.length : Int) != 0) := e
    subst e'
    exact PySem.P.truthy_str (by omega) ⟨H, I.tok _, q⟩
  | byt y =>
    obtain ⟨t, rfl⟩ := rx
    obtain ⟨hy, e'⟩ : y.size ≤ sizeLine ∧ k = ((y.size : Int) != 0) := e
    subst e'
    exact PySem.W.truthy_bytes (by omega) ⟨H, I.tok _, q⟩
  | ref p =>
    cases rx
    have e' : (∃ xs, SqL X.K H p xs ∧ k = !xs.isEmpty) ∨ (∃ xs, SqT X.K H p xs ∧ k = !xs.isEmpty) ∨ ∃ kvs, H p = some (.dK kvs) ∧ k = !kvs.isEmpty := e
    rcases e' with ⟨xs, hx, e'⟩ | ⟨xs, hx, e'⟩ | ⟨kvs, hx, e'⟩
    · subst e'
      obtain ⟨its, r, pl, hz⟩ := I.list hx
      have hlen := r.length
      exact wpAny_truthy_list pl.isList (by simp only [List.size_toArray]; omega) ⟨H, I.tok _, by rw [isEmpty_of r]; exact q⟩
    · subst e'
      obtain ⟨its, r, pl, hz⟩ := I.tuple hx
      have hlen := r.length
      exact truthy_tuple pl (by simp only [List.size_toArray]; omega) ⟨H, I.tok _, by rw [isEmpty_of r]; exact q⟩
    · subst e'
      obtain ⟨hz, hS, vs, r, m⟩ : kvs.length ≤ sizeLine ∧ (p == sysModules) = false ∧ ∃ vs, KV kvs vs ∧ s.heap.DictOf (mixKind X.prog X.w) p vs := I.hok p _ hx
      have hlen : kvs.length = vs.length := Paired.length r
      exact wpAny_truthy_dict hS m (by omega) ⟨H, I.tok _, by rw [isEmpty_kv r]; exact q⟩
  | _ => exact (show False from e).elim
/-- any expression whose test is its value's truth (a name, a call, a subscript, a field ..: he by fun _ => rfl) -/
theorem pt_truth (ha : PE X a ta) (he : ∀ whole, isTrue a X.env whole = (do let v ← whole; standAt a.pos; holding [v] (truthy v))) :
    PT X a (fun σ H Q => ta σ H fun x H' => ∃ k, TruV X.K x H' k ∧ Q k H') := by
  intro pins s σ H Q I h
  exact isTrue_plain (thn (ha pins s σ H _ I h) fun v s1 ⟨x, H1, I1, r1, q1⟩ => tru_ok pins s1 σ H1 x v Q I1 r1 q1) (he _)

/-! ### strs and bytes -/
theorem pe_byt {x : List UInt8} {k : Nat} : PE X (.Constant (.bytes x) k pos) (fun _ H Q => Q (.byt x.toArray) H) := fun _ _ _ H _ I h => PySem.W.Constant_bytes ⟨.byt x.toArray, H, I.tok _, ⟨_, rfl⟩, h⟩
theorem op_add_str : OpR X (binaryOp .Add) (fun x y H Q => ∃ i j, x = .str i ∧ y = .str j ∧ i.length + j.length ≤ sizeLine ∧ Q (.str (i ++ j)) H) := by
  intro pins s σ H x y v u Q I rx ry h
  obtain ⟨i, j, rfl, rfl, hz, q⟩ := h
  obtain ⟨t, rfl⟩ := rx
  obtain ⟨t', rfl⟩ := ry
  exact add_str (fun t' tk => ⟨.str (i ++ j), H, I.tok _, ⟨_, rfl⟩, q⟩) hz
theorem iop_add_str : OpR X (inplaceOp .Add) (fun x y H Q => ∃ i j, x = .str i ∧ y = .str j ∧ i.length + j.length ≤ sizeLine ∧ Q (.str (i ++ j)) H) := by
  intro pins s σ H x y v u Q I rx ry h
  obtain ⟨i, j, rfl, rfl, hz, q⟩ := h
  obtain ⟨t, rfl⟩ := rx
  obtain ⟨t', rfl⟩ := ry
  exact iadd_str (fun t' tk => ⟨.str (i ++ j), H, I.tok _, ⟨_, rfl⟩, q⟩) hz
theorem op_add_byt : OpR X (binaryOp .Add) (fun x y H Q => ∃ i j, x = .byt i ∧ y = .byt j ∧ i.size + j.size ≤ 16777216 ∧ Q (.byt (i ++ j)) H) := by
  intro pins s σ H x y v u Q I rx ry h
  obtain ⟨i, j, rfl, rfl, hz, q⟩ := h
  obtain ⟨t, rfl⟩ := rx
  obtain ⟨t', rfl⟩ := ry
  exact PySem.W.KBy.add_bytes hz (fun t' tk => ⟨.byt (i ++ j), H, I.tok _, ⟨_, rfl⟩, q⟩)

def PlainIxT (b : Expr) : Prop := ∀ o i, subscripted b false o i = operate [o, i] (getItem o i)
/-- s[i], 0 ≤ i < len -/
theorem pe_item_str (ha : PE X a ta) (hb : PE X b tb) (hs : PlainIxT b) :
    PE X (.Subscript a b pos) (tOp (fun x y H Q => ∃ z i c, x = .str z ∧ y = .int i ∧ 0 ≤ i ∧ i < 2 ^ 63 ∧ i < z.length ∧ z.cps[i.toNat]? = some c ∧ Q (.str ⟨#[c]⟩) H) ta tb) := by
  intro pins s σ H Q I h
  refine Subscript_ (binT ha hb I h fun v u s2 x y H2 I2 rx ry q => ?_)
  obtain ⟨z, i, c, rfl, rfl, h0, h63, h1, hc, q⟩ := q
  obtain ⟨t, rfl⟩ := rx
  obtain ⟨t', rfl⟩ := ry
  have e : seqIndex? i z.length = some i.toNat := PySem.StrLaws.seqIndex_nonneg h0 h1
  exact tail_any (typeIs_str s2 z t) slot_str_getitem.lookup (getItem_str (c := c) (by
    have e1 : decide (i < -(2 ^ 63 : Int)) = false := decide_eq_false (by omega)
    have e2 : decide (i ≥ 2 ^ 63) = false := decide_eq_false (by omega)
    rw [e1, e2] <;> rfl) (by rw [e]; exact hc) ⟨.str ⟨#[c]⟩, H2, I2.tok _, ⟨_, rfl⟩, q⟩) (hs _ _)
/-- b[i], 0 ≤ i < len -/
theorem pe_item_byt (ha : PE X a ta) (hb : PE X b tb) (hs : PlainIxT b) :
    PE X (.Subscript a b pos) (tOp (fun x y H Q => ∃ (z : List UInt8) (i : Int), x = .byt z.toArray ∧ y = .int i ∧ z.length ≤ sizeLine ∧ 0 ≤ i ∧ i < z.length ∧ Q (.int ((z.getD i.toNat 0).toNat : Nat)) H) ta tb) := by
  intro pins s σ H Q I h
  refine Subscript_ (binT ha hb I h fun v u s2 x y H2 I2 rx ry q => ?_)
  obtain ⟨z, i, rfl, rfl, hz, h0, h1, q⟩ := q
  obtain ⟨t, rfl⟩ := rx
  obtain ⟨t', rfl⟩ := ry
  have hl : sizeLine = 16777216 := sizeLine_eq
  exact tail_any (PySem.W.typeIs_bytes s2 z.toArray t) PySem.W.FB.slot_bytes_getitem.lookup (PySem.W.getItem_bytes (by omega) h0 h1 ⟨.int ((z.getD i.toNat 0).toNat : Nat), H2, I2.tok _, ⟨_, rfl⟩, q⟩) (hs _ _)

/-! ### scalar builtins, by CallR -/
theorem vals1 {x : V} {us : List Value} (r : Vals [x] us) : ∃ u, us = [u] ∧ RelV x u := by
  cases r with
  | cons r1 r2 => cases r2; exact ⟨_, rfl, r1⟩
theorem vals2 {x y : V} {us : List Value} (r : Vals [x, y] us) : ∃ u w', us = [u, w'] ∧ RelV x u ∧ RelV y w' := by
  cases r with
  | cons r1 r2 =>
    cases r2 with
    | cons r3 r4 => cases r4; exact ⟨_, _, rfl, r1, r3⟩
theorem call_abs : CallR X (.builtin "abs") (fun xs H Q => ∃ i, xs = [.int i] ∧ Q (.int (if i < 0 then -i else i)) H) := by
  intro pins s σ H xs us Q I r h
  obtain ⟨i, rfl, q⟩ := h
  obtain ⟨u, rfl, t, rfl⟩ := vals1 r
  exact call_abs_int fun u tk => ⟨.int (if i < 0 then -i else i), H, I.tok _, ⟨_, rfl⟩, q⟩
theorem call_max2 (hc : X.calm = true) : CallR X (.builtin "max") (fun xs H Q => ∃ i j, xs = [.int i, .int j] ∧ Q (.int (if j > i then j else i)) H) := by
  intro pins s σ H xs us Q I r h
  obtain ⟨i, j, rfl, q⟩ := h
  obtain ⟨u, w', rfl, ⟨t, rfl⟩, ⟨t', rfl⟩⟩ := vals2 r
  refine max_two_ints (I.ok.hd hc) fun h' tk k => ⟨_, H, I.kept k, ?_, q⟩
  by_cases hj : j > i
  · rw [if_pos hj, if_pos hj]; exact ⟨_, rfl⟩
  · rw [if_neg hj, if_neg hj]; exact ⟨_, rfl⟩
theorem call_min2 (hc : X.calm = true) : CallR X (.builtin "min") (fun xs H Q => ∃ i j, xs = [.int i, .int j] ∧ Q (.int (if j < i then j else i)) H) := by
  intro pins s σ H xs us Q I r h
  obtain ⟨i, j, rfl, q⟩ := h
  obtain ⟨u, w', rfl, ⟨t, rfl⟩, ⟨t', rfl⟩⟩ := vals2 r
  refine min_two_ints (I.ok.hd hc) fun h' tk k => ⟨_, H, I.kept k, ?_, q⟩
  by_cases hj : j < i
  · rw [if_pos hj, if_pos hj]; exact ⟨_, rfl⟩
  · rw [if_neg hj, if_neg hj]; exact ⟨_, rfl⟩
theorem call_int1 : CallR X (.type "int") (fun xs H Q => (∃ i, xs = [.int i] ∧ Q (.int i) H) ∨ ∃ k, xs = [.bl k] ∧ Q (.int (if k then 1 else 0)) H) := by
  intro pins s σ H xs us Q I r h
  rcases h with ⟨i, rfl, q⟩ | ⟨k, rfl, q⟩
  · obtain ⟨u, rfl, t, rfl⟩ := vals1 r
    exact call_int_int ⟨.int i, H, I, ⟨_, rfl⟩, q⟩
  · obtain ⟨u, rfl, r1⟩ := vals1 r
    cases r1
    exact call_int_bool ⟨.int (if k then 1 else 0), H, I.tok _, ⟨_, rfl⟩, q⟩
theorem call_bool1 : CallR X (.type "bool") (fun xs H Q => (∃ i, xs = [.int i] ∧ Q (.bl (i != 0)) H) ∨ ∃ k, xs = [.bl k] ∧ Q (.bl k) H) := by
  intro pins s σ H xs us Q I r h
  rcases h with ⟨i, rfl, q⟩ | ⟨k, rfl, q⟩
  · obtain ⟨u, rfl, t, rfl⟩ := vals1 r
    exact call_bool_int ⟨.bl (i != 0), H, I, rfl, q⟩
  · obtain ⟨u, rfl, r1⟩ := vals1 r
    cases r1
    exact call_bool_bool ⟨.bl k, H, I, rfl, q⟩
theorem call_str_int : CallR X (.type "str") (fun xs H Q => ∃ i, xs = [.int i] ∧ i.natAbs.log2 < 1920 ∧ Q (.str (toString i)) H) := by
  intro pins s σ H xs us Q I r h
  obtain ⟨i, rfl, hz, q⟩ := h
  obtain ⟨u, rfl, t, rfl⟩ := vals1 r
  exact PySem.P.str_of_int hz ⟨.str _, H, I.tok _, ⟨_, rfl⟩, q⟩
theorem call_ord : CallR X (.builtin "ord") (fun xs H Q => ∃ x, xs = [.str x] ∧ x.length = 1 ∧ Q (.int (x.cps.getD 0 0 : Nat)) H) := by
  intro pins s σ H xs us Q I r h
  obtain ⟨x, rfl, hz, q⟩ := h
  obtain ⟨u, rfl, t, rfl⟩ := vals1 r
  exact ord_of_one hz ⟨.int _, H, I.tok _, ⟨_, rfl⟩, q⟩
theorem call_chr : CallR X (.builtin "chr") (fun xs H Q => ∃ i, xs = [.int i] ∧ 0 ≤ i ∧ i ≤ 1114111 ∧ Q (.str ⟨#[i.toNat]⟩) H) := by
  intro pins s σ H xs us Q I r h
  obtain ⟨i, rfl, h0, h1, q⟩ := h
  obtain ⟨u, rfl, t, rfl⟩ := vals1 r
  exact chr_of_range h0 h1 ⟨.str _, H, I.tok _, ⟨_, rfl⟩, q⟩
/-- len of a str, a bytes, a list, a tuple -/
def LenV (K : PySem.W.Frag) (x : V) (H : Hp) (n : Nat) : Prop :=
  match x with
  | .str y => y.length ≤ sizeLine ∧ n = y.length
  | .byt y => y.size ≤ sizeLine ∧ n = y.size
  | .ref p => (∃ xs, SqL K H p xs ∧ n = xs.length) ∨ ∃ xs, SqT K H p xs ∧ n = xs.length
  | _ => False
theorem call_len : CallR X (.builtin "len") (fun xs H Q => ∃ x n, xs = [x] ∧ LenV X.K x H n ∧ Q (.int n) H) := by
  intro pins s σ H xs us Q I r h
  obtain ⟨x, n, rfl, e, q⟩ := h
  obtain ⟨u, rfl, rx⟩ := vals1 r
  have hl := line63
  have hs : sizeLine = 16777216 := sizeLine_eq
  cases x with
  | str y =>
    obtain ⟨t, rfl⟩ := rx
    obtain ⟨hy, e'⟩ : y.length ≤ sizeLine ∧ n = y.length := e
    subst e'
    exact len_str (by omega) ⟨.int _, H, I.tok _, ⟨_, rfl⟩, q⟩
  | byt y =>
    obtain ⟨t, rfl⟩ := rx
    obtain ⟨hy, e'⟩ : y.size ≤ sizeLine ∧ n = y.size := e
    subst e'
    exact PySem.W.len_bytes (by omega) ⟨.int _, H, I.tok _, ⟨_, rfl⟩, q⟩
  | ref p =>
    cases rx
    have e' : (∃ xs, SqL X.K H p xs ∧ n = xs.length) ∨ ∃ xs, SqT X.K H p xs ∧ n = xs.length := e
    rcases e' with ⟨xs, hx, e'⟩ | ⟨xs, hx, e'⟩
    · subst e'
      obtain ⟨its, r', pl, hz⟩ := I.list hx
      have hlen := r'.length
      exact Calls.call_len_list pl.isList (by simp only [List.size_toArray]; omega) ⟨.int xs.length, H, I.tok _, ⟨_, by simp only [List.size_toArray]; rw [hlen]⟩, q⟩
    · subst e'
      obtain ⟨its, r', pl, hz⟩ := I.tuple hx
      have hlen := r'.length
      exact len_tuple pl (by simp only [List.size_toArray]; omega) ⟨.int xs.length, H, I.tok _, ⟨_, by simp only [List.size_toArray]; rw [hlen]⟩, q⟩
  | _ => exact (show False from e).elim
/-- divmod: a new tuple -/
theorem call_divmod : CallR X (.builtin "divmod") (fun xs H Q => ∃ i j, xs = [.int i, .int j] ∧ CDiv i j ∧ ∀ p, H p = none → Q (.ref p) (upd H p (.tup [.int (i / j), .int (i % j)]))) := by
  intro pins s σ H xs us Q I r h
  obtain ⟨i, j, rfl, ⟨h1, h2⟩, q⟩ := h
  obtain ⟨u, w', rfl, ⟨t, rfl⟩, ⟨t', rfl⟩⟩ := vals2 r
  refine divmod_int (by omega) ?_ (.inl (PyProof.noPylong_small (by omega)))
  rw [Int.fdiv_eq_ediv_of_nonneg i (by omega), Int.fmod_eq_emod_of_nonneg i (by omega)]
  have hn : H s.heap.objs.size = none := I.hok.fresh (Nat.le_refl _)
  refine ⟨.ref s.heap.objs.size, _, ?_, rfl, q _ hn⟩
  refine I.laid (fun b o e => Heap.get?_push_of_some _ e) (Nat.le_refl _) ⟨by simp only [List.length_cons, List.length_nil]; rw [sizeLine_eq]; decide, [.int (i / j) s.toks, .int (i % j) (s.toks + 1)], .cons ⟨_, rfl⟩ (.cons ⟨_, rfl⟩ .nil), ?_⟩
  exact ⟨_, Heap.get?_push_size s.heap rfl, rfl, 0, rfl⟩
end
end L2

namespace L2
open PySem PySem.Spec PyProof.Rows

/-! ### an instance, its attributes a map -/
structure ObjM (h : Heap) (x dx C : Addr) (mA : Str → Option Value) : Prop where
  obj : h.get? x = some (PySem.W.instObj C dx)
  ns : h.Ns1 dx mA
  ne : dx ≠ x

theorem lookIn_ns {h : Heap} {dx : Addr} {mA : Str → Option Value} (n : h.Ns1 dx mA) : ∃ od, h.get? dx = some od ∧ ∀ name, PySem.W.lookIn name od = some (mA name) := by
  obtain ⟨o, es, ep, ho, hd, hk, _, hm⟩ := n
  refine ⟨o, ho, fun name => ?_⟩
  have e := hm name
  unfold nsFind findBy at e
  rw [← Array.find?_toList] at e
  unfold PySem.W.lookIn
  rw [hd]
  dsimp only
  split
  · rename_i y q
    rw [q] at e
    exact congrArg some e
  · rename_i q
    rw [q] at e
    have a : es.toList.any (·.refKey) = false := by
      rw [List.any_eq_false]
      intro y hy
      obtain ⟨z, t, hkey⟩ := hk y (Array.mem_toList_iff.mp hy)
      simp [DictEntry.refKey, hkey]
    have a' : ¬ es.toList.any (·.refKey) = true := by rw [a]; exact Bool.false_ne_true
    rw [if_neg a']
    exact congrArg some e

theorem ObjM.look {h : Heap} {x dx C : Addr} {mA : Str → Option Value} (I : ObjM h x dx C mA) : ∃ od, PySem.W.InstAt h x (PySem.W.instObj C dx) C (some od) ∧ ∀ name, PySem.W.lookIn name od = some (mA name) :=
  let ⟨od, ho, hl⟩ := lookIn_ns I.ns
  ⟨od, ⟨I.obj, rfl, rfl, ho⟩, hl⟩

section
variable {prog : Program} {w : World} {A : Around} {E : Value → Shared → Prop} {s : Shared} {K : PySem.W.Frag} {x dx C f : Addr} {mA : Str → Option Value} {name : Str} {v : Value}

theorem get_map {expr : Bool} {Q : Value → Shared → Prop} (X : K.In s.heap) (I : ObjM s.heap x dx C mA) (hg : PySem.W.plainGet K C name = true) (hh : PySem.W.hasDictIn K C = true)
    (ha : PySem.W.findIn K (.ref C) name = some none) (hv : mA name = some v) (hv' : PySem.W.handedIn v = true) (h : Q v { s with toks := s.toks + 1 }) :
    wpAny (model prog w) A (getAttr (.ref x) name expr) Q E s := by
  obtain ⟨od, J, hl⟩ := I.look
  exact PySem.W.get_value X J (PySem.W.plainGet_of hg).1 (PySem.W.findObj_own hh ha rfl (by rw [hl, hv])) hv' h

theorem get_const {expr : Bool} {a : Value} {Q : Value → Shared → Prop} (X : K.In s.heap) (I : ObjM s.heap x dx C mA) (hg : PySem.W.plainGet K C name = true) (hh : PySem.W.hasDictIn K C = true)
    (ha : PySem.W.findIn K (.ref C) name = some (some a)) (hn : PySem.W.specialIn K a "__get__" = some none) (hc : PySem.W.copiedNames.contains name = false) (hv : mA name = none) (hv' : PySem.W.handedIn a = true)
    (h : Q a { s with toks := s.toks + 1 }) : wpAny (model prog w) A (getAttr (.ref x) name expr) Q E s := by
  obtain ⟨od, J, hl⟩ := I.look
  exact PySem.W.get_value X J (PySem.W.plainGet_of hg).1 (PySem.W.findObj_cls hh ha hn hv' hc (by rw [hl, hv])) hv' h

theorem get_meth {pl : Sem Bool} {Q : Value × List Value → Shared → Prop} (X : K.In s.heap) (I : ObjM s.heap x dx C mA) (hg : PySem.W.plainGet K C name = true)
    (hf : PySem.W.findIn K (.ref C) name = some (some (.ref f))) (ht : PySem.W.isFn K (.ref f) = true) (hv : mA name = none) (h : Q (.ref f, [.ref x]) s) :
    wpAny (model prog w) A (getMethod (.ref x) name pl) Q E s := by
  obtain ⟨od, J, hl⟩ := I.look
  exact PySem.W.method_fn X J (PySem.W.plainGet_of hg).1 (PySem.W.plainGet_of hg).2 hf (beq_iff_eq.mp ht) (by show (PySem.W.lookIn name od).map (·.isSome) = some false; rw [hl, hv]; rfl) h

theorem set_map {ns : List Str} {Q : Unit → Shared → Prop} (X : K.In s.heap) (I : ObjM s.heap x dx C mA)
    (hs : PySem.W.findIn K (.ref C) "__setattr__" = some (some (.builtin "object.__setattr__"))) (hp : PySem.W.plainOver K C = true) (ht : PySem.W.takerIn K C name = some none) (hh : PySem.W.hasDictIn K C = true)
    (hw : PySem.Within mA ns) (hsz : ns.length ≤ sizeLine)
    (h : ∀ h', ObjM h' x dx C (fun y => if y = name then some v else mA y) → Heap.SameBut dx s.heap h' → Q () { s with heap := h', toks := s.toks + 2 }) :
    wpAny (model prog w) A (setAttr (.ref x) name v) Q E s := by
  obtain ⟨od, J, hl⟩ := I.look
  refine PySem.W.set_plain X J hs (PySem.W.osa_open (s := { s with toks := s.toks + 1 }) (r := none) X J hp ht fun b => ?_)
  obtain ⟨cd, hc, hd'⟩ := PySem.W.any_some hh
  have hx : s.heap.get? x = some ⟨.ref C, some dx, .plain, #[]⟩ := I.obj
  refine wpAny_bind (wpAny_pure (wpAny_bind (wpAny_bind (wpAny_loadPart hx (wpAny_bind (PySem.W.Looks.here (s := { s with toks := s.toks + 1 }) (PySem.W.looks_clsIn X hc) ?_))))))
  rw [hd']
  refine wpAny_pure (a := some dx) (wpAny_bind (wpAny_pure (wpAny_bind ?_)))
  refine wpAny_nsSet1 (s := { s with toks := s.toks + 1 }) I.ns fun h' hn2 hs2 => ?_
  obtain ⟨oD, esD, epD, hoD, hdD, hcD⟩ := hn2.count (PySem.Within.cons name v hw)
  refine wpAny_bind (wpAny_lookBehind hoD (by rw [hdD]; exact pastItsLine_dict (Nat.le_trans hcD (by rw [List.length_cons]; omega))) ?_)
  exact wpAny_pure (h _ ⟨(hs2.2 _ (Ne.symm I.ne)).trans I.obj, hn2, I.ne⟩ hs2)

/-- C(..): the dict at the heap's end, the instance behind it; then its __init__ -/
theorem make_map {R : Result → Shared → Prop} {vs : List Value} {kw : List (Str × Value)} (X : K.In s.heap) (hm : PySem.W.makesIn K C = true)
    (hi : PySem.W.findIn K (.ref C) "__init__" = some (some (.ref f))) (hf : PySem.W.typeIn K (.ref f) = some (.type "function"))
    (h : codeAny (model prog w) (A.under (.builtin "type.__call__" ⟨.ref C :: vs, kw⟩)) (.call (.ref f) ⟨.ref (s.heap.objs.size + 1) :: vs, kw⟩) (PySem.W.InitBack (s.heap.objs.size + 1) R)
      { s with heap := (s.heap.push PySem.W.emptyDict).push (PySem.W.instObj C s.heap.objs.size) }) :
    codeAny (model prog w) A (.call (.ref C) ⟨vs, kw⟩) R s := by
  obtain ⟨hh, g, d, t, os⟩ := s
  exact PySem.W.make_core (PySem.W.makes_of X hm) (PySem.W.looks_findIn X hi) (fun self => PySem.W.bind_fn X self hf) (.inl rfl) h
/-- C() where there is no __init__ but object's -/
theorem make_map0 {R : Result → Shared → Prop} (X : K.In s.heap) (hm : PySem.W.makesIn K C = true)
    (hi : PySem.W.findIn K (.ref C) "__init__" = some (some (.builtin "object.__init__")))
    (hb : ∀ self, PySem.W.Looks (model prog w) s.heap (bindSpecial (.builtin "object.__init__") self) (.builtin "object.__init__", [self]))
    (h : codeAny (model prog w) (A.under (.builtin "type.__call__" ⟨[.ref C], []⟩)) (.call (.builtin "object.__init__") ⟨[.ref (s.heap.objs.size + 1)], []⟩) (PySem.W.InitBack (s.heap.objs.size + 1) R)
      { s with heap := (s.heap.push PySem.W.emptyDict).push (PySem.W.instObj C s.heap.objs.size) }) :
    codeAny (model prog w) A (.call (.ref C) ⟨[], []⟩) R s := by
  obtain ⟨hh, g, d, t, os⟩ := s
  exact PySem.W.make_core (PySem.W.makes_of X hm) (PySem.W.looks_findIn X hi) hb (.inr ⟨rfl, rfl⟩) h
end

/-! ### the attributes as a list of pairs -/
def putF (f : Str) (v : V) : List (Str × V) → List (Str × V)
  | [] => [(f, v)]
  | (g, x) :: r => if g = f then (g, v) :: r else (g, x) :: putF f v r
theorem lookup_putF (f g : Str) (v : V) : ∀ fs : List (Str × V), (putF f v fs).lookup g = if g = f then some v else fs.lookup g
  | [] => by
    show List.lookup g [(f, v)] = _
    by_cases h : g = f
    · have hb : (g == f) = true := beq_iff_eq.mpr h
      simp only [List.lookup, hb, if_pos h]
    · have hb : (g == f) = false := beq_eq_false_iff_ne.mpr h
      simp only [List.lookup, hb, if_neg h]
  | (k, x) :: r => by
    have ih := lookup_putF f g v r
    rw [show putF f v ((k, x) :: r) = (if k = f then (k, v) :: r else (k, x) :: putF f v r) from rfl]
    by_cases hk : k = f
    · rw [if_pos hk]
      by_cases h : g = k
      · have hb : (g == k) = true := beq_iff_eq.mpr h
        simp only [List.lookup, hb, if_pos (h.trans hk)]
      · have hb : (g == k) = false := beq_eq_false_iff_ne.mpr h
        simp only [List.lookup, hb, if_neg (fun e : g = f => h (e.trans hk.symm))]
    · rw [if_neg hk]
      by_cases h : g = k
      · have hb : (g == k) = true := beq_iff_eq.mpr h
        simp only [List.lookup, hb, if_neg (fun e : g = f => hk (h.symm.trans e))]
      · have hb : (g == k) = false := beq_eq_false_iff_ne.mpr h
        simp only [List.lookup, hb]
        exact ih
theorem keys_putF (f : Str) (v : V) : ∀ fs : List (Str × V), f ∈ (putF f v fs).map (·.1) ∧ ∀ g, g ∈ fs.map (·.1) → g ∈ (putF f v fs).map (·.1)
  | [] => ⟨by simp [putF], fun g h => by simp at h⟩
  | (k, x) :: r => by
    obtain ⟨i1, i2⟩ := keys_putF f v r
    rw [show putF f v ((k, x) :: r) = (if k = f then (k, v) :: r else (k, x) :: putF f v r) from rfl]
    by_cases hk : k = f
    · rw [if_pos hk]
      subst hk
      exact ⟨by simp, fun g h => by simpa using h⟩
    · rw [if_neg hk]
      refine ⟨?_, fun g h => ?_⟩
      · rw [List.map_cons]
        exact List.mem_cons_of_mem _ i1
      · rw [List.map_cons] at h ⊢
        rcases List.mem_cons.mp h with e | e
        · exact List.mem_cons.mpr (.inl e)
        · exact List.mem_cons_of_mem _ (i2 g e)
theorem length_putF (f : Str) (v : V) : ∀ fs : List (Str × V), (putF f v fs).length ≤ fs.length + 1
  | [] => by simp [putF]
  | (k, x) :: r => by
    have ih := length_putF f v r
    rw [show putF f v ((k, x) :: r) = (if k = f then (k, v) :: r else (k, x) :: putF f v r) from rfl]
    by_cases hk : k = f
    · rw [if_pos hk, List.length_cons, List.length_cons]; omega
    · rw [if_neg hk, List.length_cons, List.length_cons]; omega

theorem RelO.some_of {v : V} {o : Option Value} (r : RelO (some v) o) : ∃ u, o = some u ∧ RelV v u := by
  cases o with
  | none => exact (show False from r).elim
  | some u => exact ⟨u, rfl, r⟩
theorem RelO.none_of {o : Option Value} (r : RelO none o) : o = none := by
  cases o with
  | none => rfl
  | some u => exact (show False from r).elim
theorem handed_of {v : V} {u : Value} (r : RelV v u) : PySem.W.handedIn u = true := by
  cases v with
  | non => cases (show u = Value.none from r); rfl
  | bl b => cases (show u = Value.bool b from r); rfl
  | int i => obtain ⟨t, e⟩ := (show ∃ t, u = Value.int i t from r); cases e; rfl
  | str x => obtain ⟨t, e⟩ := (show ∃ t, u = Value.str x t from r); cases e; rfl
  | byt b => obtain ⟨t, e⟩ := (show ∃ t, u = Value.bytes b t from r); cases e; rfl
  | flt b => obtain ⟨t, e⟩ := (show ∃ t, u = Value.float b t from r); cases e; rfl
  | ref a => cases (show u = Value.ref a from r); rfl
  | ty n => cases (show u = Value.type n from r); rfl

section
variable {P : Program} {w : World} {H H' : Hp} {h h' : Heap} {a C dx : Addr} {fs fs' : List (Str × V)}
theorem ins_get (hok : HOk P w H h) (e : H a = some (.ins C dx fs)) : ∃ mA, ObjM h a dx C mA ∧ (∀ f, RelO (fs.lookup f) (mA f)) ∧ PySem.Within mA (fs.map (·.1)) ∧ fs.length ≤ 1000 ∧ H dx = some (.own a) := by
  obtain ⟨d, z, ne, ob, mA, n, r, q⟩ := (show ObjOk P w H h a (.ins C dx fs) from hok a _ e)
  exact ⟨mA, ⟨ob, n, ne⟩, r, q, z, d⟩
end

/-! ### what of the text a class must have -/
structure Cls (K : PySem.W.Frag) (C : Addr) : Prop where
  pg : PySem.W.plainGet K C Str.empty = true
  hd : PySem.W.hasDictIn K C = true
  po : PySem.W.plainOver K C = true
  sa : PySem.W.findIn K (.ref C) "__setattr__" = some (some (.builtin "object.__setattr__"))
theorem Cls.get {K : PySem.W.Frag} {C : Addr} (c : Cls K C) (f : Str) : PySem.W.plainGet K C f = true := c.pg
/-- no class of it has the name -/
def NoAttr (K : PySem.W.Frag) (C : Addr) (f : Str) : Prop := PySem.W.findIn K (.ref C) f = some none
theorem NoAttr.taker {K : PySem.W.Frag} {C : Addr} {f : Str} (n : NoAttr K C f) : PySem.W.takerIn K C f = some none := by
  unfold PySem.W.takerIn
  rw [show PySem.W.findIn K (.ref C) f = some none from n]
  rfl
/-- a constant of the class -/
structure Con (K : PySem.W.Frag) (C : Addr) (f : Str) (v : V) (u : Value) : Prop where
  at_ : PySem.W.findIn K (.ref C) f = some (some u)
  rel : RelV v u
  get : PySem.W.specialIn K u "__get__" = some none
  cp : PySem.W.copiedNames.contains f = false
/-- a method: a plain def of the class or of one above it -/
structure Meth (K : PySem.W.Frag) (C : Addr) (m : Str) (f : Addr) : Prop where
  at_ : PySem.W.findIn K (.ref C) m = some (some (.ref f))
  fn : PySem.W.isFn K (.ref f) = true
  kp : PySem.W.keepIn K (.ref f) = true

section
variable {X : Cx} {pins : List (Addr × Obj)} {σ : St} {H : Hp} {s : Shared} {a C dx : Addr} {fs : List (Str × V)} {f : Str} {v : V} {A : Around} {E : Value → Shared → Prop}

theorem getattr_ok {b : Bool} {Q : Value → Shared → Prop} (I : Inv X pins σ H s) (e : H a = some (.ins C dx fs)) (c : Cls X.K C) (n : NoAttr X.K C f) (l : fs.lookup f = some v)
    (h : ∀ u s', Inv X pins σ H s' → RelV v u → Q u s') : wpAny (model X.prog X.w) A (getAttr (.ref a) f b) Q E s := by
  obtain ⟨mA, O, r, _, _, _⟩ := ins_get I.hok e
  obtain ⟨u, hu, ru⟩ := RelO.some_of (v := v) (o := mA f) (by rw [← l]; exact r f)
  exact get_map I.kIn O (c.get f) c.hd n hu (handed_of ru) (h u _ (I.tok _) ru)

theorem getcon_ok {b : Bool} {u : Value} {Q : Value → Shared → Prop} (I : Inv X pins σ H s) (e : H a = some (.ins C dx fs)) (c : Cls X.K C) (k : Con X.K C f v u) (l : fs.lookup f = none)
    (h : ∀ s', Inv X pins σ H s' → Q u s') : wpAny (model X.prog X.w) A (getAttr (.ref a) f b) Q E s := by
  obtain ⟨mA, O, r, _, _, _⟩ := ins_get I.hok e
  have hn : mA f = none := RelO.none_of (by rw [← l]; exact r f)
  exact get_const I.kIn O (c.get f) c.hd k.at_ k.get k.cp hn (handed_of k.rel) (h _ (I.tok _))

theorem getmeth_ok {m : Str} {g : Addr} {pl : Sem Bool} {Q : Value × List Value → Shared → Prop} (I : Inv X pins σ H s) (e : H a = some (.ins C dx fs)) (c : Cls X.K C) (k : Meth X.K C m g) (l : fs.lookup m = none)
    (h : Q (.ref g, [.ref a]) s) : wpAny (model X.prog X.w) A (getMethod (.ref a) m pl) Q E s := by
  obtain ⟨mA, O, r, _, _, _⟩ := ins_get I.hok e
  have hn : mA m = none := RelO.none_of (by rw [← l]; exact r m)
  exact get_meth I.kIn O (c.get m) k.at_ k.fn hn h

theorem setattr_ok {y : V} {u : Value} {Q : Unit → Shared → Prop} (I : Inv X pins σ H s) (e : H a = some (.ins C dx fs)) (c : Cls X.K C) (n : NoAttr X.K C f) (hl : fs.length < 1000) (ry : RelV y u)
    (h : ∀ s', Inv X pins σ (upd H a (.ins C dx (putF f y fs))) s' → Q () s') : wpAny (model X.prog X.w) A (setAttr (.ref a) f u) Q E s := by
  obtain ⟨mA, O, r, wi, _, ho⟩ := ins_get I.hok e
  have hz : (fs.map (·.1)).length ≤ sizeLine := by rw [List.length_map, sizeLine_eq]; omega
  refine set_map I.kIn O c.sa c.po n.taker c.hd wi hz fun h' O' sb => h _ ?_
  have hd : ∃ o, h'.get? dx = some o := let ⟨o, _, _, e', _⟩ := O'.ns; ⟨o, e'⟩
  refine I.write (x := a) (e := dx) (by rw [e]; exact True.intro) (.inr ho) (fun b q hb z => (sb.2 b hb).trans z) hd ?_
  refine ⟨by rw [upd_ne O.ne]; exact ho, ?_, O.ne, O'.obj, _, O'.ns, fun g => ?_, fun g hg => ?_⟩
  · have := length_putF f y fs; omega
  · show RelO ((putF f y fs).lookup g) (if g = f then some u else mA g)
    rw [lookup_putF]
    by_cases q : g = f
    · rw [if_pos q, if_pos q]; exact ry
    · rw [if_neg q, if_neg q]; exact r g
  · by_cases q : g = f
    · rw [q]; exact (keys_putF f y fs).1
    · refine (keys_putF f y fs).2 g (wi g fun z => hg ?_)
      show (if g = f then some u else mA g) = none
      rw [if_neg q]; exact z

/-- a new instance, tracked, without attributes -/
theorem Inv.made (I : Inv X pins σ H s) : Inv X pins σ (upd (upd H s.heap.objs.size (.own (s.heap.objs.size + 1))) (s.heap.objs.size + 1) (.ins C s.heap.objs.size []))
    { s with heap := (s.heap.push PySem.W.emptyDict).push (PySem.W.instObj C s.heap.objs.size) } := by
  have e1 : (s.heap.push PySem.W.emptyDict).get? s.heap.objs.size = some PySem.W.emptyDict := Heap.get?_push_size s.heap rfl
  have e2 : ((s.heap.push PySem.W.emptyDict).push (PySem.W.instObj C s.heap.objs.size)).get? (s.heap.objs.size + 1) = some (PySem.W.instObj C s.heap.objs.size) := by
    have := Heap.get?_push_size (s.heap.push PySem.W.emptyDict) (o := PySem.W.instObj C s.heap.objs.size) rfl
    rwa [Heap.size_push] at this
  have e3 : (s.heap.push PySem.W.emptyDict).Ns s.heap.objs.size (fun _ => none) := ⟨PySem.W.emptyDict, #[], _, e1, rfl, (fun e he => absurd he (by simp)), fun _ => rfl⟩
  have I1 := I.laid (a := s.heap.objs.size) (o := .own (s.heap.objs.size + 1)) (h' := s.heap.push PySem.W.emptyDict) (t' := s.toks) (fun b u q => Heap.get?_push_of_some _ q) (Nat.le_refl _) ⟨_, e1⟩
  refine I1.laid (a := s.heap.objs.size + 1) (o := .ins C s.heap.objs.size []) (t' := s.toks) (fun b u q => Heap.get?_push_of_some _ q) (Nat.le_of_eq (Heap.size_push _ _)) ?_
  have ne : s.heap.objs.size ≠ s.heap.objs.size + 1 := Nat.ne_of_lt (Nat.lt_succ_self _)
  refine ⟨by rw [upd_ne ne, upd_same], Nat.zero_le _, ne, e2, fun _ => none, (Heap.Ns1.of_empty e3).at fun o q => Heap.get?_push_of_some _ q, fun _ => True.intro, fun y hy => absurd rfl hy⟩

/-- e.f where nothing but the object is asked: through attributeBase (super) and the last hold -/
theorem attr_of {prog : Program} {w : World} {env : Env} {e : Expr} {f : Str} {pos : Pos} {s : Shared} {Q : Value → Shared → Prop} (hb : attributeBase e f env (eval e env) = eval e env)
    (h : wpAny (model prog w) A (eval e env) (fun o s₁ => wpAny (model prog w) A (getAttr o f true) Q E s₁) E s) : wpAny (model prog w) A (eval (.Attribute e f pos) env) Q E s :=
  Attribute_any_ h (by rw [arm_eval_Attribute, hb])
end

/-! ### readings and rules -/
/-- e.f, an attribute of the instance -/
def tFld (K : PySem.W.Frag) (ta : TE) (f : Str) : TE := fun σ H Q => ta σ H fun x H1 => ∃ a C dx fs v, x = .ref a ∧ H1 a = some (.ins C dx fs) ∧ Cls K C ∧ NoAttr K C f ∧ fs.lookup f = some v ∧ Q v H1
/-- e.f, a constant of the class -/
def tCon (K : PySem.W.Frag) (ta : TE) (f : Str) : TE := fun σ H Q => ta σ H fun x H1 => ∃ a C dx fs v u, x = .ref a ∧ H1 a = some (.ins C dx fs) ∧ Cls K C ∧ Con K C f v u ∧ fs.lookup f = none ∧ Q v H1
/-- e.f = value -/
def sFld (K : PySem.W.Frag) (ta tv : TE) (f : Str) : TS := fun D σ H => tv σ H fun y H1 => ta σ H1 fun x H2 => ∃ a C dx fs, x = .ref a ∧ H2 a = some (.ins C dx fs) ∧ Cls K C ∧ NoAttr K C f ∧ fs.length < 1000 ∧
  D.nx σ (upd H2 a (.ins C dx (putF f y fs)))
/-- an augmented operator on two values -/
def InOp (X : Cx) (op : Operator) (rd : V → V → Hp → VK → Prop) : Prop :=
  ∀ (pins : List (Addr × Obj)) (s : Shared) (σ : St) (H : Hp) (x y : V) (u v : Value) (Q : VK), Inv X pins σ H s → RelV x u → RelV y v → rd x y H Q → wpAny (model X.prog X.w) X.A (inplaceOp op u v) (EP X pins σ Q) X.xe s
/-- e.f op= value -/
def sFldAug (K : PySem.W.Frag) (ta tv : TE) (rd : V → V → Hp → VK → Prop) (f : Str) : TS := fun D σ H => ta σ H fun x H1 => ∃ a C dx fs v, x = .ref a ∧ H1 a = some (.ins C dx fs) ∧ Cls K C ∧ NoAttr K C f ∧ fs.lookup f = some v ∧
  tv σ H1 fun y H2 => rd v y H2 fun z H3 => ∃ dx' fs', H3 a = some (.ins C dx' fs') ∧ fs'.length < 1000 ∧ D.nx σ (upd H3 a (.ins C dx' (putF f z fs')))

section
variable {X : Cx} {o e value : Expr} {f : Str} {pos pos' tpos : Pos} {ta tv : TE}
theorem pe_fld (he : PE X e ta) (hb : attributeBase e f X.env (eval e X.env) = eval e X.env) : PE X (.Attribute e f pos) (tFld X.K ta f) := by
  intro pins s σ H Q I h
  refine attr_of hb (thn (he pins s σ H _ I h) fun u s1 ⟨x, H1, I1, rx, a, C, dx, fs, v, ex, ea, c, n, l, q⟩ => ?_)
  subst ex
  obtain rfl : u = Value.ref a := rx
  exact getattr_ok I1 ea c n l fun u' s2 I2 ru => ⟨v, H1, I2, ru, q⟩
theorem pe_con (he : PE X e ta) (hb : attributeBase e f X.env (eval e X.env) = eval e X.env) : PE X (.Attribute e f pos) (tCon X.K ta f) := by
  intro pins s σ H Q I h
  refine attr_of hb (thn (he pins s σ H _ I h) fun u s1 ⟨x, H1, I1, rx, a, C, dx, fs, v, u0, ex, ea, c, k, l, q⟩ => ?_)
  subst ex
  obtain rfl : u = Value.ref a := rx
  exact getcon_ok I1 ea c k l fun s2 I2 => ⟨v, H1, I2, k.rel, q⟩
theorem ps_fld (ha : PE X o ta) (hv : PE X value tv) (hs : swapsWith value (some (.Attribute o f pos')) pos.line X.env = pure false) : PS X (.Assign [.Attribute o f pos'] value pos) (sFld X.K ta tv f) := by
  intro pins s σ H D I h
  refine plainObj_wpAny_Assign_Attribute (thn (hv pins s σ H _ I h) fun u s1 ⟨y, H1, I1, ry, q⟩ => thn (ha pins s1 σ H1 _ I1 q) fun ov s2 ⟨x, H2, I2, rx, a, C, dx, fs, ex, ea, c, n, l, q2⟩ => ?_) hs
  subst ex
  obtain rfl : ov = Value.ref a := rx
  exact setattr_ok I2 ea c n l ry fun s3 I3 => ⟨σ, _, I3, q2⟩
theorem ps_fldaug {op : Operator} {rd : V → V → Hp → VK → Prop} (ha : PE X o ta) (hv : PE X value tv) (hop : InOp X op rd) : PS X (.AugAssign (.Attribute o f tpos) op value pos) (sFldAug X.K ta tv rd f) := by
  intro pins s σ H D I h
  refine wpAny_AugAssign_AttributeAny (thn (ha pins s σ H _ I h) fun ov s1 ⟨x, H1, I1, rx, a, C, dx, fs, v, ex, ea, c, n, l, q⟩ => ?_)
  subst ex
  obtain rfl : ov = Value.ref a := rx
  refine getattr_ok I1 ea c n l fun u s2 I2 ru => thn (hv pins s2 σ H1 _ I2 q) fun w3 s3 ⟨y, H2, I3, ry, q3⟩ => thn (hop pins s3 σ H2 v y u w3 _ I3 ru ry q3) fun w4 s4 ⟨z, H3, I4, rz, dx', fs', ea', l', q4⟩ => ?_
  exact setattr_ok I4 ea' c n l' rz fun s5 I5 => ⟨σ, _, I5, q4⟩
def rAdd : V → V → Hp → VK → Prop := fun x y H Q => ∃ i j, x = .int i ∧ y = .int j ∧ Q (.int (i + j)) H
def rSub : V → V → Hp → VK → Prop := fun x y H Q => ∃ i j, x = .int i ∧ y = .int j ∧ Q (.int (i - j)) H
theorem in_add : InOp X .Add rAdd := by
  rintro pins s σ H x y u v Q I rx ry ⟨i, j, rfl, rfl, q⟩
  obtain ⟨t, rfl⟩ := (show ∃ t, u = Value.int i t from rx)
  obtain ⟨t', rfl⟩ := (show ∃ t', v = Value.int j t' from ry)
  exact PyProof.Rows.iadd_int ⟨.int (i + j), H, I.tok _, ⟨_, rfl⟩, q⟩
theorem in_sub : InOp X .Sub rSub := by
  rintro pins s σ H x y u v Q I rx ry ⟨i, j, rfl, rfl, q⟩
  obtain ⟨t, rfl⟩ := (show ∃ t, u = Value.int i t from rx)
  obtain ⟨t', rfl⟩ := (show ∃ t', v = Value.int j t' from ry)
  exact PyProof.Rows.isub_int ⟨.int (i - j), H, I.tok _, ⟨_, rfl⟩, q⟩

/-- what is between an instance and its method: the tree of a method call -/
theorem methcall_of {pl : Sem Bool} {m : Str} {apos : Pos} {args : List Expr} {pins : List (Addr × Obj)} {s : Shared} {σ : St} {H : Hp} {Q : Value → Shared → Prop} {te : TE} (he : PE X e te) (I : Inv X pins σ H s)
    (h : te σ H fun x H1 => ∃ a C dx fs g, x = .ref a ∧ H1 a = some (.ins C dx fs) ∧ Cls X.K C ∧ Meth X.K C m g ∧ fs.lookup m = none ∧
      ∀ s1, Inv X pins σ H1 s1 → wpAny (model X.prog X.w) X.A (callWith pos (.ref g) [.ref a] (backTo pos (starEach args X.env)) (backToKw pos (keywordEach [] X.env))) Q X.xe s1)
    (ht : eval (.Call (.Attribute e m apos) args [] pos) X.env = (do
      let ov ← eval e X.env
      standAt apos.atName
      let (f, first) ← holding [ov] (getMethod ov m pl)
      callWith pos f first (backTo pos (starEach args X.env)) (backToKw pos (keywordEach [] X.env)))) :
    wpAny (model X.prog X.w) X.A (eval (.Call (.Attribute e m apos) args [] pos) X.env) Q X.xe s := by
  refine PySem.W.methodCall_KW (pl := pl) (thn (he pins s σ H _ I h) fun u s1 ⟨x, H1, I1, rx, a, C, dx, fs, g, ex, ea, c, k, l, q⟩ => ?_) ht
  subst ex
  obtain rfl : u = Value.ref a := rx
  exact getmeth_ok I1 ea c k l (q s1 I1)
end

/-! ### isinstance -/
section
variable {X : Cx} {pins : List (Addr × Obj)} {σ : St} {H : Hp} {s : Shared} {A : Around} {E : Value → Shared → Prop} {Q : Value → Shared → Prop} {c : Value} {b : Bool}
/-- the type of a value, as the fragment's deciders take it; for an instance its class -/
inductive TyOf (K : PySem.W.Frag) (H : Hp) : V → Value → Prop where
  | non : TyOf K H .non (.type "NoneType")
  | bl (x : Bool) : TyOf K H (.bl x) (.type "bool")
  | int (i : Int) : TyOf K H (.int i) (.type "int")
  | str (x : Str) : TyOf K H (.str x) (.type "str")
  | flt (x : UInt64) : TyOf K H (.flt x) (.type "float")
  | lst {a : Addr} {xs : List V} (e : H a = some (.lst xs)) : TyOf K H (.ref a) (.type "list")
  | frz {a : Addr} {o : Obj} {xs : List V} (e : H a = some (.frz o (.lst xs))) : TyOf K H (.ref a) (.type "list")
  | tup {a : Addr} {xs : List V} (e : H a = some (.tup xs)) : TyOf K H (.ref a) (.type "tuple")
  | dK {a : Addr} {kvs : List (Key × V)} (e : H a = some (.dK kvs)) : TyOf K H (.ref a) (.type "dict")
  | dT {a : Addr} {kvs : List (List Key × V)} (e : H a = some (.dT kvs)) : TyOf K H (.ref a) (.type "dict")
  | ins {a C dx : Addr} {fs : List (Str × V)} (e : H a = some (.ins C dx fs)) (cl : Cls K C) (ha : PySem.W.findIn K (.ref C) "__class__" = some (some (.builtin "object.__class__")))
      (hn : PySem.W.specialIn K (.builtin "object.__class__") "__get__" = some (some (.builtin "getset_descriptor.__get__"))) (htk : PySem.W.takesIn K (.builtin "object.__class__") = some true)
      (hm : PySem.W.mroIn K C (.type "object") = some true) : TyOf K H (.ref a) (.ref C)
/-- isinstance(x, c) for one class c, a built-in or an own one: kitOne's answer -/
theorem isinst_ok {x : V} {u t : Value} (I : Inv X pins σ H s) (rx : RelV x u) (ty : TyOf X.K H x t) (e : PySem.W.kitOne X.K t c = some b) (h : ∀ tk, Q (.bool b) { s with toks := tk }) :
    wpAny (model X.prog X.w) A (call (.builtin "isinstance") [u, c]) Q E s := by
  cases ty with
  | non => cases (show u = Value.none from rx); exact PySem.W.kia_one PySem.W.kitx_none I.kIn True.intro e (fun z => nomatch z) h
  | bl y => cases (show u = Value.bool y from rx); exact PySem.W.kia_one PySem.W.kitx_bool I.kIn True.intro e (fun z => nomatch z) h
  | int i => obtain ⟨t, q⟩ := (show ∃ t, u = Value.int i t from rx); cases q; exact PySem.W.kia_one PySem.W.kitx_int I.kIn True.intro e (fun z => nomatch z) h
  | str y => obtain ⟨t, q⟩ := (show ∃ t, u = Value.str y t from rx); cases q; exact PySem.W.kia_one PySem.W.kitx_str I.kIn True.intro e (fun z => nomatch z) h
  | flt y => obtain ⟨t, q⟩ := (show ∃ t, u = Value.float y t from rx); cases q; exact PySem.W.kia_one PySem.W.kitx_float I.kIn True.intro e (fun z => nomatch z) h
  | @lst a xs ea =>
    cases (show u = Value.ref a from rx)
    obtain ⟨_, _, n, _, h1⟩ := (show ObjOk X.prog X.w H s.heap a (.lst xs) from I.hok a _ ea)
    exact PySem.W.kia_one PySem.W.kitx_list I.kIn ⟨_, h1, rfl⟩ e (fun z => nomatch z) h
  | @frz a ob xs ea =>
    cases (show u = Value.ref a from rx)
    obtain ⟨_, _, _, n, _, h1⟩ := (show ObjOk X.prog X.w H s.heap a (.frz ob (.lst xs)) from I.hok a _ ea)
    exact PySem.W.kia_one PySem.W.kitx_list I.kIn ⟨_, h1, rfl⟩ e (fun z => nomatch z) h
  | @tup a xs ea =>
    cases (show u = Value.ref a from rx)
    obtain ⟨_, _, _, p⟩ := (show ObjOk X.prog X.w H s.heap a (.tup xs) from I.hok a _ ea)
    obtain ⟨o, h1, h2, _⟩ := p
    exact PySem.W.kia_one PySem.W.kitx_tuple I.kIn ⟨o, h1, h2⟩ e (fun z => nomatch z) h
  | @dK a kvs ea =>
    cases (show u = Value.ref a from rx)
    obtain ⟨_, _, vs, _, p⟩ := (show ObjOk X.prog X.w H s.heap a (.dK kvs) from I.hok a _ ea)
    obtain ⟨o, es, ep, h1, h2, _⟩ := p
    exact PySem.W.kia_one PySem.W.kitx_dict I.kIn ⟨o, h1, h2.1⟩ e (fun z => nomatch z) h
  | @dT a kvs ea =>
    cases (show u = Value.ref a from rx)
    obtain ⟨_, _, xs, _, o, es, ep, h1, h2, _⟩ := (show ObjOk X.prog X.w H s.heap a (.dT kvs) from I.hok a _ ea)
    exact PySem.W.kia_one PySem.W.kitx_dict I.kIn ⟨o, h1, h2.1⟩ e (fun z => nomatch z) h
  | @ins a C dx fs ea cl ha hn htk hm =>
    cases (show u = Value.ref a from rx)
    obtain ⟨mA, O, _⟩ := ins_get I.hok ea
    obtain ⟨od, J, _⟩ := O.look
    exact PySem.W.kia_one (PySem.W.kitx_own (cl.get _) cl.hd ha hn htk hm) I.kIn J e (fun z => nomatch z) h
end
end L2

namespace L2
open PySem PySem.Spec PyProof.Rows

/-! ### room -/
structure Room (k : Nat) (A : Around) : Prop where
  hd : A.handled = none
  dp : A.depth + 3 * k + 5 < recursionLimit
  un : A.units + 16 * k + 200 < cLine
theorem Room.mono {j k : Nat} {A : Around} (r : Room k A) (h : j ≤ k) : Room j A := ⟨r.hd, by have := r.dp; omega, by have := r.un; omega⟩
theorem Room.deeper {k : Nat} {A : Around} (r : Room (k + 1) A) (env : Env) : Room k (A.deeper env) :=
  ⟨r.hd, by have := r.dp; show A.depth + 1 + 3 * k + 5 < _; omega, by have := r.un; show A.units + 3 + 16 * k + 200 < _; omega⟩
theorem Room.in1 {k : Nat} {A : Around} (r : Room (k + 1) A) : Room k A.in1 :=
  ⟨r.hd, by have := r.dp; show A.depth + 3 * k + 5 < _; omega, by have := r.un; show A.units + 1 + 16 * k + 200 < _; omega⟩
theorem make_depth {A : Around} {C : Addr} {us : List Value} {kw : List (Str × Value)} : (A.under (.builtin "type.__call__" ⟨.ref C :: us, kw⟩)).depth = A.depth + 1 := by
  first | rfl | simp [Around.under, Code.weight, Code.isCreation, Code.isGuard, Code.isCaller, Code.frames, Code.isFrame, guardIds]
theorem make_units {A : Around} {C : Addr} {us : List Value} {kw : List (Str × Value)} : (A.under (.builtin "type.__call__" ⟨.ref C :: us, kw⟩)).units = A.units + 1 := by
  first | rfl | simp [Around.under, Code.cUnits, Code.frames, Code.isFrame]
theorem Room.make {k : Nat} {A : Around} (r : Room (k + 1) A) (C : Addr) (us : List Value) (kw : List (Str × Value)) : Room k (A.under (.builtin "type.__call__" ⟨.ref C :: us, kw⟩)) :=
  ⟨r.hd, by have := r.dp; rw [make_depth]; omega, by have := r.un; rw [make_units]; omega⟩
theorem Room.depth {k : Nat} {A : Around} (r : Room k A) : A.depth < recursionLimit := by have := r.dp; omega
theorem Room.units {k : Nat} {A : Around} (r : Room k A) : A.units + 64 < cLine := by have := r.un; omega
theorem Room.units0 {k : Nat} {A : Around} (r : Room k A) : A.units < cLine := by have := r.un; omega

/-! ### argument lists and displays -/
def tNil : TA := fun _ H Q => Q [] H
def tCons (ta : TE) (tr : TA) : TA := fun σ H Q => ta σ H fun x H1 => tr σ H1 fun xs H2 => Q (x :: xs) H2
section
variable {X : Cx} {e : Expr} {es : List Expr} {te : TE} {t : TA} {pos : Pos}
theorem pa_nil : PA X [] tNil := fun _ _ _ _ H Q I h => Calls.spliced_nil ⟨[], H, I, .nil, h⟩
theorem pa_cons (ha : PE X e te) (hr : PA X es t) (hs : starEach (e :: es) X.env = (false, eval e X.env) :: starEach es X.env := by rfl) : PA X (e :: es) (tCons te t) := by
  intro pos pins s σ H Q I h
  rw [hs]
  show wpAny _ _ (spliced ((false, eval e X.env) :: backTo pos (starEach es X.env))) _ _ s
  refine Calls.spliced_cons (thn (ha pins s σ H _ I h) fun u s1 ⟨x, H1, I1, r1, q1⟩ => ?_)
  exact thn (hr pos pins s1 σ H1 _ I1 q1) fun us s2 ⟨xs, H2, I2, r2, q2⟩ => ⟨x :: xs, H2, I2, .cons r1 r2, q2⟩

/-- a tuple, a list of written items -/
def tTup (t : TA) : TE := fun σ H Q => t σ H fun xs H1 => xs.length ≤ sizeLine ∧ ∀ p, H1 p = none → Q (.ref p) (upd H1 p (.tup xs))
def tLst (t : TA) : TE := fun σ H Q => t σ H fun xs H1 => xs.length ≤ sizeLine ∧ ∀ p, H1 p = none → Q (.ref p) (upd H1 p (.lst xs))
theorem pe_tup {x1} (h : PA X es t) : PE X (.Tuple es x1 pos) (tTup t) := by
  intro pins s σ H Q I hq
  refine wpAny_Tuple_spliced (thn (h pos pins s σ H _ I hq) fun us s1 ⟨xs, H1, I1, r, z, q⟩ => ⟨by rw [← r.length]; exact z, ?_⟩)
  have hf : H1 s1.heap.objs.size = none := I1.hok.fresh (Nat.le_refl _)
  refine ⟨.ref s1.heap.objs.size, upd H1 s1.heap.objs.size (.tup xs), I1.laid (t' := s1.toks) (fun b u e => Heap.get?_push_of_some _ e) (Nat.le_refl _) ?_, rfl, q _ hf⟩
  exact ⟨z, us, r, ⟨_, Heap.get?_push_size _ rfl, rfl, _, rfl⟩⟩
theorem pe_lst (h : PA X es t) : PE X (.List es pos) (tLst t) := by
  intro pins s σ H Q I hq
  refine wpAny_List_spliced (thn (h pos pins s σ H _ I hq) fun us s1 ⟨xs, H1, I1, r, z, q⟩ => ⟨by rw [← r.length]; exact z, ?_⟩)
  have hf : H1 s1.heap.objs.size = none := I1.hok.fresh (Nat.le_refl _)
  refine ⟨.ref s1.heap.objs.size, upd H1 s1.heap.objs.size (.lst xs), I1.laid (t' := s1.toks) (fun b u e => Heap.get?_push_of_some _ e) (Nat.le_refl _) ?_, rfl, q _ hf⟩
  exact ⟨z, us, 0, r, Heap.get?_push_size _ rfl⟩
end

/-! ### what a def promises -/
/-- a def's promise: the bound arguments in the parameters' order, the heap, the wanted end, the wanted exception -/
abbrev Sp := List V → Hp → VK → XK → Prop
/-- how an exception lies behind a call (file 08 gives it): the callers' frames, abstract heap and state ahead of the call, the wish, the exception, the state -/
abbrev CXT := List Env → Hp → Shared → XK → Value → Shared → Prop

/-- the state at a call -/
structure Env0 (P : Program) (w : World) (K : PySem.W.Frag) (mg : Str → Option Value) (base : Heap) (A : Around) (outer : List Env) (s : Shared) (H : Hp) : Prop where
  frames : A.frames = some outer
  mod : Mod K mg base
  bs : ∀ b o, base.get? b = some o → s.heap.get? b = some o ∧ H b = none
  bsz : base.objs.size ≤ s.heap.objs.size
  funs : s.heap.FunFrames base outer
  frf : ∀ b ∈ frs outer, H b = none
  hok : HOk P w H s.heap
  bare : AllBare s.gens
/-- a call's end -/
def CE (outer : List Env) (P : Program) (w : World) (H : Hp) (s : Shared) (Q : VK) (u : Value) (s' : Shared) : Prop :=
  ∃ v H', s'.os = s.os ∧ AllBare s'.gens ∧ Un (frs outer) [] H H' s.heap s'.heap ∧ HOk P w H' s'.heap ∧ RelV v u ∧ Q v H'
def CR (CX : CXT) (outer : List Env) (P : Program) (w : World) (H : Hp) (s : Shared) (Q : VK) (E : XK) (r : Result) (s' : Shared) : Prop :=
  match r with
  | .ok (.ret u) => CE outer P w H s Q u s'
  | .ok _ => False
  | .error e => CX outer H s E e s'
structure FnOk (P : Program) (w : World) (K : PySem.W.Frag) (mg : Str → Option Value) (base : Heap) (CX : CXT) (k : Nat) (f : Addr) (fd : FuncData) (ps : List Str) (sp : Sp) : Prop where
  len : ∀ vs H Q E, sp vs H Q E → vs.length = ps.length
  run : ∀ (A : Around) (outer : List Env) (s : Shared) (H : Hp) (args : Args) (us : List Value) (vs : List V) (Q : VK) (E : XK), Room k A → Env0 P w K mg base A outer s H → BindsTo s fd args (ps.zip us) → Vals vs us → sp vs H Q E →
    codeAny (model P w) A (.call (.ref f) args) (CR CX outer P w H s Q E) s
theorem FnOk.mono {P : Program} {w : World} {K : PySem.W.Frag} {mg : Str → Option Value} {base : Heap} {CX : CXT} {j k : Nat} {f : Addr} {fd : FuncData} {ps : List Str} {sp : Sp} (F : FnOk P w K mg base CX j f fd ps sp) (h : j ≤ k) :
    FnOk P w K mg base CX k f fd ps sp := ⟨F.len, fun A outer s H args us vs Q E hr => F.run A outer s H args us vs Q E (hr.mono h)⟩
/-- a weaker promise -/
theorem FnOk.imp {P : Program} {w : World} {K : PySem.W.Frag} {mg : Str → Option Value} {base : Heap} {CX : CXT} {k : Nat} {f : Addr} {fd : FuncData} {ps : List Str} {sp sp' : Sp} (F : FnOk P w K mg base CX k f fd ps sp)
    (h : ∀ vs H Q E, sp' vs H Q E → sp vs H Q E) : FnOk P w K mg base CX k f fd ps sp' :=
  ⟨fun vs H Q E q => F.len vs H Q E (h _ _ _ _ q), fun A outer s H args us vs Q E hr he hb hv hs => F.run A outer s H args us vs Q E hr he hb hv (h _ _ _ _ hs)⟩

theorem Env0.make {P : Program} {w : World} {K : PySem.W.Frag} {mg : Str → Option Value} {base : Heap} {A : Around} {outer : List Env} {s : Shared} {H : Hp} (e : Env0 P w K mg base A outer s H) (C : Addr) (us : List Value) (kw : List (Str × Value)) :
    Env0 P w K mg base (A.under (.builtin "type.__call__" ⟨.ref C :: us, kw⟩)) outer s H := ⟨by first | exact e.frames | (simpa [Around.under, Code.envs, Code.isFrame, pushEnvs] using e.frames), e.mod, e.bs, e.bsz, e.funs, e.frf, e.hok, e.bare⟩
theorem Env0.in1 {P : Program} {w : World} {K : PySem.W.Frag} {mg : Str → Option Value} {base : Heap} {A : Around} {outer : List Env} {s : Shared} {H : Hp} (e : Env0 P w K mg base A outer s H) :
    Env0 P w K mg base A.in1 outer s H := ⟨e.frames, e.mod, e.bs, e.bsz, e.funs, e.frf, e.hok, e.bare⟩

section
variable {X : Cx} {pins : List (Addr × Obj)} {σ : St} {H : Hp} {s s' : Shared}
/-- from a body: what a callee wants -/
theorem Inv.env0 (I : Inv X pins σ H s) : Env0 X.prog X.w X.K X.mg X.base X.A X.stack s H :=
  ⟨I.ok.frames, I.ok.mod, I.bs, Nat.le_trans I.ok.bsz I.sz, I.stack, I.stkFree, I.hok, I.bare⟩
/-- behind a call -/
theorem Inv.after {Q : VK} {u : Value} (I : Inv X pins σ H s) (h : CE X.stack X.prog X.w H s Q u s') : EP X pins σ Q u s' := by
  obtain ⟨v, H', os, bare, un, hok, r, q⟩ := h
  obtain ⟨hh, g, d, t, os'⟩ := s'
  obtain rfl : os' = s.os := os
  exact ⟨v, H', I.call (h' := hh) (g' := g) (d' := d) (t' := t) (ch := []) un hok bare (fun b z => absurd z (by simp)), r, q⟩
end

/-! ### calls -/
/-- f(..): the written arguments, then the defaults dvs; E: what is wanted of an exception -/
def tCall (sp : Sp) (dvs : List V) (E : XK) (t : TA) : TE := fun σ H Q => t σ H fun vs H1 => sp (vs ++ dvs) H1 Q E
/-- o.m(..) of an instance of the class at C -/
def tMeth (C : Addr) (m : Str) (sp : Sp) (dvs : List V) (E : XK) (ta : TE) (t : TA) : TE := fun σ H Q => ta σ H fun x H1 => ∃ a dx fs, x = .ref a ∧ H1 a = some (.ins C dx fs) ∧ fs.lookup m = none ∧
  t σ H1 fun vs H2 => sp (x :: (vs ++ dvs)) H2 Q E
/-- C(..): a new instance and its dict, then __init__ -/
def tMake (C : Addr) (sp : Sp) (dvs : List V) (E : XK) (t : TA) : TE := fun σ H Q => t σ H fun vs H1 => ∀ x dx, H1 x = none → H1 dx = none → dx ≠ x →
  sp (.ref x :: (vs ++ dvs)) (upd (upd H1 dx (.own x)) x (.ins C dx [])) (fun v H2 => v = .non ∧ Q (.ref x) H2) E

/-- how the parameters are bound: us the positional arguments, kw the keywords' values by name, ds the defaults that fill up -/
def Binds (K : PySem.W.Frag) (fd : FuncData) (ps : List Str) (ds : List Value) : Prop :=
  ∀ (s : Shared) (us : List Value), K.In s.heap → (us ++ ds).length = ps.length → BindsTo s fd ⟨us, []⟩ (ps.zip (us ++ ds))
/-- every parameter is given -/
theorem Binds.all {K : PySem.W.Frag} {fd : FuncData} {ps : List Str} (h : ∀ us : List Value, us.length = ps.length → bindArgs fd ⟨us, []⟩ = pure (ps.zip us)) : Binds K fd ps [] := fun s us _ hl => by
  rw [List.append_nil] at hl ⊢
  exact .of_eq (h us hl)

/-- an exception of a callee reaches what this body wants of exceptions -/
def Passes (CX : CXT) (X : Cx) (E : XK) : Prop := ∀ (pins : List (Addr × Obj)) (σ : St) (H : Hp) (s : Shared) (e : Value) (s' : Shared), Inv X pins σ H s → CX X.stack H s E e s' → X.xe e s'

section
variable {X : Cx} {CX : CXT} {k : Nat} {f C : Addr} {fd : FuncData} {ps : List Str} {sp : Sp} {dvs : List V} {ds : List Value} {E : XK} {x m : Str} {p pos apos : Pos} {e o : Expr} {es : List Expr} {ta : TE} {t : TA}

/-- the callee runs -/
theorem run_fn {pins : List (Addr × Obj)} {σ : St} {H : Hp} {s : Shared} {Q : VK} {us : List Value} {vs : List V} (F : FnOk X.prog X.w X.K X.mg X.base CX k f fd ps sp) (hr : Room k X.A) (hb : Binds X.K fd ps ds) (hd : Vals dvs ds) (hx : Passes CX X E)
    (I : Inv X pins σ H s) (r : Vals vs us) (h : sp (vs ++ dvs) H Q E) : wpAny (model X.prog X.w) X.A (call (.ref f) us) (EP X pins σ Q) X.xe s := by
  have r2 : Vals (vs ++ dvs) (us ++ ds) := r.append hd
  have hl : (us ++ ds).length = ps.length := by rw [← r2.length]; exact F.len _ _ _ _ h
  refine wpAny_call (codeAny_mono (F.run X.A X.stack s H ⟨us, []⟩ (us ++ ds) (vs ++ dvs) Q E hr I.env0 (hb s us I.kIn hl) r2 h) fun r s' hq => ?_)
  cases r with
  | error e => exact hx pins σ H s e s' I hq
  | ok fl =>
    cases fl with
    | ret u => exact I.after hq
    | next => exact False.elim hq
    | brk => exact False.elim hq
    | cont => exact False.elim hq

theorem pe_call (F : FnOk X.prog X.w X.K X.mg X.base CX k f fd ps sp) (hr : Room k X.A) (hg : Gl X x) (hm : X.mg x = some (.ref f)) (hk : PySem.W.keepIn X.K (.ref f) = true) (hb : Binds X.K fd ps ds) (hd : Vals dvs ds) (hx : Passes CX X E)
    (ha : PA X (e :: es) t) (hdb : (x == ("__debug__" : Str)) = false := by decide) (he : starEach (e :: es) X.env = (false, eval e X.env) :: starEach es X.env := by rfl) (hpl : (backTo pos (starEach es X.env)).any (·.1) = false := by rfl) :
    PE X (.Call (.Name x p) (e :: es) [] pos) (tCall sp dvs E t) := by
  intro pins s σ H Q I h
  refine wpAny_Call_Name_kw (ld_glob I hg hm ?_ hdb)
  refine PySem.W.callWith_K (h₀ := X.base) I.ok.mod.kin hk (thn (ha pos pins s σ H _ I h) fun us s1 ⟨vs, H1, I1, r, q⟩ => ⟨I1.kIn, ?_⟩) he hpl
  exact run_fn F hr hb hd hx I1 r q
theorem pe_call0 (F : FnOk X.prog X.w X.K X.mg X.base CX k f fd ps sp) (hr : Room k X.A) (hg : Gl X x) (hm : X.mg x = some (.ref f)) (hk : PySem.W.keepIn X.K (.ref f) = true) (hb : Binds X.K fd ps ds) (hd : Vals dvs ds) (hx : Passes CX X E)
    (hdb : (x == ("__debug__" : Str)) = false := by decide) : PE X (.Call (.Name x p) [] [] pos) (tCall sp dvs E tNil) := by
  intro pins s σ H Q I h
  refine wpAny_Call_Name_kw (ld_glob I hg hm ?_ hdb)
  exact PySem.W.callWith_K0 I.kIn hk (run_fn (us := []) F hr hb hd hx I .nil h)

/-- o.m(e, ..) -/
theorem pe_meth {pl : Sem Bool} (he : PE X o ta) (c : Cls X.K C) (hm : Meth X.K C m f) (F : FnOk X.prog X.w X.K X.mg X.base CX k f fd ps sp) (hr : Room k X.A) (hb : Binds X.K fd ps ds) (hd : Vals dvs ds) (hx : Passes CX X E) (ha : PA X (e :: es) t)
    (hst : starEach (e :: es) X.env = (false, eval e X.env) :: starEach es X.env := by rfl) (hpl : (backTo pos (starEach es X.env)).any (·.1) = false := by rfl)
    (ht : eval (.Call (.Attribute o m apos) (e :: es) [] pos) X.env = (do
      let ov ← eval o X.env
      standAt apos.atName
      let (f, first) ← holding [ov] (getMethod ov m pl)
      callWith pos f first (backTo pos (starEach (e :: es) X.env)) (backToKw pos (keywordEach [] X.env))) := by rfl) :
    PE X (.Call (.Attribute o m apos) (e :: es) [] pos) (tMeth C m sp dvs E ta t) := by
  intro pins s σ H Q I h
  refine PySem.W.methodCall_KW (pl := pl) (thn (he pins s σ H _ I h) fun u s1 ⟨x, H1, I1, rx, a, dx, fs, ex, ea, l, q⟩ => ?_) ht
  subst ex
  obtain rfl : u = Value.ref a := rx
  refine getmeth_ok I1 ea c hm l ?_
  refine PySem.W.callWith_K (first := [.ref a]) (h₀ := X.base) I.ok.mod.kin hm.kp (thn (ha pos pins s1 σ H1 _ I1 q) fun us s2 ⟨vs, H2, I2, r, q2⟩ => ⟨I2.kIn, ?_⟩) hst hpl
  exact run_fn (us := .ref a :: us) (vs := .ref a :: vs) F hr hb hd hx I2 (.cons rfl r) q2
/-- o.m() -/
theorem pe_meth0 {pl : Sem Bool} (he : PE X o ta) (c : Cls X.K C) (hm : Meth X.K C m f) (F : FnOk X.prog X.w X.K X.mg X.base CX k f fd ps sp) (hr : Room k X.A) (hb : Binds X.K fd ps ds) (hd : Vals dvs ds) (hx : Passes CX X E)
    (ht : eval (.Call (.Attribute o m apos) [] [] pos) X.env = (do
      let ov ← eval o X.env
      standAt apos.atName
      let (f, first) ← holding [ov] (getMethod ov m pl)
      callWith pos f first (backTo pos (starEach [] X.env)) (backToKw pos (keywordEach [] X.env))) := by rfl) :
    PE X (.Call (.Attribute o m apos) [] [] pos) (tMeth C m sp dvs E ta tNil) := by
  intro pins s σ H Q I h
  refine PySem.W.methodCall_KW (pl := pl) (thn (he pins s σ H _ I h) fun u s1 ⟨x, H1, I1, rx, a, dx, fs, ex, ea, l, q⟩ => ?_) ht
  subst ex
  obtain rfl : u = Value.ref a := rx
  refine getmeth_ok I1 ea c hm l ?_
  exact PySem.W.callWith_K0 (first := [.ref a]) I1.kIn hm.kp (run_fn (us := [.ref a]) (vs := [.ref a]) F hr hb hd hx I1 (.cons rfl .nil) q)

/-- what a class must have to be made -/
structure Mk (K : PySem.W.Frag) (C f : Addr) : Prop where
  makes : PySem.W.makesIn K C = true
  init : PySem.W.findIn K (.ref C) "__init__" = some (some (.ref f))
  fn : PySem.W.isFn K (.ref f) = true
  kp : PySem.W.keepIn K (.ref C) = true

theorem run_make {pins : List (Addr × Obj)} {σ : St} {H : Hp} {s : Shared} {Q : VK} {us : List Value} {vs : List V} (M : Mk X.K C f) (F : FnOk X.prog X.w X.K X.mg X.base CX k f fd ps sp) (hr : Room (k + 1) X.A) (hb : Binds X.K fd ps ds) (hd : Vals dvs ds)
    (hx : Passes CX X E) (I : Inv X pins σ H s) (r : Vals vs us)
    (h : ∀ x dx, H x = none → H dx = none → dx ≠ x → sp (.ref x :: (vs ++ dvs)) (upd (upd H dx (.own x)) x (.ins C dx [])) (fun v H2 => v = .non ∧ Q (.ref x) H2) E) :
    wpAny (model X.prog X.w) X.A (call (.ref C) us) (EP X pins σ Q) X.xe s := by
  have hq := h (s.heap.objs.size + 1) s.heap.objs.size (I.hok.fresh (Nat.le_succ _)) (I.hok.fresh (Nat.le_refl _)) (Nat.ne_of_lt (Nat.lt_succ_self _))
  have I2 := Inv.made (C := C) I
  have r2 : Vals (V.ref (s.heap.objs.size + 1) :: (vs ++ dvs)) (Value.ref (s.heap.objs.size + 1) :: (us ++ ds)) := .cons rfl (r.append hd)
  have hl : (Value.ref (s.heap.objs.size + 1) :: us ++ ds).length = ps.length := by
    have e := r2.length
    rw [F.len _ _ _ _ hq] at e
    exact e.symm
  refine wpAny_call (make_map (f := f) I.kIn M.makes M.init (beq_iff_eq.mp M.fn) (codeAny_mono (F.run _ X.stack _ _ ⟨Value.ref (s.heap.objs.size + 1) :: us, []⟩ (Value.ref (s.heap.objs.size + 1) :: (us ++ ds)) _ _ E (hr.make C us [])
    (I2.env0.make C us []) (hb _ (Value.ref (s.heap.objs.size + 1) :: us) I2.kIn hl) r2 hq) fun r s' hq' => ?_))
  cases r with
  | error e => exact hx pins σ _ _ e s' I2 hq'
  | ok fl =>
    cases fl with
    | ret u =>
      obtain ⟨v, H', I3, rv, ev, q3⟩ := I2.after hq'
      subst ev
      exact ⟨rv, ⟨V.ref (s.heap.objs.size + 1), H', I3, rfl, q3⟩⟩
    | next => exact False.elim hq'
    | brk => exact False.elim hq'
    | cont => exact False.elim hq'
theorem pe_make (M : Mk X.K C f) (F : FnOk X.prog X.w X.K X.mg X.base CX k f fd ps sp) (hr : Room (k + 1) X.A) (hg : Gl X x) (hm : X.mg x = some (.ref C)) (hb : Binds X.K fd ps ds) (hd : Vals dvs ds) (hx : Passes CX X E)
    (ha : PA X (e :: es) t) (hdb : (x == ("__debug__" : Str)) = false := by decide) (he : starEach (e :: es) X.env = (false, eval e X.env) :: starEach es X.env := by rfl) (hpl : (backTo pos (starEach es X.env)).any (·.1) = false := by rfl) :
    PE X (.Call (.Name x p) (e :: es) [] pos) (tMake C sp dvs E t) := by
  intro pins s σ H Q I h
  refine wpAny_Call_Name_kw (ld_glob I hg hm ?_ hdb)
  refine PySem.W.callWith_K (h₀ := X.base) I.ok.mod.kin M.kp (thn (ha pos pins s σ H _ I h) fun us s1 ⟨vs, H1, I1, r, q⟩ => ⟨I1.kIn, ?_⟩) he hpl
  exact run_make M F hr hb hd hx I1 r q
theorem pe_make0 (M : Mk X.K C f) (F : FnOk X.prog X.w X.K X.mg X.base CX k f fd ps sp) (hr : Room (k + 1) X.A) (hg : Gl X x) (hm : X.mg x = some (.ref C)) (hb : Binds X.K fd ps ds) (hd : Vals dvs ds) (hx : Passes CX X E)
    (hdb : (x == ("__debug__" : Str)) = false := by decide) : PE X (.Call (.Name x p) [] [] pos) (tMake C sp dvs E tNil) := by
  intro pins s σ H Q I h
  refine wpAny_Call_Name_kw (ld_glob I hg hm ?_ hdb)
  exact PySem.W.callWith_K0 I.kIn M.kp (run_make (us := []) M F hr hb hd hx I .nil h)
end

/-! ### keywords -/
/-- the values of the keywords, from the left -/
def PK (X : Cx) (kws : List Keyword) (t : TA) : Prop :=
  ∀ (pos : Pos) (pins : List (Addr × Obj)) (s : Shared) (σ : St) (H : Hp) (Q : List V → Hp → Prop), Inv X pins σ H s → t σ H Q → wpAny (model X.prog X.w) X.A (evalAll ((backToKw pos (keywordEach kws X.env)).map (·.2))) (AP X pins σ Q) X.xe s
section
variable {X : Cx} {CX : CXT} {k : Nat} {f C : Addr} {fd : FuncData} {ps ks : List Str} {sp : Sp} {E : XK} {x m : Str} {p pos apos kpos : Pos} {e o : Expr} {es : List Expr} {kws : List Keyword} {te ta : TE} {t tk : TA} {nm : Option Str}
theorem pk_nil : PK X [] tNil := fun _ _ _ _ H Q I h => wpAny_evalAll_nil ⟨[], H, I, .nil, h⟩
theorem pk_cons (ha : PE X e te) (hr : PK X kws t) : PK X (⟨nm, e, kpos⟩ :: kws) (tCons te t) := by
  intro pos pins s σ H Q I h
  show wpAny _ _ (evalAll ((do let v ← eval e X.env; standAt pos; pure v) :: (backToKw pos (keywordEach kws X.env)).map (·.2))) _ _ s
  refine wpAny_evalAll_cons (wpAny_bind (thn (ha pins s σ H _ I h) fun u s1 ⟨x, H1, I1, r1, q1⟩ => wpAny_bind (wpAny_standAt (wpAny_pure ?_))))
  exact thn (hr pos pins s1 σ H1 _ I1 q1) fun us s2 ⟨xs, H2, I2, r2, q2⟩ => ⟨x :: xs, H2, I2, .cons r1 r2, q2⟩

/-- how a call with keywords binds: g puts the positional values us and the keywords' values ws (names ks) in the parameters' order, defaults among them -/
structure KBinds (K : PySem.W.Frag) (fd : FuncData) (ps ks : List Str) (g : List Value → List Value → List Value) (gV : List V → List V → List V) : Prop where
  to : ∀ (s : Shared) (us ws : List Value), K.In s.heap → (g us ws).length = ps.length → BindsTo s fd ⟨us, ks.zip ws⟩ (ps.zip (g us ws))
  rel : ∀ {vs : List V} {us : List Value} {zs : List V} {ws : List Value}, Vals vs us → Vals zs ws → Vals (gV vs zs) (g us ws)
def tCallK (sp : Sp) (gV : List V → List V → List V) (E : XK) (t tk : TA) : TE := fun σ H Q => t σ H fun vs H1 => tk σ H1 fun zs H2 => sp (gV vs zs) H2 Q E
variable {g : List Value → List Value → List Value} {gV : List V → List V → List V}
theorem run_fnk {pins : List (Addr × Obj)} {σ : St} {H : Hp} {s : Shared} {Q : VK} {us ws : List Value} {vs zs : List V} (F : FnOk X.prog X.w X.K X.mg X.base CX k f fd ps sp) (hr : Room k X.A) (hb : KBinds X.K fd ps ks g gV) (hx : Passes CX X E)
    (I : Inv X pins σ H s) (r : Vals vs us) (rz : Vals zs ws) (h : sp (gV vs zs) H Q E) : wpAny (model X.prog X.w) X.A (call (.ref f) us (ks.zip ws)) (EP X pins σ Q) X.xe s := by
  have r2 := hb.rel r rz
  have hl : (g us ws).length = ps.length := by rw [← r2.length]; exact F.len _ _ _ _ h
  refine wpAny_call (codeAny_mono (F.run X.A X.stack s H ⟨us, ks.zip ws⟩ (g us ws) (gV vs zs) Q E hr I.env0 (hb.to s us ws I.kIn hl) r2 h) fun r s' hq => ?_)
  cases r with
  | error e => exact hx pins σ H s e s' I hq
  | ok fl =>
    cases fl with
    | ret u => exact I.after hq
    | next => exact False.elim hq
    | brk => exact False.elim hq
    | cont => exact False.elim hq
/-- f(e, .., k = v, ..) -/
theorem pe_callK (F : FnOk X.prog X.w X.K X.mg X.base CX k f fd ps sp) (hr : Room k X.A) (hg : Gl X x) (hm : X.mg x = some (.ref f)) (hk : PySem.W.keepIn X.K (.ref f) = true) (hb : KBinds X.K fd ps ks g gV) (hx : Passes CX X E)
    (ha : PA X (e :: es) t) (hkw : PK X kws tk) (hall : (backToKw pos (keywordEach kws X.env)).all (·.1.isSome) = true := by rfl) (hks : (backToKw pos (keywordEach kws X.env)).filterMap (·.1) = ks := by rfl)
    (hdb : (x == ("__debug__" : Str)) = false := by decide) (he : starEach (e :: es) X.env = (false, eval e X.env) :: starEach es X.env := by rfl)
    (hpl : ((backTo pos (starEach (e :: es) X.env)).any (·.1) || (backToKw pos (keywordEach kws X.env)).any (·.1.isNone)) = false := by rfl) :
    PE X (.Call (.Name x p) (e :: es) kws pos) (tCallK sp gV E t tk) := by
  intro pins s σ H Q I h
  refine wpAny_Call_Name_kw (ld_glob I hg hm ?_ hdb)
  refine PySem.W.callWith_KW (h₀ := X.base) I.ok.mod.kin hk hall (thn (ha pos pins s σ H _ I h) fun us s1 ⟨vs, H1, I1, r, q⟩ => ?_) hpl he
  refine thn (hkw pos pins s1 σ H1 _ I1 q) fun ws s2 ⟨zs, H2, I2, rz, q2⟩ => ⟨I2.kIn, ?_⟩
  rw [hks]
  exact run_fnk F hr hb hx I2 r rz q2
end

/-! ### a def's body keeps its promise -/
/-- names: the parameters first -/
structure FnScope (N P : List Str) (sc : Scope) : Prop where
  kind : sc.kind = .function
  co : sc.isCoroutine = false
  gen : sc.isGenerator = false
  nd : N.Nodup
  pre : N.take P.length = P
  par : ∀ x ∈ P, sc.names.lookup x = some .local ∨ sc.names.lookup x = some .cell
  nofree : ∀ y ∈ sc.names, y.2 ≠ .free

theorem bindL_out {kindOf : Str → Option NameKind} {x : Str} : ∀ {binds : List (Str × Value)} {m : Str → Option Value}, (∀ v, (x, v) ∉ binds) → bindL kindOf binds m x = m x
  | [], _, _ => rfl
  | (n, v) :: r, m, h => by
    unfold bindL
    rw [bindL_out fun w hw => h w (List.mem_cons_of_mem _ hw)]
    split
    · have : x ≠ n := by rintro rfl; exact h v List.mem_cons_self
      simp [this]
    · rfl
theorem bindC_out {kindOf : Str → Option NameKind} {x : Str} : ∀ {binds : List (Str × Value)} {m : Str → Option Value}, (∀ v, (x, v) ∉ binds) → bindC kindOf binds m x = m x
  | [], _, _ => rfl
  | (n, v) :: r, m, h => by
    unfold bindC
    rw [bindC_out fun w hw => h w (List.mem_cons_of_mem _ hw)]
    split
    · rfl
    · have : x ≠ n := by rintro rfl; exact h v List.mem_cons_self
      simp [this]
theorem bindL_get {kindOf : Str → Option NameKind} {x : Str} {v : Value} : ∀ {P : List Str} {vs : List Value} {i : Nat} {m : Str → Option Value}, P.Nodup → P[i]? = some x → vs[i]? = some v → kindOf x = some .local →
    bindL kindOf (P.zip vs) m x = some v
  | [], _, _, _, _, h, _, _ => by simp at h
  | _ :: _, [], _, _, _, _, h, _ => by simp at h
  | p :: P, w :: vs, 0, m, nd, h1, h2, hk => by
    simp at h1 h2; subst h1; subst h2
    show bindL kindOf ((p, w) :: P.zip vs) m p = _
    unfold bindL
    rw [bindL_out fun v hv => (List.nodup_cons.mp nd).1 (List.of_mem_zip hv).1, if_pos hk]
    simp
  | p :: P, w :: vs, i + 1, m, nd, h1, h2, hk => by
    show bindL kindOf ((p, w) :: P.zip vs) m x = _
    unfold bindL
    exact bindL_get (i := i) (List.nodup_cons.mp nd).2 (by simpa using h1) (by simpa using h2) hk
theorem bindC_get {kindOf : Str → Option NameKind} {x : Str} {v : Value} : ∀ {P : List Str} {vs : List Value} {i : Nat} {m : Str → Option Value}, P.Nodup → P[i]? = some x → vs[i]? = some v → kindOf x ≠ some .local →
    bindC kindOf (P.zip vs) m x = some v
  | [], _, _, _, _, h, _, _ => by simp at h
  | _ :: _, [], _, _, _, _, h, _ => by simp at h
  | p :: P, w :: vs, 0, m, nd, h1, h2, hk => by
    simp at h1 h2; subst h1; subst h2
    show bindC kindOf ((p, w) :: P.zip vs) m p = _
    unfold bindC
    rw [bindC_out fun v hv => (List.nodup_cons.mp nd).1 (List.of_mem_zip hv).1, if_neg hk]
    simp
  | p :: P, w :: vs, i + 1, m, nd, h1, h2, hk => by
    show bindC kindOf ((p, w) :: P.zip vs) m x = _
    unfold bindC
    exact bindC_get (i := i) (List.nodup_cons.mp nd).2 (by simpa using h1) (by simpa using h2) hk

/-- the names' values at the entry -/
def start (N : List Str) (vs : List V) : St := vs.map some ++ List.replicate (N.length - vs.length) none

/-- the context of a def's body, at its entry; an exception leaves the frame, then lies as CX says -/
def cxOf (CX : CXT) (P : Program) (w : World) (K : PySem.W.Frag) (mg : Str → Option Value) (base : Heap) (N : List Str) (qual : Str) (scope : Scope) (f : Addr) (cd : Value) (A : Around) (outer : List Env) (s : Shared) (H : Hp) (E : XK) : Cx where
  prog := P
  w := w
  K := K
  mg := mg
  base := base
  A := A.deeper (envOfC qual scope s.heap.objs.size f cd)
  N := N
  s₀ := s
  H₀ := H
  env := envOfC qual scope s.heap.objs.size f cd
  outer := outer
  stack := envOfC qual scope s.heap.objs.size f cd :: outer
  ex := []
  calm := true
  fn := fun _ => true
  pn := []
  xe := fun e s' => wpAny (model P w) (A.deeper (envOfC qual scope s.heap.objs.size f cd)) (leaving (envOfC qual scope s.heap.objs.size f cd) e) (fun _ s'' => CX outer H s E e s'') (fun e' s'' => CX outer H s E e' s'') s'

theorem cell_has {sc : Scope} {n : Nat} {x : Str} (h : sc.names.lookup x = some .cell) : ∃ c, (cellsFrom n sc.names []).lookup x = some c := by
  have q := PySem.W.cellsFrom_some sc.names n [] (.inl h)
  exact Option.isSome_iff_exists.mp q

theorem inv_start {CX : CXT} {P : Program} {w : World} {K : PySem.W.Frag} {mg : Str → Option Value} {base : Heap} {N ps : List Str} {qual : Str} {scope : Scope} {f : Addr} {cd : Value} {A : Around} {outer : List Env} {s s1 : Shared} {H : Hp} {E : XK} {us : List Value} {vs : List V}
    (S : FnScope N ps scope) (hd : A.handled = none) (e0 : Env0 P w K mg base A outer s H) (hl : vs.length = ps.length) (r : Vals vs us)
    (x : InCallC s s.heap.objs.size (bindL (envOfC qual scope s.heap.objs.size f cd).kindOf (ps.zip us) fun _ => none) (cellsFrom (s.heap.objs.size + 1) scope.names []) (bindC (envOfC qual scope s.heap.objs.size f cd).kindOf (ps.zip us) fun _ => none) s1) :
    Inv (cxOf CX P w K mg base N qual scope f cd A outer s H E) [] (start N vs) H s1 := by
  have hpl : ps.length ≤ N.length := by have := congrArg List.length S.pre; rw [List.length_take] at this; omega
  obtain ⟨h1, tk, rfl, hk⟩ := x.done
  have noA : ∀ b : Addr, b ∉ (cxOf CX P w K mg base N qual scope f cd A outer s H E).ex := fun b z => absurd (show b ∈ ([] : List Addr) from z) (by simp)
  refine ⟨⟨e0.mod, S.kind, rfl, rfl, Nat.le_refl _, fun y z c h1 h2 => ?_, fun y hy => ?_, fun y c _ h => ?_, fun _ => hd, Around.frames_deeper e0.frames, .inr ⟨rfl, rfl⟩, fun b z => absurd z (noA b), e0.bs, e0.bsz, fun b _ _ => noA b, fun b z => absurd z (noA b), e0.funs, e0.frf⟩,
    rfl, e0.bare, Un.kept hk, ⟨_, x.toInCall.ns, fun i y v h1 h2 h3 => ?_⟩, fun y c h => ⟨_, x.cell y c h⟩, e0.hok.fresh (Nat.le_refl _), fun y c h => ?_, fun p hp => absurd (show p ∈ ([] : List (Addr × Obj)) from hp) (by simp), e0.hok.kept hk, ?_⟩
  · exact name_of_addr x.apart (PySem.mem_of_lookup h1) (PySem.mem_of_lookup h2)
  · have hy : scope.names.lookup y = some .cell ∨ scope.names.lookup y = some .free := hy
    rcases hy with hy | hy
    · exact cell_has hy
    · exact absurd rfl (S.nofree _ (PySem.mem_of_lookup hy))
  · exact Nat.le_of_lt (x.above y c (PySem.mem_of_lookup h))
  · have hi : i < vs.length := by
      unfold start at h2
      by_cases hi : i < vs.length
      · exact hi
      · rw [List.getElem?_append_right (by simpa using hi)] at h2
        rw [List.getElem?_replicate] at h2
        split at h2 <;> cases h2
    have ha : vs[i]? = some v := by
      unfold start at h2
      rw [List.getElem?_append_left (by simpa using hi), List.getElem?_map] at h2
      cases e : vs[i]? with
      | none => rw [e] at h2; cases h2
      | some a => rw [e] at h2; cases h2; rfl
    obtain ⟨u, hu, rv⟩ := r.get ha
    have hp : ps[i]? = some y := by
      rw [← S.pre, List.getElem?_take_of_lt (by omega)]; exact h1
    have ndP : ps.Nodup := by rw [← S.pre]; exact S.nd.sublist (List.take_sublist _ _)
    refine ⟨u, rv, ?_⟩
    rcases S.par y (List.mem_of_getElem? hp) with k | k
    · exact .inl ⟨k, bindL_get ndP hp hu k⟩
    · obtain ⟨c, e⟩ := cell_has (n := s.heap.objs.size + 1) k
      refine .inr ⟨.inl k, c, e, ?_⟩
      have q := x.cell y c e
      rw [bindC_get ndP hp hu (by show scope.names.lookup y ≠ _; rw [k]; decide)] at q
      exact q
  · exact e0.hok.fresh (Nat.le_of_lt (x.above y c (PySem.mem_of_lookup h)))
  · unfold start
    show _ = N.length
    rw [List.length_append, List.length_map, List.length_replicate]
    omega

/-- THE RULE: a def (or a method) of the text, by its body. The body's reading t is chosen for each entry; it is run at the parameters' values -/
theorem fn_of {CX : CXT} {P : Program} {w : World} {K : PySem.W.Frag} {mg : Str → Option Value} {base : Heap} {k : Nat} {f : Addr} {name qual : Str} {params : Arguments} {body : List Stmt} {scope : Scope} {dV kV doc pm cdv ct oc : Value} {an od : Option Addr}
    {osl : Array (Option Value)} {N ps : List Str} {sp : Sp} (lk : K.lookup f = some ⟨oc, od, .func (PySem.W.fnOf name qual params body scope dV kV doc pm an cdv ct), osl⟩) (hcd : PySem.W.codeIn K cdv qual = true) (S : FnScope N ps scope)
    (len : ∀ vs H Q E, sp vs H Q E → vs.length = ps.length)
    (hbody : ∀ (A : Around) (outer : List Env) (s : Shared) (H : Hp) (vs : List V) (Q : VK) (E : XK), Room k (A.deeper (envOfC qual scope s.heap.objs.size f cdv)) → sp vs H Q E →
      ∃ t, PSs (cxOf CX P w K mg base N qual scope f cdv A outer s H E) body t ∧ t { nx := fun _ H' => Q .non H', rt := Q } (start N vs) H) :
    FnOk P w K mg base CX (k + 1) f (PySem.W.fnOf name qual params body scope dV kV doc pm an cdv ct) ps sp := by
  refine ⟨len, fun A outer s H args us vs Q E hr e0 hb r hsp => ?_⟩
  have hl := len _ _ _ _ hsp
  have KX : K.In s.heap := e0.mod.kin.keeps fun b o e => (e0.bs b o e).1
  have lim : s.heap.NoLimit := e0.mod.nolimit.keeps fun b o e => (e0.bs b o e).1
  have hkind : ∀ y ∈ ps.zip us, scope.names.lookup y.1 = some .local ∨ (scope.names.lookup y.1 = some .cell ∧ ((cellsFrom (s.heap.objs.size + 1) scope.names []).lookup y.1).isSome = true) := fun ⟨n, v⟩ hy => by
    rcases S.par n (List.of_mem_zip hy).1 with q | q
    · exact .inl q
    · exact .inr ⟨q, PySem.W.cellsFrom_some _ _ _ (.inl q)⟩
  refine codeAny_call_function hr.depth (KX _ _ lk) rfl S.co S.gen rfl (PySem.W.codeRec_of KX hcd) (hb _ _ _ _ ?_)
  refine wpAny_newFunctionEnv_cells S.kind hkind fun env he s1 x => ?_
  subst he
  refine ⟨lim.keeps x.toInCall.keep, codeAny_func ?_⟩
  obtain ⟨t, ht, hq⟩ := hbody A outer s H vs Q E (hr.deeper _) hsp
  have I : Inv (cxOf CX P w K mg base N qual scope f cdv A outer s H E) [] (start N vs) H s1 := inv_start S hr.hd e0 hl r x
  refine wpAny_mono (ht [] s1 (start N vs) H _ I hq) (fun fl s' hs => ?_) fun e s' hs => hs
  have fin : ∀ {σ' : St} {H' : Hp} {v : V} {u : Value}, Inv (cxOf CX P w K mg base N qual scope f cdv A outer s H E) [] σ' H' s' → RelV v u → Q v H' → CE outer P w H s Q u s' :=
    fun {σ' H' v u} J rv q => ⟨v, H', J.os, J.bare, J.base, J.hok, rv, q⟩
  cases fl with
  | ret u =>
    obtain ⟨v, σ', H', J, rv, q⟩ := hs
    exact fin J rv q
  | next =>
    obtain ⟨σ', H', J, q⟩ := hs
    exact fin (v := V.non) (u := Value.none) J rfl q
  | brk =>
    obtain ⟨_, _, _, q⟩ := hs
    exact False.elim q
  | cont =>
    obtain ⟨_, _, _, q⟩ := hs
    exact False.elim q
end L2

namespace L2
open PySem PySem.Spec PyProof.Rows
section
variable {X : Cx} {x : Str} {p pos : Pos} {e : Expr} {es : List Expr} {t : TA} {id T : String} {r : List V → Hp → VK → Prop}

def tCB (r : List V → Hp → VK → Prop) (t : TA) : TE := fun σ H Q => t σ H fun vs H1 => r vs H1 Q
/-- f(e, ..), f a built-in function -/
theorem pe_callB (hc : CallR X (.builtin id) r) (hg : Gl X x) (hm : X.mg x = none) (hv : bootBuiltins x = some (.builtin id)) (ha : PA X (e :: es) t) (hn : x ≠ "__name__" := by decide) (hdb : (x == ("__debug__" : Str)) = false := by decide)
    (he : starEach (e :: es) X.env = (false, eval e X.env) :: starEach es X.env := by rfl) (hpl : (backTo pos (starEach es X.env)).any (·.1) = false := by rfl) : PE X (.Call (.Name x p) (e :: es) [] pos) (tCB r t) := by
  intro pins s σ H Q I h
  refine wpAny_Call_Name_kw (ld_blt I hg hm hv ?_ hn hdb)
  exact PyProof.Rows.callWith_builtin1 (thn (ha pos pins s σ H _ I h) fun us s1 ⟨vs, H1, I1, r1, q1⟩ => hc pins s1 σ H1 vs us Q I1 r1 q1) he hpl
/-- T(e, ..), T a built-in type -/
theorem pe_callTy (hc : CallR X (.type T) r) (hg : Gl X x) (hm : X.mg x = none) (hv : bootBuiltins x = some (.type T)) (ha : PA X (e :: es) t) (hn : x ≠ "__name__" := by decide) (hdb : (x == ("__debug__" : Str)) = false := by decide)
    (he : starEach (e :: es) X.env = (false, eval e X.env) :: starEach es X.env := by rfl) (hpl : (backTo pos (starEach es X.env)).any (·.1) = false := by rfl) : PE X (.Call (.Name x p) (e :: es) [] pos) (tCB r t) := by
  intro pins s σ H Q I h
  refine wpAny_Call_Name_kw (ld_blt I hg hm hv ?_ hn hdb)
  exact PyProof.Rows.callWith_type1 (thn (ha pos pins s σ H _ I h) fun us s1 ⟨vs, H1, I1, r1, q1⟩ => hc pins s1 σ H1 vs us Q I1 r1 q1) he hpl
/-- T() -/
theorem pe_callTy0 (hc : CallR X (.type T) r) (hg : Gl X x) (hm : X.mg x = none) (hv : bootBuiltins x = some (.type T)) (hn : x ≠ "__name__" := by decide) (hdb : (x == ("__debug__" : Str)) = false := by decide) :
    PE X (.Call (.Name x p) [] [] pos) (tCB r tNil) := by
  intro pins s σ H Q I h
  refine wpAny_Call_Name_kw (ld_blt I hg hm hv ?_ hn hdb)
  exact PyProof.Rows.callWith_type0 (hc pins s σ H [] [] Q I .nil h)
end
end L2

namespace HT
open PySem PyProof.Rows

/-- t < u of tuples of ints -/
def lexLt : List Int → List Int → Bool
  | [], [] => false
  | [], _ :: _ => true
  | _ :: _, [] => false
  | x :: xs, y :: ys => if x = y then lexLt xs ys else decide (x < y)
theorem lexLt_cons (x y : Int) (xs ys : List Int) : lexLt (x :: xs) (y :: ys) = if x = y then lexLt xs ys else decide (x < y) := rfl
theorem lexLt_nil_nil : lexLt [] [] = false := rfl
theorem lexLt_nil_cons (y : Int) (ys : List Int) : lexLt [] (y :: ys) = true := rfl
theorem lexLt_cons_nil (x : Int) (xs : List Int) : lexLt (x :: xs) [] = false := rfl

theorem eqAt_int (A : Around) (s : Shared) (a : Int) (t : Tok) (c : Int) (u : Tok) : ∃ e, SeqAt.EqAt A s (.int a t) (.int c u) e ∧ (e = true ↔ a = c) :=
  ⟨(a == c), SeqAt.EqAt.int_int a t c u, by simp⟩
theorem rcLt_int (A : Around) (s : Shared) (a : Int) (t : Tok) (c : Int) (u : Tok) (prog : Program) (w : World) (E : Value → Shared → Prop) (Q : Value → Shared → Prop) (h : Q (.bool (decide (a < c))) s) :
    wpAny (model prog w) A (richCompare .Lt (.int a t) (.int c u)) Q E s :=
  (PyProof.Rows.lt_int h : wpAny (model prog w) A (compareOp .Lt (.int a t) (.int c u)) Q E s)

section
open PySem.SeqAt
open PySem.AutoSeq1 (wpAny_loadPart')
open PySem.MeetsSeq PySem.MeetsSeq2 PySem.MeetsSeq3

theorem tuple_lt_ints (l b : Addr) (items items2 : Array Value) (n n2 : Nat) (dd dd2 : Option Addr) (sl sl2 : Array (Option Value)) (ns ms : List Int) (hi : IntsAre items.toList ns) (hj : IntsAre items2.toList ms) :
    Meets (Builtin.«tuple.__lt__» ⟨[.ref l, .ref b], []⟩)
      (fun _ R s => s.heap.get? l = some { cls := .type "tuple", dict := dd, data := .seq items n, slots := sl } ∧ s.heap.get? b = some { cls := .type "tuple", dict := dd2, data := .seq items2 n2, slots := sl2 } ∧
        R (.ok (.ret (.bool (lexLt ns ms)))) s) :=
  .of_wp fun prog w A R s h => by
    obtain ⟨hp, g, d, tk, os⟩ := s; obtain ⟨hl, hb, h⟩ := h
    have f2 := AutoSeq1.sub_tuple_tuple
    have z1 : items.size = ns.length := by rw [← hi.length]; simp
    have z2 : items2.size = ms.length := by rw [← hj.length]; simp
    wp_walk using wpAny_loadPart' hl, wpAny_loadPart' hb, wpAny_forIn_list _ (fun rest b s' => b.1 = none ∧ s' = ⟨hp, g, d, tk, os⟩ ∧ ∃ (vs ws : List Value) (ns' ms' : List Int), rest = vs.zip ws ∧
      IntsAre vs ns' ∧ IntsAre ws ms' ∧ ns'.length + items2.size = ms'.length + items.size ∧ R (.ok (.ret (.bool (lexLt ns' ms')))) ⟨hp, g, d, tk, os⟩) _
    case turn =>
      rintro ⟨y, x⟩ rest b s' ⟨hb', rfl, vs, ws, ns', ms', hz, hvi, hwi, hlen, hR⟩
      cases hvi with
      | nil => rw [List.zip_nil_left] at hz; cases hz
      | cons a t hvi' =>
        cases hwi with
        | nil => rw [List.zip_nil_right] at hz; cases hz
        | cons c u hwi' =>
          rw [List.zip_cons_cons] at hz
          injection hz with hyx hrest
          injection hyx with hy hx
          subst hy hx
          rw [lexLt_cons] at hR
          simp only [List.length_cons] at hlen
          obtain ⟨e, he, hiff⟩ := eqAt_int A.in1 ⟨hp, g, d, tk, os⟩ a t c u
          refine wpAny_bind (he prog w _ _ ?_)
          cases e with
          | true =>
            rw [if_pos (hiff.mp rfl)] at hR
            wp_walk
            exact ⟨rfl, rfl, _, _, _, _, hrest, hvi', hwi', by omega, hR⟩
          | false =>
            rw [if_neg (fun q => absurd (hiff.mpr q) Bool.false_ne_true)] at hR
            have hri := rcLt_int A.in1 ⟨hp, g, d, tk, os⟩ a t c u prog w
            wp_walk using hri
            exact ⟨_, rfl, by simpa using hR⟩
    case fin =>
      rintro ⟨b1, b2⟩ s' ⟨hb', rfl, vs, ws, ns', ms', hz, hvi, hwi, hlen, hR⟩
      simp only at hb'
      subst hb'
      have hv : lexLt ns' ms' = decide (items.size < items2.size) := by
        cases hvi with
        | nil =>
          cases hwi with
          | nil =>
            simp only [List.length_nil] at hlen
            rw [lexLt_nil_nil]
            exact (decide_eq_false (by omega)).symm
          | cons c u hw =>
            simp only [List.length_nil, List.length_cons] at hlen
            rw [lexLt_nil_cons]
            exact (decide_eq_true (by omega)).symm
        | cons a t hv =>
          cases hwi with
          | nil =>
            simp only [List.length_nil, List.length_cons] at hlen
            rw [lexLt_cons_nil]
            exact (decide_eq_false (by omega)).symm
          | cons c u hw =>
            rw [List.zip_cons_cons] at hz
            cases hz
      rw [hv] at hR
      wp_walk
      exact ⟨_, rfl, by simpa [Builtin.Tuple.tupleCompareSizes] using hR⟩
    case h =>
      exact ⟨rfl, rfl, items.toList, items2.toList, ns, ms, rfl, hi, hj, by omega, h⟩
end

section
variable {prog : Program} {w : World} {A : Around} {E : Value → Shared → Prop} {s : Shared}

theorem lt_tupInts {l b : Addr} {items items2 : Array Value} {ns ms : List Int} {Q : Value → Shared → Prop} (hl : IsTup s.heap l items) (hb : IsTup s.heap b items2) (hi : IntsAre items.toList ns) (hj : IntsAre items2.toList ms)
    (hu : A.units < cLine) (h : Q (.bool (lexLt ns ms)) s) : wpAny (model prog w) A (compareOp .Lt (.ref l) (.ref b)) Q E s := by
  obtain ⟨⟨cls, dd, data, sl⟩, ho, hc, n, hd⟩ := id hl
  obtain ⟨⟨cls2, dd2, data2, sl2⟩, ho2, hc2, n2, hd2⟩ := id hb
  simp only at hc hd hc2 hd2
  subst hc hd hc2 hd2
  exact richCompare_meets_room (op := .Lt) ⟨_, ho, rfl⟩ ⟨_, ho2, rfl⟩ PySem.F.slot_tuple_lt PySem.F.entry_tuple_lt (PySem.F.args_tuple_lt_2 _ _) (tuple_lt_ints l b items items2 n n2 dd dd2 sl sl2 ns ms hi hj)
    ⟨ho, ho2, show Value.bool (lexLt ns ms) ≠ Value.notImplemented ∧ Q (.bool (lexLt ns ms)) s from ⟨(fun x => nomatch x), h⟩⟩ hu

/-- t + u, t not empty -/
theorem cat_tup {t b : Addr} {vs ws : List Value} {Q : Value → Shared → Prop} (ht : IsTup s.heap t vs.toArray) (hb : IsTup s.heap b ws.toArray) (hv : vs ≠ [])
    (h1 : ws = [] → Q (.ref t) s) (h2 : ws ≠ [] → Q (.ref s.heap.objs.size) { s with heap := s.heap.push { cls := .type "tuple", data := .seq (vs ++ ws).toArray } })
    (hsz : vs.length + ws.length ≤ sizeLine) : wpAny (model prog w) A (binaryOp .Add (.ref t) (.ref b)) Q E s := by
  obtain ⟨⟨cls, dd, data, sl⟩, ho, hc, n, hd⟩ := id ht
  obtain ⟨⟨cls2, dd2, data2, sl2⟩, ho2, hc2, n2, hd2⟩ := id hb
  simp only at hc hd hc2 hd2
  subst hc hd hc2 hd2
  have e : vs.toArray ++ ws.toArray = (vs ++ ws).toArray := by simp
  by_cases hw : ws = []
  · exact concat_meets ⟨_, ho, rfl⟩ ⟨_, ho2, rfl⟩ noFill_tuple_add seq_tuple_add PySem.F.slot_tuple_add PySem.F.entry_tuple_add (PySem.F.args_tuple_add_2 _ _)
      (tuple_addW1 t b vs.toArray ws.toArray n n2 dd dd2 sl sl2 (by simpa using hv) (by simp [hw])) ⟨ho, ho2, h1 hw⟩
  · refine concat_meets ⟨_, ho, rfl⟩ ⟨_, ho2, rfl⟩ noFill_tuple_add seq_tuple_add PySem.F.slot_tuple_add PySem.F.entry_tuple_add (PySem.F.args_tuple_add_2 _ _)
      (tuple_addW2 t b vs.toArray ws.toArray n n2 dd dd2 sl sl2 (by simpa using hv) (by simpa using hw) (by rw [List.size_toArray, List.size_toArray]; exact hsz)) ⟨ho, ho2, ?_⟩
    rw [e]
    exact h2 hw

/-! ### t[a:b], not the whole -/
/-- a slice's bound as a place among n (d where it is left out) -/
def sIx (n d : Nat) : Option Int → Nat
  | none => d
  | some v => if v < 0 then (v + (n : Int)).toNat else min v.toNat n
theorem sIx_none (n d : Nat) : sIx n d none = d := rfl
theorem sIx_nat (n d k : Nat) : sIx n d (some (k : Int)) = min k n := by
  show (if (k : Int) < 0 then ((k : Int) + (n : Int)).toNat else min (k : Int).toNat n) = min k n
  rw [if_neg (by omega), Int.toNat_natCast]
theorem sIx_le (n d : Nat) (hd : d ≤ n) (o : Option Int) : sIx n d o ≤ n := by
  cases o with
  | none => exact hd
  | some v =>
    show (if v < 0 then (v + (n : Int)).toNat else min v.toNat n) ≤ n
    by_cases hv : v < 0
    · rw [if_pos hv]; omega
    · rw [if_neg hv]; exact Nat.min_le_right _ _
theorem clip_eq (v : Int) (n d : Nat) : (if v < 0 then max (v + (n : Int)) 0 else min v (n : Int)) = ((sIx n d (some v) : Nat) : Int) := by
  show (if v < 0 then max (v + (n : Int)) 0 else min v (n : Int)) = (((if v < 0 then (v + (n : Int)).toNat else min v.toNat n) : Nat) : Int)
  by_cases hv : v < 0
  · simp only [if_pos hv]; omega
  · simp only [if_neg hv]; omega
theorem adjust_gen (lo hi : Option Int) (n : Nat) : Builtin.Slice.sliceAdjust lo hi 1 (n : Int) = (((sIx n 0 lo : Nat) : Int), ((sIx n n hi : Nat) : Int)) := by
  have h1 : ¬ ((1 : Int) < 0) := by omega
  unfold Builtin.Slice.sliceAdjust
  simp only [h1, if_false]
  refine Prod.ext ?_ ?_
  · cases lo with
    | none => rfl
    | some v => exact clip_eq v n 0
  · cases hi with
    | none => rfl
    | some v => exact clip_eq v n n
theorem places_gen (i j : Nat) : Builtin.Slice.slicePlaces (i : Int) (j : Int) 1 = j - i := by
  unfold Builtin.Slice.slicePlaces
  have h1 : (1 : Int) > 0 := by omega
  simp only [h1, if_true, Int.ediv_one]
  split <;> omega
theorem slicePart_ {v : Value} {o : Option Int} {Q : Option Int → Shared → Prop} (p : IsPart v o) (h : Q o s) : wpAny (model prog w) A (Builtin.Slice.slicePartIndex v) Q E s := by
  cases p with
  | none => exact slicePart_none h
  | int i t => exact slicePart_int h
theorem sliceApplied_gen {sl : Addr} {vl vu : Value} {lo hi : Option Int} {n : Nat} {Q : Int × Int × Nat → Shared → Prop} (hs : s.heap.IsSliceOf sl vl vu .none) (pl : IsPart vl lo) (pu : IsPart vu hi)
    (h : Q (((sIx n 0 lo : Nat) : Int), 1, sIx n n hi - sIx n 0 lo) s) : wpAny (model prog w) A (Builtin.Slice.sliceApplied (.ref sl) (pure (n : Int))) Q E s := by
  obtain ⟨os, hos, hcs, hds⟩ := id hs
  unfold Builtin.Slice.sliceApplied Builtin.Slice.sliceFields
  refine wpAny_bind (wpAny_bind (wpAny_field hos hds (x := vl) rfl (wpAny_bind (wpAny_field hos hds (x := vu) rfl (wpAny_bind (wpAny_field hos hds (x := .none) rfl (wpAny_pure ?_)))))))
  refine wpAny_bind (slicePart_none ?_)
  show wpAny _ _ (if ((1 : Int) == 0) = true then _ else _) _ _ s
  rw [if_neg (by decide)]
  refine wpAny_bind (slicePart_ pl (wpAny_bind (slicePart_ pu (wpAny_bind (wpAny_pure ?_)))))
  show wpAny _ _ (match Builtin.Slice.sliceAdjust lo hi 1 (n : Int) with | (lo, hi) => pure (lo, (1 : Int), Builtin.Slice.slicePlaces lo hi 1)) _ _ s
  rw [adjust_gen lo hi n]
  show wpAny _ _ (pure (((sIx n 0 lo : Nat) : Int), (1 : Int), Builtin.Slice.slicePlaces ((sIx n 0 lo : Nat) : Int) ((sIx n n hi : Nat) : Int) 1)) _ _ s
  rw [places_gen]
  exact wpAny_pure h
theorem pick_gen (xs : Array Value) (i k : Nat) : ((List.range k).filterMap fun (m : Nat) => xs[((i : Int) + (m : Int) * 1).toNat]?).toArray = ((xs.toList.drop i).take k).toArray := by
  have e : (fun (m : Nat) => xs[((i : Int) + (m : Int) * 1).toNat]?) = fun m => xs[i + m]? := by
    funext m
    have : ((i : Int) + (m : Int) * 1).toNat = i + m := by omega
    rw [this]
  rw [e]
  have := pick_run xs i k
  rw [List.filterMap_map] at this
  have e2 : ((fun x => xs[x]?) ∘ fun x => i + x) = fun m => xs[i + m]? := rfl
  rw [e2] at this
  rw [this]

theorem getItem_tuple_cut {t sl : Addr} {items : Array Value} {vl vu : Value} {lo hi : Option Int} {Q : Value → Shared → Prop} (ht : IsTup s.heap t items) (hs : s.heap.IsSliceOf sl vl vu .none) (pl : IsPart vl lo) (pu : IsPart vu hi)
    (hw : ¬ (sIx items.size 0 lo = 0 ∧ sIx items.size items.size hi = items.size))
    (h : Q (.ref s.heap.objs.size) { s with heap := s.heap.push { cls := .type "tuple", data := .seq ((items.toList.drop (sIx items.size 0 lo)).take (sIx items.size items.size hi - sIx items.size 0 lo)).toArray } })
    (hsz : items.size ≤ sizeLine) : wpAny (model prog w) A (getItem (.ref t) (.ref sl)) Q E s := by
  have htake : sizeOk (.seq ((items.toList.drop (sIx items.size 0 lo)).take (sIx items.size items.size hi - sIx items.size 0 lo)).toArray) := by
    show ((items.toList.drop (sIx items.size 0 lo)).take (sIx items.size items.size hi - sIx items.size 0 lo)).toArray.size ≤ sizeLine
    rw [List.size_toArray, List.length_take, List.length_drop, Array.length_toList]
    omega
  have hj : sIx items.size items.size hi ≤ items.size := sIx_le _ _ (Nat.le_refl _) hi
  obtain ⟨os, hos, hcs, hds⟩ := id hs
  have hTs : s.TypeIs (.ref sl) "slice" := ⟨os, hos, hcs⟩
  unfold getItem
  try with_reducible refine wpAny_holding ?_
  first | refine wpAny_bind (wpAny_pure ?_) | skip
  refine wpAny_bind (wpAny_sequenceKey ht.typeIs (by decide) ?_)
  refine wpAny_bind (wpAny_callSpecial?_slot (name := Str.ofString "__getitem__") ht.typeIs PyProof.Rows.slot_tuple_getitem
    (wpAny_call_entry PyProof.Rows.slot_tuple_getitem ht.typeIs entry_tuple_getitem ?_ (args_tuple_getitem _ _)))
  show wpAny _ _ (Builtin.Tuple.tupleItemsOf (.ref t) >>= _) _ _ s
  refine wpAny_bind (tupleItemsOf_ ht ?_)
  refine wpAny_bind (wpAny_typeOf hTs ?_)
  rw [if_pos (by decide)]
  refine wpAny_bind (sliceApplied_gen hs pl pu ?_)
  have hno : ¬ ((((sIx items.size 0 lo : Nat) : Int) == 0 && (1 : Int) == 1 && (sIx items.size items.size hi - sIx items.size 0 lo) == items.size) = true) := by
    intro q
    rw [Bool.and_eq_true, Bool.and_eq_true] at q
    have q1 : ((sIx items.size 0 lo : Nat) : Int) = 0 := eq_of_beq q.1.1
    have q2 : sIx items.size items.size hi - sIx items.size 0 lo = items.size := eq_of_beq q.2
    exact hw ⟨by omega, by omega⟩
  show wpAny _ _ (if (((sIx items.size 0 lo : Nat) : Int) == 0 && (1 : Int) == 1 && (sIx items.size items.size hi - sIx items.size 0 lo) == items.size) = true then _ else _) _ _ s
  rw [if_neg hno, pick_gen]
  first
    | exact wpAny_bind (m := Builtin.Tuple.tupleExact _) (wpAny_newObj_type (wpAny_pure ⟨_, rfl, wpAny_pure h⟩) htake)
    | exact wpAny_bind (m := Builtin.Tuple.tupleExact _) (wpAny_newObj_type (wpAny_bind (wpAny_pure (wpAny_pure ⟨_, rfl, wpAny_pure h⟩))) htake)
    | exact wpAny_bind (wpAny_bind (m := Builtin.Tuple.tupleExact _) (wpAny_newObj_type (wpAny_pure (wpAny_pure ⟨_, rfl, wpAny_pure h⟩)) htake))
    | exact wpAny_bind (wpAny_bind (m := Builtin.Tuple.tupleExact _) (wpAny_newObj_type (wpAny_pure ⟨_, rfl, wpAny_pure h⟩) htake))
end
end HT

namespace L2
open PySem PySem.Spec PyProof.Rows

/-! ### the parts of a slice -/
abbrev TO := St → Hp → (Option Int → Hp → Prop) → Prop
/-- a slice's part (left out, or an int) -/
def PO (X : Cx) (e : Option Expr) (t : TO) : Prop :=
  ∀ (pins : List (Addr × Obj)) (s : Shared) (σ : St) (H : Hp) (Q : Option Int → Hp → Prop), Inv X pins σ H s → t σ H Q →
    wpAny (model X.prog X.w) X.A (evalPart e X.env) (fun u s' => ∃ o H', Inv X pins σ H' s' ∧ IsPart u o ∧ Q o H') X.xe s
def tNoPart : TO := fun _ H Q => Q none H
def tPart (t : TE) : TO := fun σ H Q => t σ H fun x H1 => ∃ i, x = .int i ∧ Q (some i) H1

theorem intsAre_of {ns : List Int} : ∀ {us : List Value}, Vals (ns.map V.int) us → IntsAre us ns := by
  induction ns with
  | nil => intro us r; rw [List.map_nil] at r; cases r; exact .nil
  | cons n ns ih =>
    intro us r
    rw [List.map_cons] at r
    cases r with
    | cons r1 r2 =>
      obtain ⟨t, e⟩ := r1
      subst e
      exact .cons n t (ih r2)

section
variable {X : Cx} {e : Expr} {te : TE} {lo hi : Option Expr} {tl th : TO} {pos p2 : Pos}

theorem po_none : PO X none tNoPart := by
  intro pins s σ H Q I h
  rw [evalPart_none]
  exact wpAny_pure ⟨none, H, I, .none, h⟩
theorem po_some (h : PE X e te) : PO X (some e) (tPart te) := by
  intro pins s σ H Q I hw
  rw [evalPart_some]
  refine thn (h pins s σ H _ I hw) fun u s1 ⟨x, H1, I1, r1, q1⟩ => ?_
  obtain ⟨i, rfl, q⟩ := q1
  obtain ⟨t, rfl⟩ := r1
  exact ⟨some i, H1, I1, .int i t, q⟩

/-- what a slice of a value is, by values: the slice object stands at sl -/
def SlR (X : Cx) (r : V → Option Int → Option Int → Hp → VK → Prop) : Prop :=
  ∀ (pins : List (Addr × Obj)) (s : Shared) (σ : St) (H : Hp) (x : V) (v vl vu : Value) (lo hi : Option Int) (sl : Addr) (Q : VK), Inv X pins σ H s → RelV x v → s.heap.IsSliceOf sl vl vu .none → IsPart vl lo → IsPart vu hi → r x lo hi H Q →
    ∃ T id, typeLookup (.type T) "__getitem__" = pure (some (.builtin id)) ∧ s.TypeIs v T ∧ wpAny (model X.prog X.w) X.A (getItem v (.ref sl)) (EP X pins σ Q) X.xe s
theorem SlR.or {r r' : V → Option Int → Option Int → Hp → VK → Prop} (h : SlR X r) (h' : SlR X r') : SlR X (fun x lo hi H Q => r x lo hi H Q ∨ r' x lo hi H Q) := by
  intro pins s σ H x v vl vu lo hi sl Q I rx hs pl pu q
  rcases q with q | q
  · exact h pins s σ H x v vl vu lo hi sl Q I rx hs pl pu q
  · exact h' pins s σ H x v vl vu lo hi sl Q I rx hs pl pu q
def tSl (r : V → Option Int → Option Int → Hp → VK → Prop) (te : TE) (tl th : TO) : TE := fun σ H Q => te σ H fun x H1 => tl σ H1 fun l H2 => th σ H2 fun u H3 => r x l u H3 Q
/-- a[lo:hi], any a -/
theorem pe_slice {r : V → Option Int → Option Int → Hp → VK → Prop} (hr : SlR X r) (he : PE X e te) (hl : PO X lo tl) (hu : PO X hi th) : PE X (.Subscript e (.Slice lo hi none p2) pos) (tSl r te tl th) := by
  intro pins s σ H Q I h
  refine Subscript_ (thn (he pins s σ H _ I h) fun v s1 ⟨x, H1, I1, r1, q1⟩ => ?_)
  refine wpAny_Slice (thn (hl pins s1 σ H1 _ I1 q1) fun vl s2 ⟨l, H2, I2, pl, q2⟩ => thn (hu pins s2 σ H2 _ I2 q2) fun vu s3 ⟨u, H3, I3, pu, q3⟩ => ?_)
  rw [evalPart_none]
  refine wpAny_pure ?_
  have I4 : Inv X pins σ H3 { s3 with heap := s3.heap.push { cls := .type "slice", data := .fields #[vl, vu, .none] } } := I3.kept (t' := s3.toks) fun b ob q => Heap.get?_push_of_some _ q
  obtain ⟨T, id, hT, ht, hg⟩ := hr pins { s3 with heap := s3.heap.push { cls := .type "slice", data := .fields #[vl, vu, .none] } } σ H3 x v vl vu l u s3.heap.objs.size Q I4 r1 (Heap.IsSliceOf.new ..) pl pu q3
  show wpAny (model X.prog X.w) X.A (subscriptTail e (.Slice lo hi none p2) v (.ref s3.heap.objs.size)) (EP X pins σ Q) X.xe { s3 with heap := s3.heap.push { cls := .type "slice", data := .fields #[vl, vu, .none] } }
  exact tail_any (ops := [.ref s3.heap.objs.size, v]) ht hT hg (by with_unfolding_all rfl)

/-- the items of xs[lo:hi] -/
def cutV (xs : List V) (lo hi : Option Int) : List V := (xs.drop (HT.sIx xs.length 0 lo)).take (HT.sIx xs.length xs.length hi - HT.sIx xs.length 0 lo)
theorem cutV_length (xs : List V) (lo hi : Option Int) : (cutV xs lo hi).length ≤ xs.length := by
  unfold cutV
  rw [List.length_take, List.length_drop]
  omega
/-- t[lo:hi], not the whole of it (the whole would be t itself) -/
def rSlT (K : PySem.W.Frag) : V → Option Int → Option Int → Hp → VK → Prop := fun x lo hi H Q => ∃ a xs, x = .ref a ∧ SqT K H a xs ∧
  ¬ (HT.sIx xs.length 0 lo = 0 ∧ HT.sIx xs.length xs.length hi = xs.length) ∧ ∀ p, H p = none → Q (.ref p) (upd H p (.tup (cutV xs lo hi)))
theorem sl_tup : SlR X (rSlT X.K) := by
  intro pins s σ H x v vl vu lo hi sl Q I rx hs pl pu h
  obtain ⟨a, xs, rfl, hx, hw, q⟩ := h
  cases rx
  obtain ⟨its, r, ht, hz⟩ := I.tuple hx
  have hlen : its.toArray.size = xs.length := by rw [List.size_toArray]; exact r.length.symm
  refine ⟨"tuple", _, PyProof.Rows.slot_tuple_getitem.lookup, ht.typeIs, ?_⟩
  refine HT.getItem_tuple_cut ht hs pl pu (by rw [hlen]; exact hw) ?_ (by rw [hlen]; exact hz)
  rw [hlen]
  refine ⟨.ref s.heap.objs.size, _, I.laid (t' := s.toks) (o := .tup (cutV xs lo hi)) (fun b ob q => Heap.get?_push_of_some _ q) (Nat.le_refl _) ?_, rfl, q _ (I.hok.fresh (Nat.le_refl _))⟩
  exact ⟨Nat.le_trans (cutV_length xs lo hi) hz, _, (r.drop (HT.sIx xs.length 0 lo)).take (HT.sIx xs.length xs.length hi - HT.sIx xs.length 0 lo), IsTup.new _ _⟩

/-! ### t < u, t + u -/
def rLtT (K : PySem.W.Frag) : R2 := fun x y H Q => ∃ a b ns ms, x = .ref a ∧ y = .ref b ∧ SqT K H a (ns.map V.int) ∧ SqT K H b (ms.map V.int) ∧ Q (.bl (HT.lexLt ns ms)) H
theorem op_ltT (hu : X.A.units < cLine) : OpR X (compareOp .Lt) (rLtT X.K) := by
  intro pins s σ H x y v u Q I rx ry h
  obtain ⟨a, b, ns, ms, rfl, rfl, ha, hb, q⟩ := h
  cases rx
  cases ry
  obtain ⟨its, r1, p1, _⟩ := I.tuple ha
  obtain ⟨its2, r2, p2, _⟩ := I.tuple hb
  have i1 : IntsAre its.toArray.toList ns := intsAre_of r1
  have i2 : IntsAre its2.toArray.toList ms := intsAre_of r2
  exact HT.lt_tupInts p1 p2 i1 i2 hu ⟨.bl (HT.lexLt ns ms), H, I, rfl, q⟩
/-- t + u, t not empty: u empty gives t itself -/
def rCatT (K : PySem.W.Frag) : R2 := fun x y H Q => ∃ a b xs ys, x = .ref a ∧ y = .ref b ∧ SqT K H a xs ∧ SqT K H b ys ∧ xs ≠ [] ∧ xs.length + ys.length ≤ sizeLine ∧
  (ys = [] → Q (.ref a) H) ∧ (ys ≠ [] → ∀ p, H p = none → Q (.ref p) (upd H p (.tup (xs ++ ys))))
theorem Vals.nil_iff {xs : List V} {us : List Value} (r : Vals xs us) : us = [] ↔ xs = [] := by
  cases r with
  | nil => simp
  | cons _ _ => simp
theorem op_catT : OpR X (binaryOp .Add) (rCatT X.K) := by
  intro pins s σ H x y v u Q I rx ry h
  obtain ⟨a, b, xs, ys, rfl, rfl, ha, hb, hx, hz, q1, q2⟩ := h
  cases rx
  cases ry
  obtain ⟨its, r1, p1, _⟩ := I.tuple ha
  obtain ⟨its2, r2, p2, _⟩ := I.tuple hb
  refine HT.cat_tup p1 p2 (fun z => hx (r1.nil_iff.mp z)) (fun z => ⟨.ref a, H, I, rfl, q1 (r2.nil_iff.mp z)⟩) (fun z => ?_) (by rw [← r1.length, ← r2.length]; exact hz)
  refine ⟨.ref s.heap.objs.size, _, I.laid (t' := s.toks) (o := .tup (xs ++ ys)) (fun b ob q => Heap.get?_push_of_some _ q) (Nat.le_refl _) ?_, rfl, q2 (fun w => z (r2.nil_iff.mpr w)) _ (I.hok.fresh (Nat.le_refl _))⟩
  exact ⟨by rw [List.length_append]; exact hz, _, r1.append r2, IsTup.new _ _⟩
/-- tuple(t) -/
theorem call_tupleT : CallR X (.type "tuple") (fun xs H Q => ∃ a ys, xs = [.ref a] ∧ SqT X.K H a ys ∧ Q (.ref a) H) := by
  intro pins s σ H xs us Q I r h
  obtain ⟨a, ys, rfl, ha, q⟩ := h
  obtain ⟨u, rfl, ru⟩ := vals1 r
  cases ru
  obtain ⟨its, _, p1, _⟩ := I.tuple ha
  exact call_tuple_same (items := its.toArray) p1 ⟨.ref a, H, I, rfl, q⟩
end
end L2

namespace L2
open PySem PySem.Spec PyProof.Rows

/-! ### places -/
/-- the place that an index of any sign means -/
def ixN (n : Nat) (i : Int) : Option Nat := if 0 ≤ i then (if i < n then some i.toNat else none) else if -(n : Int) ≤ i then some (i + n).toNat else none
def atI {α : Type} (xs : List α) (i : Int) : Option α := (ixN xs.length i).bind fun j => xs[j]?
theorem ixN_seq {n : Nat} {i : Int} {j : Nat} (h : ixN n i = some j) : seqIndex? i n = some j ∧ j < n ∧ -(n : Int) ≤ i ∧ i < n := by
  unfold ixN at h
  by_cases h0 : 0 ≤ i
  · rw [if_pos h0] at h
    by_cases h1 : i < n
    · rw [if_pos h1] at h
      have e : i.toNat = j := Option.some.inj h
      exact ⟨by rw [seqIndex_of h0 h1, e], by omega, by omega, h1⟩
    · rw [if_neg h1] at h; cases h
  · rw [if_neg h0] at h
    by_cases h1 : -(n : Int) ≤ i
    · rw [if_pos h1] at h
      have e : (i + n).toNat = j := Option.some.inj h
      exact ⟨by rw [seqIndex_neg (by omega) h1, e], by omega, h1, by omega⟩
    · rw [if_neg h1] at h; cases h
theorem atI_get {α : Type} {xs : List α} {i : Int} {v : α} (h : atI xs i = some v) : ∃ j, seqIndex? i xs.length = some j ∧ xs[j]? = some v ∧ j < xs.length ∧ -(xs.length : Int) ≤ i ∧ i < xs.length := by
  unfold atI at h
  cases e : ixN xs.length i with
  | none => rw [e] at h; cases h
  | some j =>
    rw [e] at h
    obtain ⟨h1, h2, h3, h4⟩ := ixN_seq e
    exact ⟨j, h1, h, h2, h3, h4⟩
theorem atI_nat {α : Type} {xs : List α} {j : Nat} {v : α} (h : xs[j]? = some v) : atI xs (j : Int) = some v := by
  have hj : j < xs.length := (List.getElem?_eq_some_iff.mp h).1
  have e : ixN xs.length (j : Int) = some j := by
    unfold ixN
    rw [if_pos (by omega), if_pos (by omega)]; simp
  unfold atI; rw [e]; exact h
theorem atI_last {α : Type} (xs : List α) (v : α) : atI (xs ++ [v]) (-1) = some v := by
  have hl : (xs ++ [v]).length = xs.length + 1 := by simp
  have e : ixN (xs ++ [v]).length (-1) = some xs.length := by
    unfold ixN
    rw [hl, if_neg (by decide), if_pos (by omega)]
    congr 1
    omega
  unfold atI
  rw [e]
  show (xs ++ [v])[xs.length]? = some v
  simp

/-! ### what may be subscripted -/
/-- what stands as an index of a plain subscript -/
def PlainIx (b : Expr) : Prop := ∀ o i, subscripted b false o i = operate [o, i] (getItem o i)
/-- a subscript by values -/
def IxR (X : Cx) (r : R2) : Prop :=
  ∀ (value slice : Expr) (pins : List (Addr × Obj)) (s : Shared) (σ : St) (H : Hp) (x y : V) (v u : Value) (Q : VK), Inv X pins σ H s → RelV x v → RelV y u → r x y H Q →
    subscripted slice false v u = operate [v, u] (getItem v u) → wpAny (model X.prog X.w) X.A (subscriptTail value slice v u) (EP X pins σ Q) X.xe s
/-- a call of a builtin's method by values: the receiver, the arguments -/
def MtR (X : Cx) (id : String) (r : V → List V → Hp → VK → Prop) : Prop :=
  ∀ (pins : List (Addr × Obj)) (s : Shared) (σ : St) (H : Hp) (x : V) (xs : List V) (v : Value) (us : List Value) (Q : VK), Inv X pins σ H s → RelV x v → Vals xs us → r x xs H Q →
    wpAny (model X.prog X.w) X.A (call (.builtin id) (v :: us)) (EP X pins σ Q) X.xe s
section
variable {X : Cx} {a b : Expr} {ta tb : TE} {pos : Pos}
theorem IxR.or {r r' : R2} (h : IxR X r) (h' : IxR X r') : IxR X (fun x y H Q => r x y H Q ∨ r' x y H Q) := by
  intro value slice pins s σ H x y v u Q I rx ry q hs
  rcases q with q | q
  · exact h value slice pins s σ H x y v u Q I rx ry q hs
  · exact h' value slice pins s σ H x y v u Q I rx ry q hs
theorem MtR.or {id : String} {r r' : V → List V → Hp → VK → Prop} (h : MtR X id r) (h' : MtR X id r') : MtR X id (fun x xs H Q => r x xs H Q ∨ r' x xs H Q) := by
  intro pins s σ H x xs v us Q I rx rs q
  rcases q with q | q
  · exact h pins s σ H x xs v us Q I rx rs q
  · exact h' pins s σ H x xs v us Q I rx rs q
/-- a[b] -/
theorem pe_ix {r : R2} (hr : IxR X r) (ha : PE X a ta) (hb : PE X b tb) (hs : PlainIx b) : PE X (.Subscript a b pos) (tOp r ta tb) := by
  intro pins s σ H Q I h
  exact Subscript_ (binT ha hb I h fun v u s2 x y H2 I2 rx ry q => hr a b pins s2 σ H2 x y v u Q I2 rx ry q (hs _ _))

def rIxL (K : PySem.W.Frag) : R2 := fun x y H Q => ∃ p xs i v, x = .ref p ∧ y = .int i ∧ SqL K H p xs ∧ atI xs i = some v ∧ Q v H
def rIxT (K : PySem.W.Frag) : R2 := fun x y H Q => ∃ p xs i v, x = .ref p ∧ y = .int i ∧ SqT K H p xs ∧ atI xs i = some v ∧ Q v H
def rIxS : R2 := fun x y H Q => ∃ z i c, x = .str z ∧ y = .int i ∧ z.length ≤ sizeLine ∧ atI z.cps.toList i = some c ∧ Q (.str ⟨#[c]⟩) H
theorem ix_list : IxR X (rIxL X.K) := by
  intro value slice pins s σ H x y v u Q I rx ry h hs
  obtain ⟨p, xs, i, z, rfl, rfl, hq, he, q⟩ := h
  cases rx
  obtain ⟨t, rfl⟩ := ry
  obtain ⟨its, r, pl, hz⟩ := I.list hq
  obtain ⟨j, h1, h2, h3, h4, h5⟩ := atI_get he
  obtain ⟨w, ew, rw'⟩ := r.get h2
  have hl := r.length
  have hn := line63
  have fin : EP X pins σ Q w s := ⟨z, H, I, rw', q⟩
  by_cases h0 : 0 ≤ i
  · have hj : i.toNat = j := by
      rw [seqIndex_of h0 h5] at h1
      exact Option.some.inj h1
    exact item_listR pl.isList h0 (by omega) (by rw [hj]; simpa using ew) fin hs
  · have hj : (i + (its.toArray.size : Int)).toNat = j := by
      rw [seqIndex_neg (by omega) h4] at h1
      rw [List.size_toArray, ← hl]
      exact Option.some.inj h1
    exact subscriptTail_builtinR (x := w) pl.isList.typeIs slot_list_getitem.lookup
      (wpAny_getItem_list_neg (Q := fun r s' => r = w ∧ EP X pins σ Q r s') pl.isList (by omega) (by rw [List.size_toArray] <;> omega) (by omega) (by rw [hj]; simpa using ew) ⟨rfl, fin⟩) hs
theorem ix_tup : IxR X (rIxT X.K) := by
  intro value slice pins s σ H x y v u Q I rx ry h hs
  obtain ⟨p, xs, i, z, rfl, rfl, hq, he, q⟩ := h
  cases rx
  obtain ⟨t, rfl⟩ := ry
  obtain ⟨its, r, pl, hz⟩ := I.tuple hq
  obtain ⟨j, h1, h2, h3, h4, h5⟩ := atI_get he
  obtain ⟨w, ew, rw'⟩ := r.get h2
  have hl := r.length
  have hn := line63
  have fin : EP X pins σ Q w s := ⟨z, H, I, rw', q⟩
  exact subscriptTail_builtinR (x := w) pl.typeIs slot_tuple_getitem.lookup
    (getItem_tuple (j := j) (Q := fun r s' => r = w ∧ EP X pins σ Q r s') pl (by omega) (by omega) (by rw [List.size_toArray, ← hl]; exact h1) (by simpa using ew) ⟨rfl, fin⟩) hs
theorem ix_str : IxR X rIxS := by
  intro value slice pins s σ H x y v u Q I rx ry h hs
  obtain ⟨z, i, c, rfl, rfl, hz, he, q⟩ := h
  obtain ⟨t, rfl⟩ := rx
  obtain ⟨t', rfl⟩ := ry
  obtain ⟨j, h1, h2, h3, h4, h5⟩ := atI_get he
  have hl : z.cps.toList.length = z.length := by simp [Str.length]
  rw [hl] at h1 h4 h5
  have hn := line63
  exact tail_any (typeIs_str s z t) slot_str_getitem.lookup (getItem_str (c := c) (by
    have e1 : decide (i < -(2 ^ 63 : Int)) = false := decide_eq_false (by omega)
    have e2 : decide (i ≥ 2 ^ 63) = false := decide_eq_false (by omega)
    rw [e1, e2, Bool.or_false]) (by rw [h1]; simpa using h2) ⟨.str ⟨#[c]⟩, H, I.tok _, ⟨_, rfl⟩, q⟩) hs
/-- list, tuple or str -/
def rIx (K : PySem.W.Frag) : R2 := fun x y H Q => rIxL K x y H Q ∨ rIxT K x y H Q ∨ rIxS x y H Q
theorem ix_seq : IxR X (rIx X.K) := ix_list.or (ix_tup.or ix_str)

/-! ### xs[i] = v, any sign -/
/-- the list's object behind a store -/
theorem mapSeq_set (its : List Value) (n j : Nat) (u : Value) : Obj.mapSeq (·.setIfInBounds j u) { cls := .type "list", data := .seq its.toArray n } = { cls := .type "list", data := .seq (its.set j u).toArray n } := by
  simp [Obj.mapSeq]
theorem Inv.lst {pins : List (Addr × Obj)} {σ : St} {H : Hp} {s : Shared} {p : Addr} {xs : List V} (I : Inv X pins σ H s) (h : H p = some (.lst xs)) :
    ∃ (its : List Value) (n : Nat), Vals xs its ∧ s.heap.get? p = some { cls := .type "list", data := .seq its.toArray n } ∧ xs.length ≤ sizeLine := by
  obtain ⟨z, its, n, r, e⟩ := I.hok p _ h
  exact ⟨its, n, r, e, z⟩
/-- the list at p is written by an update of its object -/
theorem Inv.lstUpd {pins : List (Addr × Obj)} {σ : St} {H : Hp} {s : Shared} {p : Addr} {xs ys : List V} {its its' : List Value} {n n' : Nat} {f : Obj → Obj} (I : Inv X pins σ H s) (h : H p = some (.lst xs))
    (ho : s.heap.get? p = some { cls := .type "list", data := .seq its.toArray n }) (hf : f { cls := .type "list", data := .seq its.toArray n } = { cls := .type "list", data := .seq its'.toArray n' }) (r : Vals ys its') (hz : ys.length ≤ sizeLine) (t : Nat) :
    Inv X pins σ (upd H p (.lst ys)) { s with heap := s.heap.update p f, toks := t } := by
  have e : (s.heap.update p f).get? p = some { cls := .type "list", data := .seq its'.toArray n' } := by
    rw [Heap.get?_update_self f ho (by rw [hf] <;> rfl), hf]
  refine I.write (x := p) (e := p) (by rw [h]; trivial) (.inl rfl) (fun b u hb q => (Heap.get?_update_other _ _ (Ne.symm hb)).trans q) ⟨_, e⟩ ?_
  exact ⟨hz, its', n', r, e⟩
def rSetL : V → V → V → Hp → (Hp → Prop) → Prop := fun o i v H Q => ∃ p xs k j, o = .ref p ∧ i = .int k ∧ H p = some (.lst xs) ∧ ixN xs.length k = some j ∧ Q (upd H p (.lst (xs.set j v)))
theorem set_list : PSet X rSetL := by
  intro pins s σ H o i v ov iv u Q I ro ri rv h
  obtain ⟨p, xs, k, j, rfl, rfl, hp, hj, q⟩ := h
  cases ro
  obtain ⟨t, rfl⟩ := ri
  obtain ⟨its, n, r, ho, hz⟩ := I.lst hp
  obtain ⟨h1, h2, h3, h4⟩ := ixN_seq hj
  have hl := r.length
  have hn := line63
  have I' : Inv X pins σ (upd H p (.lst (xs.set j v))) { s with heap := s.heap.update p (Obj.mapSeq (·.setIfInBounds j u)) } :=
    I.lstUpd hp ho (mapSeq_set its n j u) (r.set rv j) (by rw [List.length_set]; exact hz) s.toks
  by_cases h0 : 0 ≤ k
  · have hk : k.toNat = j := by
      rw [seqIndex_of h0 h4] at h1
      exact Option.some.inj h1
    exact PySem.W.ki_setAt ho h0 (by omega) (by rw [List.size_toArray, ← hl]; exact h4) (by rw [hk]; exact ⟨_, I', q⟩)
  · have hk : (k + (its.toArray.size : Int)).toNat = j := by
      rw [seqIndex_neg (by omega) h3] at h1
      rw [List.size_toArray, ← hl]
      exact Option.some.inj h1
    exact PySem.W.ki_setBack ho (by omega) (by rw [List.size_toArray, ← hl]; exact h3) (by omega) (by rw [hk]; exact ⟨_, I', q⟩)

/-! ### slices -/
theorem slice_bounds (lo hi : Option Int) (n : Nat) : (sliceBounds lo hi none n).1 = ((HT.sIx n 0 lo : Nat) : Int) ∧ (sliceBounds lo hi none n).2.1 = ((HT.sIx n n hi : Nat) : Int) ∧ (sliceBounds lo hi none n).2.2 = 1 := by
  refine ⟨?_, ?_, rfl⟩
  · cases lo with
    | none => simp [sliceBounds, HT.sIx]
    | some i =>
      simp only [sliceBounds, HT.sIx, Option.getD_none, show (1 : Int) > 0 by decide, if_true]
      by_cases h : i < 0
      · simp only [h, if_true] <;> omega
      · simp only [h, if_false] <;> omega
  · cases hi with
    | none => simp [sliceBounds, HT.sIx]
    | some i =>
      simp only [sliceBounds, HT.sIx, Option.getD_none, show (1 : Int) > 0 by decide, if_true]
      by_cases h : i < 0
      · simp only [h, if_true] <;> omega
      · simp only [h, if_false] <;> omega
theorem slicePick_cut (its : List Value) (lo hi : Option Int) : slicePick its.toArray lo hi none = ((its.drop (HT.sIx its.length 0 lo)).take (HT.sIx its.length its.length hi - HT.sIx its.length 0 lo)).toArray := by
  obtain ⟨h1, h2, h3⟩ := slice_bounds lo hi its.toArray.size
  unfold slicePick
  rw [h1, h2, h3]
  simp only [sliceRange_one, pick_run, List.size_toArray] <;> rfl
/-- xs[lo:hi] of a list: a new list -/
def rSlL (K : PySem.W.Frag) : V → Option Int → Option Int → Hp → VK → Prop := fun x lo hi H Q => ∃ a xs, x = .ref a ∧ SqL K H a xs ∧ ∀ p, H p = none → Q (.ref p) (upd H p (.lst (cutV xs lo hi)))
theorem sl_list : SlR X (rSlL X.K) := by
  intro pins s σ H x v vl vu lo hi sl Q I rx hs pl pu h
  obtain ⟨a, xs, rfl, hx, q⟩ := h
  cases rx
  obtain ⟨its, r, ht, hz⟩ := I.list hx
  have hlen := r.length
  refine ⟨"list", _, slot_list_getitem.lookup, ht.isList.typeIs, ?_⟩
  refine wpAny_getItem_list_slice ht.isList hs pl pu .none (by simp) ?_ (by rw [List.size_toArray] <;> omega)
  rw [slicePick_cut, ← hlen]
  refine ⟨.ref s.heap.objs.size, _, I.laid (t' := s.toks) (o := .lst (cutV xs lo hi)) (fun b ob q => Heap.get?_push_of_some _ q) (Nat.le_refl _) ?_, rfl, q _ (I.hok.fresh (Nat.le_refl _))⟩
  exact ⟨Nat.le_trans (cutV_length xs lo hi) hz, _, 0, (r.drop (HT.sIx xs.length 0 lo)).take (HT.sIx xs.length xs.length hi - HT.sIx xs.length 0 lo), Heap.get?_push_size _ rfl⟩

/-! ### in, not in: flat items -/
def flatV : V → Bool
  | .non => true
  | .bl _ => true
  | .int _ => true
  | .str _ => true
  | _ => false
/-- == of flat values -/
def eqV : V → V → Bool
  | .non, .non => true
  | .bl a, .bl b => a == b
  | .bl a, .int b => (if a then 1 else 0) == b
  | .int a, .bl b => a == (if b then 1 else 0)
  | .int a, .int b => a == b
  | .str a, .str b => a == b
  | _, _ => false
theorem eqAt_V {A : Around} {s : Shared} {y x : V} {u v : Value} (ry : RelV y u) (rx : RelV x v) (fy : flatV y = true) (fx : flatV x = true) : SeqAt.EqAt A s u v (eqV y x) := by
  cases y with
  | non =>
    cases ry
    cases x with
    | non => cases rx; exact SeqAt.EqAt.same _
    | bl b => cases rx; exact SeqAt.EqAt.none_bool b
    | int b => obtain ⟨t, rfl⟩ := rx; exact SeqAt.EqAt.none_int b t
    | str b => obtain ⟨t, rfl⟩ := rx; exact SeqAt.EqAt.none_str b t
    | _ => exact absurd (show false = true from fx) Bool.false_ne_true
  | bl a =>
    cases ry
    cases x with
    | non => cases rx; exact SeqAt.EqAt.bool_none a
    | bl b => cases rx; exact SeqAt.EqAt.bool_bool a b
    | int b => obtain ⟨t, rfl⟩ := rx; exact SeqAt.EqAt.bool_int a b t
    | str b => obtain ⟨t, rfl⟩ := rx; exact SeqAt.EqAt.bool_str a b t
    | _ => exact absurd (show false = true from fx) Bool.false_ne_true
  | int a =>
    obtain ⟨t', rfl⟩ := ry
    cases x with
    | non => cases rx; exact SeqAt.EqAt.int_none a t'
    | bl b => cases rx; exact SeqAt.EqAt.int_bool a t' b
    | int b => obtain ⟨t, rfl⟩ := rx; exact SeqAt.EqAt.int_int a t' b t
    | str b => obtain ⟨t, rfl⟩ := rx; exact SeqAt.EqAt.int_str a t' b t
    | _ => exact absurd (show false = true from fx) Bool.false_ne_true
  | str a =>
    obtain ⟨t', rfl⟩ := ry
    cases x with
    | non => cases rx; exact SeqAt.EqAt.str_none a t'
    | bl b => cases rx; exact SeqAt.EqAt.str_bool a t' b
    | int b => obtain ⟨t, rfl⟩ := rx; exact SeqAt.EqAt.str_int a t' b t
    | str b => obtain ⟨t, rfl⟩ := rx; exact SeqAt.EqAt.str_str a t' b t
    | _ => exact absurd (show false = true from fx) Bool.false_ne_true
  | _ => exact absurd (show false = true from fy) Bool.false_ne_true
/-- the items' answers, read off the values (a value's own answer does not lean on its token) -/
def eqU (x : V) (u : Value) : Bool := match u with
  | .none => eqV .non x
  | .bool b => eqV (.bl b) x
  | .int i _ => eqV (.int i) x
  | .str z _ => eqV (.str z) x
  | _ => false
theorem eqU_of {x y : V} {u : Value} (r : RelV y u) (f : flatV y = true) : eqU x u = eqV y x := by
  cases y with
  | non => cases r; rfl
  | bl b => cases r; rfl
  | int i => obtain ⟨t, rfl⟩ := r; rfl
  | str z => obtain ⟨t, rfl⟩ := r; rfl
  | _ => exact absurd (show false = true from f) Bool.false_ne_true
theorem any_eqU {x : V} : ∀ {xs : List V} {us : List Value}, Vals xs us → xs.all flatV = true → us.any (eqU x) = xs.any fun y => eqV y x
  | _, _, .nil, _ => rfl
  | y :: xs, u :: us, .cons r t, f => by
    rw [List.all_cons, Bool.and_eq_true] at f
    rw [List.any_cons, List.any_cons, eqU_of r f.1, any_eqU t f.2]
theorem mem_eqAt {A : Around} {s : Shared} {x : V} {v : Value} (rx : RelV x v) (fx : flatV x = true) : ∀ {xs : List V} {us : List Value}, Vals xs us → xs.all flatV = true → ∀ u ∈ us, SeqAt.EqAt A s u v (eqU x u)
  | _, _, .nil, _ => fun u hu => by cases hu
  | y :: xs, u :: us, .cons r t, f => fun u' hu => by
    rw [List.all_cons, Bool.and_eq_true] at f
    rcases List.mem_cons.mp hu with rfl | hu
    · rw [eqU_of r f.1]; exact eqAt_V r rx f.1 fx
    · exact mem_eqAt rx fx t f.2 u' hu
def inV (x : V) (xs : List V) : Bool := xs.any fun y => eqV y x
/-- x in a list or tuple of flat items -/
def rIn (K : PySem.W.Frag) (neg : Bool) : R2 := fun x y H Q => ∃ p xs, y = .ref p ∧ (SqL K H p xs ∨ SqT K H p xs) ∧ flatV x = true ∧ xs.all flatV = true ∧ Q (.bl (if neg then !inV x xs else inV x xs)) H
theorem op_in_seq : OpR X (compareOp .In) (rIn X.K false) := by
  intro pins s σ H x y v u Q I rx ry h
  obtain ⟨p, xs, rfl, hq, fx, fs, q⟩ := h
  cases ry
  rcases hq with hq | hq
  · obtain ⟨its, r, pl, hz⟩ := I.list hq
    refine SeqAt.in_listAt (eqU x) pl.isList (fun w hw => mem_eqAt rx fx r fs w (by simpa using hw)) ⟨.bl _, H, I, rfl, ?_⟩
    rw [show its.toArray.any (eqU x) = its.any (eqU x) by simp, any_eqU r fs]
    exact q
  · obtain ⟨its, r, pl, hz⟩ := I.tuple hq
    refine SeqAt.in_tupleAt (eqU x) pl (fun w hw => mem_eqAt rx fx r fs w (by simpa using hw)) ⟨.bl _, H, I, rfl, ?_⟩
    rw [show its.toArray.any (eqU x) = its.any (eqU x) by simp, any_eqU r fs]
    exact q
theorem op_notIn_seq : OpR X (compareOp .NotIn) (rIn X.K true) := by
  intro pins s σ H x y v u Q I rx ry h
  obtain ⟨p, xs, rfl, hq, fx, fs, q⟩ := h
  cases ry
  rcases hq with hq | hq
  · obtain ⟨its, r, pl, hz⟩ := I.list hq
    refine SeqAt.notIn_listAt (eqU x) pl.isList (fun w hw => mem_eqAt rx fx r fs w (by simpa using hw)) ⟨.bl _, H, I, rfl, ?_⟩
    rw [show its.toArray.any (eqU x) = its.any (eqU x) by simp, any_eqU r fs]
    exact q
  · obtain ⟨its, r, pl, hz⟩ := I.tuple hq
    refine SeqAt.notIn_tupleAt (eqU x) pl (fun w hw => mem_eqAt rx fx r fs w (by simpa using hw)) ⟨.bl _, H, I, rfl, ?_⟩
    rw [show its.toArray.any (eqU x) = its.any (eqU x) by simp, any_eqU r fs]
    exact q
theorem op_notIn_str : OpR X (compareOp .NotIn) (fun x y H Q => ∃ i j, x = .str i ∧ y = .str j ∧ Q (.bl (!(!(Builtin.Str.occurrences j i 0 j.length 1).isEmpty))) H) := by
  intro pins s σ H x y v u Q I rx ry h
  obtain ⟨i, j, rfl, rfl, q⟩ := h
  obtain ⟨t, rfl⟩ := rx
  obtain ⟨t', rfl⟩ := ry
  exact notIn_str ⟨.bl _, H, I, rfl, q⟩

/-! ### len, list(x), tuple(x) of any list or tuple that is read -/
theorem call_len_seq : CallR X (.builtin "len") (fun xs H Q => ∃ p ys, xs = [.ref p] ∧ (SqL X.K H p ys ∨ SqT X.K H p ys) ∧ Q (.int ys.length) H) := by
  intro pins s σ H xs us Q I r h
  obtain ⟨p, ys, rfl, hq, q⟩ := h
  obtain ⟨u, rfl, rx⟩ := vals1 r
  cases rx
  have hn := line63
  rcases hq with hq | hq
  · obtain ⟨its, r', pl, hz⟩ := I.list hq
    have hlen := r'.length
    exact Calls.call_len_list pl.isList (by simp only [List.size_toArray] <;> omega) ⟨.int ys.length, H, I.tok _, ⟨s.toks + 1, by rw [List.size_toArray, hlen]⟩, q⟩
  · obtain ⟨its, r', pl, hz⟩ := I.tuple hq
    have hlen := r'.length
    exact len_tuple pl (by simp only [List.size_toArray] <;> omega) ⟨.int ys.length, H, I.tok _, ⟨s.toks + 1, by rw [List.size_toArray, hlen]⟩, q⟩
theorem call_len_str : CallR X (.builtin "len") (fun xs H Q => ∃ z, xs = [.str z] ∧ z.length ≤ sizeLine ∧ Q (.int z.length) H) := by
  intro pins s σ H xs us Q I r h
  obtain ⟨z, rfl, hz, q⟩ := h
  obtain ⟨u, rfl, t, rfl⟩ := vals1 r
  have hn := line63
  exact len_str (by omega) ⟨.int z.length, H, I.tok _, ⟨_, rfl⟩, q⟩
theorem CallR.or {f : Value} {r r' : List V → Hp → VK → Prop} (h : CallR X f r) (h' : CallR X f r') : CallR X f (fun xs H Q => r xs H Q ∨ r' xs H Q) := by
  intro pins s σ H xs us Q I rs q
  rcases q with q | q
  · exact h pins s σ H xs us Q I rs q
  · exact h' pins s σ H xs us Q I rs q
theorem call_list_of : CallR X (.type "list") (fun xs H Q => ∃ p ys, xs = [.ref p] ∧ (SqL X.K H p ys ∨ SqT X.K H p ys) ∧ ∀ l, H l = none → Q (.ref l) (upd H l (.lst ys))) := by
  intro pins s σ H xs us Q I r h
  obtain ⟨p, ys, rfl, hq, q⟩ := h
  obtain ⟨u, rfl, rx⟩ := vals1 r
  cases rx
  have fin : ∀ (its : List Value), Vals ys its → ys.length ≤ sizeLine → ∀ (h' : Heap) (c' : Nat), (∀ b o', s.heap.get? b = some o' → h'.get? b = some o') →
      h'.get? s.heap.objs.size = some { cls := .type "list", dict := none, data := .seq its.toArray c', slots := #[] } → EP X pins σ Q (.ref s.heap.objs.size) { s with heap := h' } := fun its r' hz h' c' kp e =>
    ⟨.ref s.heap.objs.size, _, I.laid (t' := s.toks) kp (Nat.le_refl _) (show ObjOk X.prog X.w _ h' _ (.lst ys) from ⟨hz, its, c', r', e⟩), rfl, q _ (I.hok.fresh (Nat.le_refl _))⟩
  rcases hq with hq | hq
  · obtain ⟨its, r', pl, hz⟩ := I.list hq
    have hlen := r'.length
    obtain ⟨o, ho, hc, n, hd⟩ := pl.isList
    exact call_list_seq p (.inl rfl) ho hc hd (fun h' c' kp e => fin its r' hz h' c' kp e) (by simp only [List.size_toArray] <;> omega)
  · obtain ⟨its, r', pl, hz⟩ := I.tuple hq
    have hlen := r'.length
    obtain ⟨o, ho, hc, n, hd⟩ := pl
    exact call_list_seq p (.inr rfl) ho hc hd (fun h' c' kp e => fin its r' hz h' c' kp e) (by simp only [List.size_toArray] <;> omega)
theorem call_tuple_of : CallR X (.type "tuple") (fun xs H Q => ∃ p ys, xs = [.ref p] ∧ ((SqL X.K H p ys ∧ ∀ l, H l = none → Q (.ref l) (upd H l (.tup ys))) ∨ (SqT X.K H p ys ∧ Q (.ref p) H))) := by
  intro pins s σ H xs us Q I r h
  obtain ⟨p, ys, rfl, h⟩ := h
  obtain ⟨u, rfl, rx⟩ := vals1 r
  cases rx
  rcases h with ⟨hq, q⟩ | ⟨hq, q⟩
  · obtain ⟨its, r', pl, hz⟩ := I.list hq
    have hlen := r'.length
    refine call_tuple_list pl.isList (fun h' kp => ?_) (by simp only [List.size_toArray] <;> omega)
    have I1 : Inv X pins σ H { s with heap := h' } := I.kept (t' := s.toks) kp
    have I2 : Inv X pins σ (upd H h'.objs.size (.tup ys)) { s with heap := h'.push { cls := .type "tuple", data := .seq its.toArray } } :=
      I1.laid (t' := s.toks) (fun b o e => Heap.get?_push_of_some _ e) (Nat.le_refl _) (show ObjOk X.prog X.w _ _ _ (.tup ys) from ⟨hz, its, r', IsTup.new _ _⟩)
    exact ⟨.ref h'.objs.size, _, I2, rfl, q _ (I1.hok.fresh (Nat.le_refl _))⟩
  · obtain ⟨its, r', pl, hz⟩ := I.tuple hq
    exact call_tuple_same pl ⟨.ref p, H, I, rfl, q⟩

/-! ### the call of a builtin's method: o.m(..) -/
/-- the value is of that builtin type -/
def tyV (K : PySem.W.Frag) (T : String) (x : V) (H : Hp) : Prop := match x with
  | .str _ => T = "str"
  | .int _ => T = "int"
  | .ref p => (T = "list" ∧ ∃ xs, SqL K H p xs) ∨ (T = "tuple" ∧ ∃ o, K.lookup p = some o ∧ o.cls = .type "tuple" ∧ o.dict = none) ∨
      (T = "dict" ∧ ((∃ kvs, H p = some (.dK kvs)) ∨ ∃ kvs, H p = some (.dT kvs))) ∨ (T = "set" ∧ ∃ S n, H p = some (.set S n))
  | _ => False
theorem tyV_is {pins : List (Addr × Obj)} {σ : St} {H : Hp} {s : Shared} {T : String} {x : V} {v : Value} (I : Inv X pins σ H s) (r : RelV x v) (ty : tyV X.K T x H) :
    s.TypeIs v T ∧ ∀ a, v = .ref a → ∃ ob, s.heap.get? a = some ob ∧ ob.dict = none := by
  cases x with
  | str z =>
    obtain ⟨t, rfl⟩ := r
    cases (show T = "str" from ty)
    exact ⟨typeIs_str s z t, fun _ e => nomatch e⟩
  | int i =>
    obtain ⟨t, rfl⟩ := r
    cases (show T = "int" from ty)
    exact ⟨typeIs_int s i t, fun _ e => nomatch e⟩
  | ref p =>
    cases r
    rcases ty with ⟨rfl, xs, hq⟩ | ⟨rfl, o, hk, hc, hd⟩ | ⟨rfl, hk⟩ | ⟨rfl, S, n, hk⟩
    · obtain ⟨its, _, pl, _⟩ := I.list hq
      refine ⟨pl.isList.typeIs, fun a e => ?_⟩
      cases e
      obtain ⟨o, n, e, c, hd, _⟩ := pl
      exact ⟨o, e, hd⟩
    · refine ⟨⟨o, I.kIn p o hk, hc⟩, fun a e => ?_⟩
      cases e
      exact ⟨o, I.kIn _ o hk, hd⟩
    · have z : ∃ o, s.heap.get? p = some o ∧ o.ExactDict := by
        rcases hk with ⟨kvs, hk⟩ | ⟨kvs, hk⟩
        · obtain ⟨_, _, _, _, o, _, _, e, ex, _⟩ := I.hok p _ hk
          exact ⟨o, e, ex⟩
        · obtain ⟨_, _, _, _, o, _, _, e, ex, _⟩ := I.hok p _ hk
          exact ⟨o, e, ex⟩
      obtain ⟨o, e, ex⟩ := z
      refine ⟨⟨o, e, ex.1⟩, fun a e2 => ?_⟩
      cases e2
      exact ⟨o, e, ex.2.1⟩
    · obtain ⟨o, _, _, _, e, ex, _⟩ := I.hok p _ hk
      refine ⟨⟨o, e, ex.1⟩, fun a e2 => ?_⟩
      cases e2
      exact ⟨o, e, ex.2.1⟩
  | _ => exact False.elim ty
def tBM0 (K : PySem.W.Frag) (T : String) (r : V → List V → Hp → VK → Prop) (to : TE) : TE := fun σ H Q => to σ H fun x H1 => tyV K T x H1 ∧ r x [] H1 Q
def tBM (K : PySem.W.Frag) (T : String) (r : V → List V → Hp → VK → Prop) (to : TE) (t : TA) : TE := fun σ H Q => to σ H fun x H1 => tyV K T x H1 ∧ t σ H1 fun xs H2 => r x xs H2 Q
variable {o e : Expr} {es : List Expr} {to : TE} {t : TA} {name : Str} {apos cpos : Pos} {T id : String} {r : V → List V → Hp → VK → Prop}
theorem pe_bm0 (pa : PlainAttrs T) (slot : Slot T name id) (hty : typeOf (.builtin id) = pure (.type "method_descriptor")) (hm : MtR X id r) (ho : PE X o to)
    (hbase : attributeBase o name X.env (eval o X.env) = eval o X.env := by rfl) (hline : (apos.endLine == cpos.line) = true := by rfl) : PE X (.Call (.Attribute o name apos) [] [] cpos) (tBM0 X.K T r to) := by
  intro pins s σ H Q I h
  refine wpAny_Call_method0_late hbase hline (thn (ho pins s σ H _ I h) fun v s1 ⟨x, H1, I1, r1, ty, q1⟩ => ?_)
  obtain ⟨h1, h2⟩ := tyV_is I1 r1 ty
  exact ⟨T, id, pa, slot, hty, h1, h2, Calls.callWith_builtin rfl (PySem.evalArgs_none (hm pins s1 σ H1 x [] v [] Q I1 r1 .nil q1))⟩
theorem pe_bm (pa : PlainAttrs T) (slot : Slot T name id) (hty : typeOf (.builtin id) = pure (.type "method_descriptor")) (hm : MtR X id r) (ho : PE X o to) (ha : PA X (e :: es) t)
    (hbase : attributeBase o name X.env (eval o X.env) = eval o X.env := by rfl)
    (hfew : ((backTo cpos (starEach (e :: es) X.env)).all (fun x => !x.1) && (backToKw cpos (keywordEach [] X.env)).all (fun x => x.1.isSome)
      && decide ((e :: es).length + ([] : List Keyword).length + (if ([] : List Keyword).isEmpty then 0 else 1) < 30)) = true := by rfl)
    (hline : (apos.endLine == cpos.line) = true := by rfl) (hs : starEach (e :: es) X.env = (false, eval e X.env) :: starEach es X.env := by rfl) (hplain : (backTo cpos (starEach es X.env)).any (·.1) = false := by rfl) :
    PE X (.Call (.Attribute o name apos) (e :: es) [] cpos) (tBM X.K T r to t) := by
  intro pins s σ H Q I h
  refine wpAny_Call_method_late hbase hfew hline rfl (thn (ho pins s σ H _ I h) fun v s1 ⟨x, H1, I1, r1, ty, q1⟩ => ?_)
  obtain ⟨h1, h2⟩ := tyV_is I1 r1 ty
  refine ⟨T, id, pa, slot, hty, h1, h2, ?_⟩
  have hA := ha cpos pins s1 σ H1 _ I1 q1
  rw [hs] at hA ⊢
  refine Calls.callWith_builtin (by show (false || (backTo cpos (starEach es X.env)).any (·.1)) = false; rw [hplain] <;> rfl) (Calls.evalArgs_plain ?_)
  exact thn hA fun us s2 ⟨vs, H2, I2, r2, q2⟩ => hm pins s2 σ H2 x vs v us Q I2 r1 r2 q2
/- xs.append(e), list.index on a module's tuple .. are MtR facts of 06m -/
end
end L2

namespace L2
open PySem PySem.Spec PyProof.Rows

def MtM (X : Cx) (id : String) (r : V → List V → Hp → VK → Prop) : Prop :=
  ∀ (pins : List (Addr × Obj)) (s : Shared) (σ : St) (H : Hp) (x : V) (xs : List V) (v : Value) (us : List Value) (Q : VK), Inv X pins σ H s → RelV x v → Vals xs us → r x xs H Q →
    wpAny (model X.prog X.w) X.A (call (.builtin id) (v :: us)) (EP X pins σ Q) X.xe s

/-! ### lists of values -/
theorem Vals.one : ∀ {x : V} {us : List Value}, Vals [x] us → ∃ u, us = [u] ∧ RelV x u
  | _, _, .cons r .nil => ⟨_, rfl, r⟩
theorem Vals.two : ∀ {x y : V} {us : List Value}, Vals [x, y] us → ∃ u v, us = [u, v] ∧ RelV x u ∧ RelV y v
  | _, _, _, .cons r (.cons q .nil) => ⟨_, _, rfl, r, q⟩
theorem Vals.zero : ∀ {us : List Value}, Vals [] us → us = []
  | _, .nil => rfl
theorem Vals.dropLast {xs : List V} {us : List Value} (h : Vals xs us) : Vals xs.dropLast us.dropLast := by
  induction h with
  | nil => exact .nil
  | cons r t ih =>
    cases t with
    | nil => exact .nil
    | cons q t' => exact .cons r ih
theorem Vals.eraseIdx : ∀ {xs : List V} {us : List Value} (i : Nat), Vals xs us → Vals (xs.eraseIdx i) (us.eraseIdx i)
  | _, _, _, .nil => .nil
  | _, _, 0, .cons _ t => t
  | _, _, i + 1, .cons r t => .cons r (Vals.eraseIdx i t)
theorem Vals.reverse {xs : List V} {us : List Value} (h : Vals xs us) : Vals xs.reverse us.reverse := by
  induction h with
  | nil => exact .nil
  | cons r t ih => rw [List.reverse_cons, List.reverse_cons]; exact Vals.append ih (.cons r .nil)
theorem Vals.rep {xs : List V} {us : List Value} (h : Vals xs us) : ∀ k : Nat, Vals (List.replicate k xs).flatten (List.replicate k us).flatten
  | 0 => .nil
  | k + 1 => by
    rw [List.replicate_succ, List.replicate_succ, List.flatten_cons, List.flatten_cons]
    exact Vals.append h (Vals.rep h k)
theorem erase_last {α : Type} (l : List α) : l.eraseIdx (l.length - 1) = l.dropLast := by
  induction l with
  | nil => rfl
  | cons a r ih =>
    cases r with
    | nil => rfl
    | cons b r =>
      have e : (a :: b :: r).length - 1 = ((b :: r).length - 1) + 1 := by
        have h1 : (a :: b :: r).length = r.length + 2 := rfl
        have h2 : (b :: r).length = r.length + 1 := rfl
        omega
      rw [e, List.eraseIdx_cons_succ, ih]
      all_goals rfl
theorem len_erase {α : Type} : ∀ (l : List α) (i : Nat), (l.eraseIdx i).length ≤ l.length
  | [], _ => Nat.le_refl _
  | _ :: _, 0 => Nat.le_succ _
  | _ :: r, i + 1 => Nat.succ_le_succ (len_erase r i)
theorem foldl_rep (its : List Value) : ∀ (k : Nat) (acc : List Value),
    List.foldl (fun x1 x2 => x1 ++ x2) acc.toArray (List.replicate k its.toArray) = (acc ++ (List.replicate k its).flatten).toArray
  | 0, acc => by simp
  | k + 1, acc => by
    have e : acc.toArray ++ its.toArray = (acc ++ its).toArray := by simp
    have e2 : (acc ++ its) ++ (List.replicate k its).flatten = acc ++ (List.replicate (k + 1) its).flatten := by
      rw [List.replicate_succ, List.flatten_cons, List.append_assoc]
    rw [← e2, ← foldl_rep its k (acc ++ its), ← e, List.replicate_succ, List.foldl_cons]

section
variable {X : Cx} {pins : List (Addr × Obj)} {σ : St} {H : Hp} {s : Shared} {l b : Addr} {xs ys zs : List V}

/-! ### the two steps: a tracked list is rewritten, a new list is laid -/
theorem Inv.lset {its its' : List Value} {n : Nat} {f : Array Value → Array Value} {t' : Nat} (I : Inv X pins σ H s) (hH : H l = some (.lst xs))
    (e : s.heap.get? l = some { cls := .type "list", data := .seq its.toArray n }) (hf : f its.toArray = its'.toArray) (hv : Vals ys its') (hz : ys.length ≤ sizeLine) :
    Inv X pins σ (upd H l (.lst ys)) { s with heap := s.heap.update l (Obj.mapSeq f), toks := t' } := by
  have q := PySem.IsL.update e f
  rw [hf] at q
  refine I.write (x := l) (e := l) (by rw [hH]; exact trivial) (.inl rfl) (fun b' u hb hu => (Heap.get?_update_other s.heap (Obj.mapSeq f) (Ne.symm hb)).trans hu) ⟨_, q⟩ ?_
  exact ⟨hz, its', _, hv, q⟩
theorem Inv.lnew {its : List Value} {t' : Nat} (I : Inv X pins σ H s) (hv : Vals ys its) (hz : ys.length ≤ sizeLine) :
    Inv X pins σ (upd H s.heap.objs.size (.lst ys)) { s with heap := s.heap.push { cls := .type "list", data := .seq its.toArray }, toks := t' } :=
  I.laid (fun _ _ q => Heap.get?_push_of_some _ q) (Nat.le_refl _) ⟨hz, its, 0, hv, Heap.get?_push_size _ rfl⟩
theorem Inv.fresh (I : Inv X pins σ H s) : H s.heap.objs.size = none := I.hok.fresh (Nat.le_refl _)
theorem Inv.lstM (I : Inv X pins σ H s) (hH : H l = some (.lst xs)) : xs.length ≤ sizeLine ∧ ∃ (its : List Value) (n : Nat), Vals xs its ∧ xs.length = its.length ∧ s.heap.get? l = some { cls := .type "list", data := .seq its.toArray n } := by
  obtain ⟨z, its, n, r, e⟩ := I.hok l _ hH
  exact ⟨z, its, n, r, r.length, e⟩

theorem notLongL {n : Nat} (h : n ≤ sizeLine) : Builtin.List.listTooLong n = false := by
  unfold Builtin.List.listTooLong
  exact decide_eq_false (by omega)
end

section
variable {X : Cx}

/-! ### methods -/
def rAppend : V → List V → Hp → VK → Prop := fun x vs H Q => ∃ l xs y, x = .ref l ∧ vs = [y] ∧ H l = some (.lst xs) ∧ xs.length < sizeLine ∧ Q .non (upd H l (.lst (xs ++ [y])))
theorem mt_append : MtM X "list.append" rAppend := by
  intro pins s σ H x vs v us Q I rx rv h
  obtain ⟨l, xs, y, rfl, rfl, hH, hz, q⟩ := h
  cases rx
  obtain ⟨u, rfl, ru⟩ := rv.one
  obtain ⟨z, its, n, r, hl, e⟩ := I.lstM hH
  refine call_meets F.slot_list_append ⟨_, e, rfl⟩ F.entry_list_append (F.args_list_append_2 _ _) (PySem.list_append l its.toArray n u (by rw [List.size_toArray]; omega)) ⟨e, ?_⟩
  refine ⟨.non, _, I.lset (its' := its ++ [u]) hH e (by simp) (r.append (.cons ru .nil)) ?_, rfl, q⟩
  rw [List.length_append, List.length_singleton]
  omega

def rExtend : V → List V → Hp → VK → Prop := fun x vs H Q => ∃ l b xs zs, x = .ref l ∧ vs = [.ref b] ∧ H l = some (.lst xs) ∧ H b = some (.lst zs) ∧ xs.length + zs.length ≤ sizeLine ∧ Q .non (upd H l (.lst (xs ++ zs)))
theorem mt_extend : MtM X "list.extend" rExtend := by
  intro pins s σ H x vs v us Q I rx rv h
  obtain ⟨l, b, xs, zs, rfl, rfl, hH, hB, hz, q⟩ := h
  cases rx
  obtain ⟨u, rfl, ru⟩ := rv.one
  cases ru
  obtain ⟨z, its, n, r, hl, e⟩ := I.lstM hH
  obtain ⟨z2, its2, n2, r2, hl2, e2⟩ := I.lstM hB
  have hsz : its.toArray.size + its2.toArray.size ≤ sizeLine := by rw [List.size_toArray, List.size_toArray]; omega
  have hlong : ¬ (!its.toArray.isEmpty && Builtin.List.listTooLong (its.toArray.size + its2.toArray.size)) = true := by
    rw [notLongL hsz, Bool.and_false]
    exact Bool.false_ne_true
  refine call_meets F.slot_list_extend ⟨_, e, rfl⟩ F.entry_list_extend (F.args_list_extend_2 _ _)
    (AutoSeq1.list_extend_list_list_0 l its.toArray n b its2.toArray n2 hlong (by rw [List.size_toArray]; omega) (by omega)) ⟨e, e2, ?_⟩
  refine ⟨.non, _, I.lset (its' := its ++ its2) hH e (by simp) (r.append r2) ?_, rfl, q⟩
  rw [List.length_append]
  omega

def rPop : V → List V → Hp → VK → Prop := fun x vs H Q => ∃ l xs y, x = .ref l ∧ vs = [] ∧ H l = some (.lst xs) ∧ xs[xs.length - 1]? = some y ∧ Q y (upd H l (.lst xs.dropLast))
theorem mt_pop : MtM X "list.pop" rPop := by
  intro pins s σ H x vs v us Q I rx rv h
  obtain ⟨l, xs, y, rfl, rfl, hH, hy, q⟩ := h
  cases rx
  have hus := rv.zero
  subst hus
  obtain ⟨z, its, n, r, hl, e⟩ := I.lstM hH
  obtain ⟨u, hu, ru⟩ := r.get hy
  have hy' : its.toArray[its.toArray.size - 1]? = some u := by
    show its.toArray[its.length - 1]? = some u
    rw [← Array.getElem?_toList, ← hl]
    exact hu
  refine call_meets F.slot_list_pop ⟨_, e, rfl⟩ F.entry_list_pop (F.args_list_pop_1 _) (MeetsSeq.list_pop_last l its.toArray n u hy' (by rw [List.size_toArray]; omega)) ⟨e, ?_⟩
  refine ⟨y, _, I.lset (its' := its.dropLast) hH e ?_ r.dropLast ?_, ru, q⟩
  · show its.toArray.eraseIdxIfInBounds (its.toArray.size - 1) = its.dropLast.toArray
    rw [List.size_toArray, List.eraseIdxIfInBounds_toArray, erase_last]
  · rw [List.length_dropLast]
    omega

def rPopAt : V → List V → Hp → VK → Prop := fun x vs H Q => ∃ l xs i k y, x = .ref l ∧ vs = [.int i] ∧ H l = some (.lst xs) ∧ -(2 ^ 63) ≤ i ∧ i < 2 ^ 63 ∧ seqIndex? i xs.length = some k ∧ xs[k]? = some y ∧ Q y (upd H l (.lst (xs.eraseIdx k)))
theorem mt_popAt : MtM X "list.pop" rPopAt := by
  intro pins s σ H x vs v us Q I rx rv h
  obtain ⟨l, xs, i, k, y, rfl, rfl, hH, h1, h2, hk, hy, q⟩ := h
  cases rx
  obtain ⟨u, rfl, ru⟩ := rv.one
  obtain ⟨t, rfl⟩ := ru
  obtain ⟨z, its, n, r, hl, e⟩ := I.lstM hH
  obtain ⟨w, hw, rw'⟩ := r.get hy
  refine call_meets F.slot_list_pop ⟨_, e, rfl⟩ F.entry_list_pop (F.args_list_pop_2 _ _)
    (MeetsSeq.list_pop_at l its.toArray n i t k w (fitsIndex_both h1 h2) (by rw [List.size_toArray, ← hl]; exact hk) (by rw [← Array.getElem?_toList]; exact hw) (by rw [List.size_toArray]; omega)) ⟨e, ?_⟩
  refine ⟨y, _, I.lset (its' := its.eraseIdx k) hH e ?_ (r.eraseIdx k) ?_, rw', q⟩
  · show its.toArray.eraseIdxIfInBounds k = (its.eraseIdx k).toArray
    rw [List.eraseIdxIfInBounds_toArray]
  · have := len_erase xs k
    omega

def rReverse : V → List V → Hp → VK → Prop := fun x vs H Q => ∃ l xs, x = .ref l ∧ vs = [] ∧ H l = some (.lst xs) ∧ Q .non (upd H l (.lst xs.reverse))
theorem mt_reverse : MtM X "list.reverse" rReverse := by
  intro pins s σ H x vs v us Q I rx rv h
  obtain ⟨l, xs, rfl, rfl, hH, q⟩ := h
  cases rx
  have hus := rv.zero
  subst hus
  obtain ⟨z, its, n, r, hl, e⟩ := I.lstM hH
  refine call_meets F.slot_list_reverse ⟨_, e, rfl⟩ F.entry_list_reverse (F.args_list_reverse_1 _) (AutoSeq1.list_reverse_list_0 l its.toArray n (by rw [List.size_toArray]; omega)) ⟨e, ?_⟩
  refine ⟨.non, _, I.lset (its' := its.reverse) hH e (by simp) r.reverse ?_, rfl, q⟩
  rw [List.length_reverse]
  omega

def rClear : V → List V → Hp → VK → Prop := fun x vs H Q => ∃ l xs, x = .ref l ∧ vs = [] ∧ H l = some (.lst xs) ∧ Q .non (upd H l (.lst []))
theorem mt_clear : MtM X "list.clear" rClear := by
  intro pins s σ H x vs v us Q I rx rv h
  obtain ⟨l, xs, rfl, rfl, hH, q⟩ := h
  cases rx
  have hus := rv.zero
  subst hus
  obtain ⟨z, its, n, r, hl, e⟩ := I.lstM hH
  refine call_meets F.slot_list_clear ⟨_, e, rfl⟩ F.entry_list_clear (F.args_list_clear_1 _) (AutoSeq1.list_clear_list_0 l its.toArray n (by rw [List.size_toArray]; omega)) ⟨e, ?_⟩
  exact ⟨.non, _, I.lset (its' := []) (ys := []) hH e rfl .nil (Nat.zero_le _), rfl, q⟩

/-! ### list + list, list += list, list * int -/
def rCat : R2 := fun x y H Q => ∃ l b xs zs, x = .ref l ∧ y = .ref b ∧ H l = some (.lst xs) ∧ H b = some (.lst zs) ∧ xs.length + zs.length ≤ sizeLine ∧ ∀ p, H p = none → Q (.ref p) (upd H p (.lst (xs ++ zs)))
theorem op_cat : OpR X (binaryOp .Add) rCat := by
  intro pins s σ H x y v u Q I rx ry h
  obtain ⟨l, b, xs, zs, rfl, rfl, hH, hB, hz, q⟩ := h
  cases rx
  cases ry
  obtain ⟨z, its, n, r, hl, e⟩ := I.lstM hH
  obtain ⟨z2, its2, n2, r2, hl2, e2⟩ := I.lstM hB
  refine PySem.P.add_list e e2 ?_ (by rw [List.size_toArray, List.size_toArray]; omega)
  have ea : its.toArray ++ its2.toArray = (its ++ its2).toArray := by simp
  rw [ea]
  exact ⟨.ref _, _, I.lnew (t' := s.toks) (r.append r2) (by rw [List.length_append]; omega), rfl, q _ I.fresh⟩
/-- a list times an int (a negative one is nothing) -/
def rRep : R2 := fun x y H Q => ∃ l k xs, x = .ref l ∧ y = .int k ∧ H l = some (.lst xs) ∧ -(2 ^ 63) ≤ k ∧ k < 2 ^ 63 ∧ xs.length * k.toNat ≤ sizeLine ∧
  ∀ p, H p = none → Q (.ref p) (upd H p (.lst (List.replicate k.toNat xs).flatten))
theorem len_rep {α : Type} (xs : List α) (k : Nat) : (List.replicate k xs).flatten.length = k * xs.length := by
  induction k with
  | zero => simp
  | succ k ih => rw [List.replicate_succ, List.flatten_cons, List.length_append, ih, Nat.succ_mul, Nat.add_comm]
theorem op_rep : OpR X (binaryOp .Mult) rRep := by
  intro pins s σ H x y v u Q I rx ry h
  obtain ⟨l, k, xs, rfl, rfl, hH, h1, h2, hz, q⟩ := h
  cases rx
  obtain ⟨t, rfl⟩ := ry
  obtain ⟨z, its, n, r, hl, e⟩ := I.lstM hH
  have hlen : its.toArray.size * k.toNat ≤ sizeLine := by rw [List.size_toArray, ← hl]; exact hz
  have hcap : ¬ its.toArray.size * k.toNat > (2 ^ 63 - 1) / 8 := by
    have : (sizeLine : Nat) ≤ (2 ^ 63 - 1) / 8 := by decide
    omega
  have hfit : ¬ (!Builtin.List.listFitsIndex k) = true := by
    rw [fitsIndex_both h1 h2]
    exact Bool.false_ne_true
  have hlong : ¬ Builtin.List.listTooLong (its.toArray.size * k.toNat) = true := by
    rw [notLongL hlen]
    exact Bool.false_ne_true
  have hnew : List.foldl (fun x1 x2 => x1 ++ x2) #[] (List.replicate (if its.toArray.isEmpty = true then 0 else k.toNat) its.toArray) = (List.replicate k.toNat its).flatten.toArray := by
    have f0 : ∀ m : Nat, List.foldl (fun x1 x2 => x1 ++ x2) #[] (List.replicate m its.toArray) = (List.replicate m its).flatten.toArray := fun m => by
      have := foldl_rep its m []
      rw [List.nil_append] at this
      exact this
    rw [f0]
    cases its with
    | nil => simp
    | cons a r' => rw [if_neg (by simp)]
  refine wpAny_binaryOp_repeat_ref (T := "list") (U := "int") (by decide) ⟨_, e, rfl⟩ (fun s' => typeIs_int s' k t) noFill_list_mul F.fills_int_mul F.slot_int_rmul repeat_list F.slot_int_index.lookup
    (call_meets F.slot_int_rmul (typeIs_int s k t) F.entry_int_rmul (F.args_int_rmul_2 _ _) (int___rmul___int_list k t l its.toArray n)
      ⟨e, rfl, ⟨_, e, rfl⟩, call_meets F.slot_list_mul ⟨_, e, rfl⟩ F.entry_list_mul (F.args_list_mul_2 _ _) (AutoListH.list___mul___list_int_3 l its.toArray n k t hfit hcap hlong) ⟨e, ?_⟩⟩)
  rw [hnew]
  exact ⟨.ref _, _, I.lnew (t' := s.toks) (r.rep k.toNat) (by rw [len_rep, Nat.mul_comm]; exact hz), rfl, q _ I.fresh⟩

/-! ### del xs[i] -/
theorem del_list {pins : List (Addr × Obj)} {s : Shared} {σ : St} {H : Hp} {l : Addr} {xs : List V} {i : Int} {t : Tok} {k : Nat} {Q : Unit → Shared → Prop} (I : Inv X pins σ H s) (hH : H l = some (.lst xs))
    (h1 : -(2 ^ 63) ≤ i) (h2 : i < 2 ^ 63) (hk : seqIndex? i xs.length = some k) (h : ∀ s', Inv X pins σ (upd H l (.lst (xs.eraseIdx k))) s' → Q () s') :
    wpAny (model X.prog X.w) X.A (delItem (.ref l) (.int i t)) Q X.xe s := by
  obtain ⟨z, its, n, r, hl, e⟩ := I.lstM hH
  refine PySem.P.delItem_list (k := k) e (fitsIndex_both h1 h2) (by rw [List.size_toArray, ← hl]; exact hk) (h _ ?_) (by rw [List.size_toArray]; omega)
  refine I.lset (its' := its.eraseIdx k) (t' := s.toks) hH e ?_ (r.eraseIdx k) ?_
  · show its.toArray.eraseIdxIfInBounds k = (its.eraseIdx k).toArray
    rw [List.eraseIdxIfInBounds_toArray]
  · have := len_erase xs k
    omega
end

/-! ### xs[a:b] = ys -/
section
variable {prog : Program} {w : World} {A : Around} {E : Value → Shared → Prop} {s : Shared}
theorem splice_eq (its its2 : List Value) (a c : Nat) : its.toArray.extract 0 a ++ its2.toArray ++ its.toArray.extract c its.toArray.size = (its.take a ++ its2 ++ its.drop c).toArray := by
  apply Array.toList_inj.mp
  first
    | (simp
       exact List.take_of_length_le (by simp))
    | simp [List.take_of_length_le]
    | simp
theorem bounds_run {a c n : Nat} (hac : a ≤ c) (hc : c ≤ n) : sliceBounds (some (a : Int)) (some (c : Int)) none n = ((a : Int), (c : Int), 1) := by
  simp only [sliceBounds, Option.getD_none]
  have h1 : ¬ ((a : Int) < 0) := by omega
  have h2 : ¬ ((c : Int) < 0) := by omega
  simp only [h1, h2, if_false, show (1 : Int) > 0 by decide, if_true]
  congr 1
  · omega
  · congr 1; omega
set_option maxRecDepth 100000 in
/-- list.__setitem__ with a slice of step one and another list -/
theorem setItem_slice {l b sl : Addr} {items new : Array Value} {n n2 : Nat} {vl vu : Value} {a c : Nat} {Q : Unit → Shared → Prop}
    (e : s.heap.get? l = some { cls := .type "list", data := .seq items n }) (e2 : s.heap.get? b = some { cls := .type "list", data := .seq new n2 }) (hne : l ≠ b)
    (hs : s.heap.IsSliceOf sl vl vu .none) (pl : IsPart vl (some (a : Int))) (pu : IsPart vu (some (c : Int))) (hac : a ≤ c) (hc : c ≤ items.size)
    (hsz : items.size + new.size ≤ sizeLine) (h : Q () { s with heap := s.heap.update l (Obj.mapSeq fun xs => xs.extract 0 a ++ new ++ xs.extract c xs.size) }) :
    wpAny (model prog w) A (setItem (.ref l) (.ref sl) (.ref b)) Q E s := by
  have hl : s.heap.IsList l items := PySem.IsL.isList e
  have hb : s.heap.IsList b new := PySem.IsL.isList e2
  obtain ⟨os, hos, hcs, hds⟩ := id hs
  have hTs : s.TypeIs (.ref sl) "slice" := ⟨os, hos, hcs⟩
  have hstep : ¬ ((rawPart none == rawInt 0) = true) := Bool.false_ne_true
  have hsame : Builtin.List.listSameRef (.ref l) (.ref b) = false := by
    unfold Builtin.List.listSameRef
    exact beq_eq_false_iff_ne.mpr hne
  have hmax : (max (a : Int) (c : Int)).toNat = c := by omega
  have hz' : ((fun xs : Array Value => xs.extract 0 a ++ new ++ xs.extract c xs.size) items).size ≤ sizeLine + 1 := by
    simp only [Array.size_append, Array.size_extract]
    omega
  unfold setItem
  try with_reducible refine wpAny_holding ?_
  first | refine wpAny_bind (wpAny_pure ?_) | skip
  refine wpAny_bind (wpAny_sequenceKey hl.typeIs (by decide) ?_)
  refine wpAny_bind (wpAny_callSpecial?_slot (name := Str.ofString "__setitem__") hl.typeIs slot_list_setitem
    (wpAny_call_entry slot_list_setitem hl.typeIs entry_list_setitem ?_ (args_list_setitem _ _ _)))
  show wpAny _ _ (Builtin.List.listSubscript? (.ref sl) >>= _) _ _ s
  refine wpAny_bind ?_
  unfold Builtin.List.listSubscript?
  refine wpAny_bind (wpAny_specialOf hTs slice_no_index ?_)
  simp only [Option.isNone_none, if_true]
  refine wpAny_pure ?_
  show wpAny _ _ (typeOf (.ref sl) >>= _) _ _ s
  refine wpAny_bind (wpAny_typeOf hTs ?_)
  first
    | rw [if_neg (by decide)]
    | refine PySem.W.KFB.if_not (by decide) ?_
  rw [listSliceParts_eq]
  refine wpAny_bind (wpAny_bind (wpAny_field hos hds (x := .none) rfl (wpAny_bind (wpAny_listPart .none ?_))))
  rw [if_neg hstep]
  refine wpAny_bind (wpAny_field hos hds (x := vl) rfl (wpAny_bind (wpAny_listPart pl ?_)))
  refine wpAny_bind (wpAny_field hos hds (x := vu) rfl (wpAny_bind (wpAny_listPart pu (wpAny_pure ?_))))
  first
    | simp only [hsame, Bool.false_eq_true, if_false]
    | refine PySem.W.KFB.if_not hsame ?_
    | (dsimp only
       rw [if_neg (by rw [hsame]; exact Bool.false_ne_true)])
  refine wpAny_bind (m := Builtin.List.listAllItems (.ref b) "must assign iterable to extended slice") ?_
  unfold Builtin.List.listAllItems
  refine wpAny_bind (wpAny_typeOf hb.typeIs ?_)
  first
    | refine PySem.W.KFB.if_so (by decide) ?_
    | rw [if_pos (by decide)]
    | simp only [beq_self_eq_true, Bool.true_or, if_true]
  unfold Builtin.List.listItems
  refine wpAny_bind (wpAny_seqItems e2 rfl (wpAny_pure ?_))
  refine wpAny_bind (wpAny_bind (wpAny_seqItems e rfl (wpAny_pure ?_)))
  refine wpAny_bind (wpAny_of_eq ((sliceIndices_raw (some (a : Int)) (some (c : Int)) none items.size (by simp)).trans (congrArg (pure : Int × Int × Int → Sem (Int × Int × Int)) (bounds_run hac hc))) ?_)
  show wpAny _ _ (if ((1 : Int) == 1) = true then _ else _) _ _ s
  rw [if_pos (by decide)]
  refine wpAny_bind (wpAny_rule ?_)
  first
    | simp only [notLongL hsz, Bool.false_eq_true, if_false]
    | refine PySem.W.KFB.if_not (notLongL hsz) ?_
  first | refine wpAny_bind (wpAny_pure ?_) | skip
  show wpAny _ _ (updateSeq l (fun xs => xs.extract 0 ((a : Int)).toNat ++ new ++ xs.extract (max (a : Int) (c : Int)).toNat xs.size) >>= _) _ _ s
  rw [hmax, Int.toNat_natCast]
  refine wpAny_bind (wpAny_updateSeq (hz := Nat.le_trans (Nat.le_add_right _ _) hsz) (_hz' := hz') e rfl ?_)
  refine wpAny_bind (wpAny_letGo ?_)
  first
    | exact wpAny_bind (wpAny_pure (wpAny_pure ⟨.none, rfl, wpAny_pure h⟩))
    | exact wpAny_pure ⟨.none, rfl, wpAny_pure h⟩
end

section
variable {X : Cx}
/-- xs[a:c] = ys of another list, at the value level: sl is the slice object that was just made -/
theorem set_slice {pins : List (Addr × Obj)} {s : Shared} {σ : St} {H : Hp} {l b sl : Addr} {xs ys : List V} {a c : Int} {vl vu : Value} {Q : Unit → Shared → Prop} (I : Inv X pins σ H s)
    (hH : H l = some (.lst xs)) (hB : H b = some (.lst ys)) (hne : l ≠ b) (hs : s.heap.IsSliceOf sl vl vu .none) (ra : RelV (.int a) vl) (rc : RelV (.int c) vu) (h0 : 0 ≤ a) (hac : a ≤ c) (hc : c ≤ xs.length)
    (hz : xs.length + ys.length ≤ sizeLine) (h : ∀ s', Inv X pins σ (upd H l (.lst (xs.take a.toNat ++ ys ++ xs.drop c.toNat))) s' → Q () s') :
    wpAny (model X.prog X.w) X.A (setItem (.ref l) (.ref sl) (.ref b)) Q X.xe s := by
  obtain ⟨ta, rfl⟩ := ra
  obtain ⟨tc, rfl⟩ := rc
  obtain ⟨z, its, n, r, hl, e⟩ := I.lstM hH
  obtain ⟨z2, its2, n2, r2, hl2, e2⟩ := I.lstM hB
  obtain ⟨a', rfl⟩ := Int.eq_ofNat_of_zero_le h0
  obtain ⟨c', rfl⟩ := Int.eq_ofNat_of_zero_le (Int.le_trans h0 hac)
  simp only [Int.toNat_natCast] at h
  refine setItem_slice (a := a') (c := c') e e2 hne hs (.int _ _) (.int _ _) (by omega) (by rw [List.size_toArray]; omega) (by rw [List.size_toArray, List.size_toArray]; omega) (h _ ?_)
  refine I.lset (its' := its.take a' ++ its2 ++ its.drop c') (t' := s.toks) hH e ?_ (Vals.append (Vals.append (r.take _) r2) (r.drop _)) ?_
  · exact splice_eq its its2 a' c'
  · rw [List.length_append, List.length_append, List.length_take, List.length_drop]
    omega
end
end L2

namespace L2
open PySem PySem.Spec PyProof.Rows

/-! ### lists of pairs as tables -/
section
variable {κ : Type} [DecidableEq κ]
def valV (kvs : List (κ × V)) (k : κ) : Option V := (kvs.find? fun kv => decide (kv.1 = k)).map (·.2)
/-- in its place, or at the end -/
def putK (kvs : List (κ × V)) (k : κ) (v : V) : List (κ × V) :=
  if (kvs.any fun kv => decide (kv.1 = k)) = true then kvs.map (fun kv => if kv.1 = k then (kv.1, v) else kv) else kvs ++ [(k, v)]
def dropK (kvs : List (κ × V)) (k : κ) : List (κ × V) := kvs.filter fun kv => decide (kv.1 ≠ k)

theorem valV_nil {k : κ} : valV ([] : List (κ × V)) k = none := rfl
theorem valV_pos {p : κ × V} {r : List (κ × V)} {k : κ} (e : p.1 = k) : valV (p :: r) k = some p.2 := by simp [valV, List.find?_cons, e]
theorem valV_neg {p : κ × V} {r : List (κ × V)} {k : κ} (e : ¬ p.1 = k) : valV (p :: r) k = valV r k := by simp [valV, List.find?_cons, e]
theorem valV_any (k : κ) : ∀ kvs : List (κ × V), (kvs.any fun kv => decide (kv.1 = k)) = (valV kvs k).isSome
  | [] => rfl
  | p :: r => by
    rw [List.any_cons]
    by_cases e : p.1 = k
    · simp only [valV_pos e, decide_eq_true e, Bool.true_or, Option.isSome_some]
    · rw [valV_neg e, decide_eq_false e, Bool.false_or]; exact valV_any k r
theorem valV_map (k j : κ) (y : V) : ∀ kvs : List (κ × V), valV (kvs.map fun kv => if kv.1 = k then (kv.1, y) else kv) j = (valV kvs j).map fun x => if j = k then y else x
  | [] => rfl
  | p :: r => by
    have ih := valV_map k j y r
    rw [List.map_cons]
    by_cases h : p.1 = k
    · rw [if_pos h]
      by_cases e : p.1 = j
      · rw [valV_pos (p := (p.1, y)) e, valV_pos e, Option.map_some, if_pos (e.symm.trans h)]
      · rw [valV_neg (p := (p.1, y)) e, valV_neg e, ih]
    · rw [if_neg h]
      by_cases e : p.1 = j
      · rw [valV_pos (p := p) e, valV_pos e, Option.map_some, if_neg (fun z => h (e.trans z))]
      · rw [valV_neg (p := p) e, valV_neg e, ih]
theorem valV_snoc (k j : κ) (y : V) : ∀ kvs : List (κ × V), valV kvs k = none → valV (kvs ++ [(k, y)]) j = if j = k then some y else valV kvs j
  | [], _ => by
    by_cases e : k = j
    · rw [if_pos e.symm]; exact valV_pos (p := (k, y)) e
    · rw [if_neg (fun z => e z.symm)]; exact valV_neg (p := (k, y)) e
  | p :: r, hn => by
    rw [List.cons_append]
    have hk : ¬ p.1 = k := fun z => by rw [valV_pos z] at hn; cases hn
    rw [valV_neg hk] at hn
    have ih := valV_snoc k j y r hn
    by_cases e : p.1 = j
    · rw [valV_pos e, valV_pos e, if_neg (fun z => hk (e.trans z))]
    · rw [valV_neg e, valV_neg e, ih]
theorem valV_put (kvs : List (κ × V)) (k j : κ) (y : V) : valV (putK kvs k y) j = if j = k then some y else valV kvs j := by
  unfold putK
  by_cases a : (kvs.any fun kv => decide (kv.1 = k)) = true
  · rw [if_pos a, valV_map]
    rw [valV_any] at a
    by_cases e : j = k
    · obtain ⟨x, hx⟩ := Option.isSome_iff_exists.mp a
      rw [if_pos e, e, hx, Option.map_some, if_pos rfl]
    · rw [if_neg e]
      cases valV kvs j with
      | none => rfl
      | some x => rw [Option.map_some, if_neg e]
  · rw [if_neg a]
    refine valV_snoc k j y kvs ?_
    rw [valV_any] at a
    cases q : valV kvs k with
    | none => rfl
    | some x => rw [q] at a; exact (a rfl).elim
theorem length_putK (kvs : List (κ × V)) (k : κ) (v : V) : (putK kvs k v).length ≤ kvs.length + 1 := by
  unfold putK
  split
  · rw [List.length_map]; omega
  · rw [List.length_append, List.length_cons, List.length_nil]; omega
theorem putK_new {kvs : List (κ × V)} {k : κ} (v : V) (h : valV kvs k = none) : putK kvs k v = kvs ++ [(k, v)] := by
  unfold putK
  rw [valV_any, h]
  exact if_neg (by decide)

theorem RelO.isSome_eq {o : Option V} {u : Option Value} (r : RelO o u) : o.isSome = u.isSome := by
  cases o with
  | none => cases u with
    | none => rfl
    | some _ => exact (show False from r).elim
  | some _ => cases u with
    | none => exact (show False from r).elim
    | some _ => rfl
theorem RelO.getD {o : Option V} {u : Option Value} {d : V} {d' : Value} (r : RelO o u) (rd : RelV d d') : RelV (o.getD d) (u.getD d') := by
  cases o with
  | none => cases u with
    | none => exact rd
    | some _ => exact (show False from r).elim
  | some _ => cases u with
    | none => exact (show False from r).elim
    | some _ => exact r

/-- raw tables of the same keys -/
theorem KV.val {kvs : List (κ × V)} {vs : List (κ × Value)} (r : KV kvs vs) (k : κ) : RelO (valV kvs k) (valueAt vs k) := by
  unfold KV at r
  induction r with
  | nil => exact True.intro
  | @cons p q ps qs h t ih =>
    obtain ⟨h1, h2⟩ := h
    by_cases e : p.1 = k
    · have e' : q.1 = k := h1.symm.trans e
      have b : valueAt (q :: qs) k = some q.2 := by simp [valueAt, List.find?_cons, e']
      rw [valV_pos e, b]; exact h2
    · have e' : ¬ q.1 = k := fun z => e (h1.trans z)
      have b : valueAt (q :: qs) k = valueAt qs k := by simp [valueAt, List.find?_cons, e']
      rw [valV_neg e, b]; exact ih
theorem KV.any {kvs : List (κ × V)} {vs : List (κ × Value)} (r : KV kvs vs) (k : κ) : (kvs.any fun kv => decide (kv.1 = k)) = vs.any fun kv => decide (kv.1 = k) := by
  unfold KV at r
  induction r with
  | nil => rfl
  | cons h t ih => rw [List.any_cons, List.any_cons, ih, h.1]
theorem KV.repl {kvs : List (κ × V)} {vs : List (κ × Value)} (r : KV kvs vs) (k : κ) {y : V} {u : Value} (ry : RelV y u) :
    KV (kvs.map fun kv => if kv.1 = k then (kv.1, y) else kv) (vs.map fun kv => if kv.1 = k then (kv.1, u) else kv) := by
  unfold KV at r ⊢
  induction r with
  | nil => exact .nil
  | @cons p q ps qs h t ih =>
    rw [List.map_cons, List.map_cons]
    refine .cons ?_ ih
    obtain ⟨h1, h2⟩ := h
    by_cases e : p.1 = k
    · rw [if_pos e, if_pos (h1.symm.trans e)]; exact ⟨h1, ry⟩
    · rw [if_neg e, if_neg (fun z => e (h1.trans z))]; exact ⟨h1, h2⟩
theorem KV.put {kvs : List (κ × V)} {vs : List (κ × Value)} (r : KV kvs vs) (k : κ) {y : V} {u : Value} (ry : RelV y u) : KV (putK kvs k y) (stored vs k u) := by
  unfold putK stored
  rw [r.any k]
  by_cases e : (vs.any fun kv => decide (kv.1 = k)) = true
  · rw [if_pos e, if_pos e]; exact r.repl k ry
  · rw [if_neg e, if_neg e]; exact Paired.snoc r ⟨rfl, ry⟩
theorem KV.drop {kvs : List (κ × V)} {vs : List (κ × Value)} (r : KV kvs vs) (k : κ) : KV (dropK kvs k) (without vs k) := by
  unfold KV at r ⊢
  unfold dropK without
  induction r with
  | nil => exact .nil
  | @cons p q ps qs h t ih =>
    obtain ⟨h1, h2⟩ := h
    rw [List.filter_cons, List.filter_cons]
    by_cases e : p.1 = k
    · have a : ¬ decide (p.1 ≠ k) = true := by simp [e]
      have b : ¬ decide (q.1 ≠ k) = true := by simp [h1.symm.trans e]
      rw [if_neg a, if_neg b]; exact ih
    · have e' : ¬ q.1 = k := fun z => e (h1.trans z)
      have a : decide (p.1 ≠ k) = true := by simp [e]
      have b : decide (q.1 ≠ k) = true := by simp [e']
      rw [if_pos a, if_pos b]; exact .cons ⟨h1, h2⟩ ih
theorem KV.keys {kvs : List (κ × V)} {vs : List (κ × Value)} (r : KV kvs vs) : kvs.map (·.1) = vs.map (·.1) := by
  unfold KV at r
  induction r with
  | nil => rfl
  | cons h t ih => rw [List.map_cons, List.map_cons, ih, h.1]
theorem KV.length {kvs : List (κ × V)} {vs : List (κ × Value)} (r : KV kvs vs) : kvs.length = vs.length := Paired.length r
theorem dropK_le (kvs : List (κ × V)) (k : κ) : (dropK kvs k).length ≤ kvs.length := List.length_filter_le _ _
end

/-! ### a tracked dict, its keys ints and texts or tuples of these -/
theorem kV_is {P : Program} {w : World} {k : Key} {u : Value} (r : RelV (kV k) u) : (mixKind P w).is k u = true := by
  cases k with
  | inl i => obtain ⟨t, e⟩ := (show ∃ t, u = Value.int i t from r); subst e; exact mixKind_int P w i t
  | inr x => obtain ⟨t, e⟩ := (show ∃ t, u = Value.str x t from r); subst e; exact mixKind_str P w x t
theorem kV_inj {a b : Key} (e : kV a = kV b) : a = b := by
  cases a with
  | inl i => cases b with
    | inl j => have e' : V.int i = V.int j := e; injection e' with e'; rw [e']
    | inr y => exact nomatch (show V.int i = V.str y from e)
  | inr x => cases b with
    | inl j => exact nomatch (show V.str x = V.int j from e)
    | inr y => have e' : V.str x = V.str y := e; injection e' with e'; rw [e']
theorem kVs_inj : ∀ {a b : List Key}, a.map kV = b.map kV → a = b
  | [], [], _ => rfl
  | [], _ :: _, e => by simp at e
  | _ :: _, [], e => by simp at e
  | x :: xs, y :: ys, e => by
    rw [List.map_cons, List.map_cons] at e
    injection e with e1 e2
    rw [kV_inj e1, kVs_inj e2]
theorem items_are {P : Program} {w : World} : ∀ {ks : List Key} {us : List Value}, Vals (ks.map kV) us → ItemsAre (mixKind P w) ks us
  | [], _, r => by rw [List.map_nil] at r; cases r; exact .nil
  | k :: ks, _, r => by
    rw [List.map_cons] at r
    cases r with
    | cons h t => exact .cons (kV_is h) (items_are t)

/-- raw entries of a dict with tuple keys -/
abbrev KT (H : Hp) : List (List Key × V) → List (List Key × Addr × Value) → Prop := Paired fun p q => p.1 = q.1 ∧ H q.2.1 = some (.tup (p.1.map kV)) ∧ RelV p.2 q.2.2
theorem KT.val {H : Hp} {kvs : List (List Key × V)} {xs : List (List Key × Addr × Value)} (r : KT H kvs xs) (k : List Key) : RelO (valV kvs k) ((atKey xs k).map (·.2)) := by
  induction r with
  | nil => exact True.intro
  | @cons p q ps qs h t ih =>
    obtain ⟨h1, _, h2⟩ := h
    by_cases e : p.1 = k
    · have e' : q.1 = k := h1.symm.trans e
      have b : atKey (q :: qs) k = some q.2 := by simp [atKey, List.find?_cons, e']
      rw [valV_pos e, b]; exact h2
    · have e' : ¬ q.1 = k := fun z => e (h1.trans z)
      have b : atKey (q :: qs) k = atKey qs k := by simp [atKey, List.find?_cons, e']
      rw [valV_neg e, b]; exact ih
theorem KT.repl {H : Hp} {kvs : List (List Key × V)} {xs : List (List Key × Addr × Value)} (r : KT H kvs xs) (k : List Key) {y : V} {u : Value} (ry : RelV y u) :
    KT H (kvs.map fun kv => if kv.1 = k then (kv.1, y) else kv) (xs.map (putAt k u)) := by
  induction r with
  | nil => exact .nil
  | @cons p q ps qs h t ih =>
    rw [List.map_cons, List.map_cons]
    refine .cons ?_ ih
    obtain ⟨h1, h2, h3⟩ := h
    unfold putAt
    by_cases e : p.1 = k
    · rw [if_pos e, if_pos (h1.symm.trans e)]; exact ⟨h1, h2, ry⟩
    · rw [if_neg e, if_neg (fun z => e (h1.trans z))]; exact ⟨h1, h2, h3⟩
theorem KT.put {H : Hp} {kvs : List (List Key × V)} {xs : List (List Key × Addr × Value)} (r : KT H kvs xs) (k : List Key) {b : Addr} {y : V} {u : Value} (hb : H b = some (.tup (k.map kV))) (ry : RelV y u) :
    KT H (putK kvs k y) (storedH xs k b u) := by
  have e : (kvs.any fun kv => decide (kv.1 = k)) = (atKey xs k).isSome := by
    rw [valV_any, (r.val k).isSome_eq, Option.isSome_map]
  unfold putK storedH
  rw [e]
  by_cases q : (atKey xs k).isSome = true
  · rw [if_pos q, if_pos q]; exact r.repl k ry
  · rw [if_neg q, if_neg q]; exact Paired.snoc r ⟨rfl, hb, ry⟩
theorem KT.keeps {H H' : Hp} {kvs : List (List Key × V)} {xs : List (List Key × Addr × Value)} (r : KT H kvs xs) (ht : ∀ b ys, H b = some (.tup ys) → H' b = some (.tup ys)) : KT H' kvs xs :=
  Paired.mapP r fun _ _ z => ⟨z.1, ht _ _ z.2.1, z.2.2⟩

section
variable {P : Program} {w : World} {H : Hp} {h : Heap} {a : Addr}
theorem rd_of {u : HO} (ok : HOk P w H h) (e : Rd H a u) : ObjOk P w H h a u := e.ok ok
theorem dk_rd {kvs : List (Key × V)} (ok : HOk P w H h) (e : Rd H a (.dK kvs)) : kvs.length ≤ sizeLine ∧ (a == sysModules) = false ∧ ∃ vs, KV kvs vs ∧ h.DictOf (mixKind P w) a vs :=
  show ObjOk P w H h a (.dK kvs) from rd_of ok e
theorem dk_of {kvs : List (Key × V)} (ok : HOk P w H h) (e : H a = some (.dK kvs)) : kvs.length ≤ sizeLine ∧ (a == sysModules) = false ∧ ∃ vs, KV kvs vs ∧ h.DictOf (mixKind P w) a vs := dk_rd ok (.inl e)
/-- a tracked tuple of ints and texts is a key -/
theorem key_of {ks : List Key} (ok : HOk P w H h) (e : H a = some (.tup (ks.map kV))) : (tupleKind (mixKind P w)).is h ks a := by
  obtain ⟨_, its, r, o, h1, h2, n, h3⟩ := (show ObjOk P w H h a (.tup (ks.map kV)) from ok a _ e)
  exact ⟨o, its.toArray, n, h1, h2, h3, by simpa using items_are r⟩
theorem dt_rd {kvs : List (List Key × V)} (ok : HOk P w H h) (e : Rd H a (.dT kvs)) : kvs.length ≤ sizeLine ∧ (a == sysModules) = false ∧
    ∃ xs, KT H kvs xs ∧ h.DictOfH (tupleKind (mixKind P w)) a xs := by
  obtain ⟨z, y, xs, r, o, es, ep, h1, h2, h3, h4, h5⟩ := (show ObjOk P w H h a (.dT kvs) from rd_of ok e)
  refine ⟨z, y, xs, r, o, es, ep, h1, h2, h3, h4, fun x hx => ?_, h5⟩
  have all : ∀ {l : List (List Key × V)} {m : List (List Key × Addr × Value)}, KT H l m → ∀ x ∈ m, (tupleKind (mixKind P w)).is h x.1 x.2.1 := by
    intro l m q
    induction q with
    | nil => intro x hx; exact nomatch hx
    | @cons p q ps qs hq t ih =>
      intro x hx
      rcases List.mem_cons.mp hx with e | hx
      · subst e
        exact key_of ok (by rw [← hq.1]; exact hq.2.1)
      · exact ih x hx
  exact all r x hx
theorem dt_of {kvs : List (List Key × V)} (ok : HOk P w H h) (e : H a = some (.dT kvs)) : kvs.length ≤ sizeLine ∧ (a == sysModules) = false ∧
    ∃ xs, KT H kvs xs ∧ h.DictOfH (tupleKind (mixKind P w)) a xs := dt_rd ok (.inl e)
end

/-- what the dict at a holds at the key y -/
def DGet (H : Hp) (a : Addr) (y : V) (r : Option V) : Prop :=
  (∃ kvs k, Rd H a (.dK kvs) ∧ y = kV k ∧ r = valV kvs k) ∨ ∃ kvs k b, Rd H a (.dT kvs) ∧ y = .ref b ∧ H b = some (.tup (k.map kV)) ∧ r = valV kvs k
/-- the heap behind a[y] = v -/
def DPut (H : Hp) (a : Addr) (y v : V) (H' : Hp) : Prop :=
  (∃ kvs k, H a = some (.dK kvs) ∧ y = kV k ∧ kvs.length < sizeLine ∧ H' = upd H a (.dK (putK kvs k v))) ∨
  ∃ kvs k b, H a = some (.dT kvs) ∧ y = .ref b ∧ H b = some (.tup (k.map kV)) ∧ kvs.length < sizeLine ∧ H' = upd H a (.dT (putK kvs k v))
theorem DGet.k {H : Hp} {a : Addr} {kvs : List (Key × V)} {k : Key} (e : H a = some (.dK kvs)) : DGet H a (kV k) (valV kvs k) := .inl ⟨kvs, k, .inl e, rfl, rfl⟩
theorem DGet.t {H : Hp} {a b : Addr} {kvs : List (List Key × V)} {k : List Key} (e : H a = some (.dT kvs)) (eb : H b = some (.tup (k.map kV))) : DGet H a (.ref b) (valV kvs k) := .inr ⟨kvs, k, b, .inl e, rfl, eb, rfl⟩
theorem DPut.k {H : Hp} {a : Addr} {kvs : List (Key × V)} {k : Key} {v : V} (e : H a = some (.dK kvs)) (hl : kvs.length < sizeLine) : DPut H a (kV k) v (upd H a (.dK (putK kvs k v))) := .inl ⟨kvs, k, e, rfl, hl, rfl⟩
theorem DPut.t {H : Hp} {a b : Addr} {kvs : List (List Key × V)} {k : List Key} {v : V} (e : H a = some (.dT kvs)) (eb : H b = some (.tup (k.map kV))) (hl : kvs.length < sizeLine) :
    DPut H a (.ref b) v (upd H a (.dT (putK kvs k v))) := .inr ⟨kvs, k, b, e, rfl, eb, hl, rfl⟩

section
variable {X : Cx} {pins : List (Addr × Obj)} {σ : St} {H : Hp} {s : Shared} {a : Addr} {y v : V} {u r : Value} {o : Option V} {A : Around} {E : Value → Shared → Prop}

theorem Inv.big (I : Inv X pins σ H s) : sysModules < s.heap.objs.size := by
  have h : mainGlobals < s.heap.objs.size := (I.mod.glob.keeps I.bk).lt
  exact Nat.lt_trans (by decide) h

/-- d[y], there -/
theorem d_getItem {Q : Value → Shared → Prop} (hu : A.units + 1 < cLine) (I : Inv X pins σ H s) (g : DGet H a y (some v)) (ry : RelV y u) (h : ∀ w' s', Inv X pins σ H s' → RelV v w' → Q w' s') :
    wpAny (model X.prog X.w) A (getItem (.ref a) u) Q E s := by
  rcases g with ⟨kvs, k, e, ey, l⟩ | ⟨kvs, k, b, e, ey, eb, l⟩
  · subst ey
    obtain ⟨z, hd, vs, rel, dd⟩ := dk_rd I.hok e
    obtain ⟨w', hw, rw'⟩ := RelO.some_of (v := v) (o := valueAt vs k) (by rw [l]; exact rel.val k)
    exact wpAny_getItem_of (kV_is ry) dd.mapOf hw (h w' _ (I.tok _) rw')
  · subst ey
    cases (show u = Value.ref b from ry)
    obtain ⟨z, hd, xs, rel, dd⟩ := dt_rd I.hok e
    obtain ⟨w', hw, rw'⟩ := RelO.some_of (v := v) (o := (atKey xs k).map (·.2)) (by rw [l]; exact rel.val k)
    obtain ⟨p, hp, hp2⟩ := Option.map_eq_some_iff.mp hw
    refine wpAny_getItem_heap (tupleKind_room_in1 hu) (key_of I.hok eb) dd hp ?_
    rw [hp2]
    exact h w' _ (I.tok _) rw'
/-- y in d -/
theorem d_in {Q : Value → Shared → Prop} (hu : A.units + 1 < cLine) (I : Inv X pins σ H s) (g : DGet H a y o) (ry : RelV y u) (h : ∀ s', Inv X pins σ H s' → Q (.bool o.isSome) s') :
    wpAny (model X.prog X.w) A (compareOp .In u (.ref a)) Q E s := by
  rcases g with ⟨kvs, k, e, ey, l⟩ | ⟨kvs, k, b, e, ey, eb, l⟩
  · subst ey
    obtain ⟨z, hd, vs, rel, dd⟩ := dk_rd I.hok e
    refine wpAny_in_of (kV_is ry) hd dd.mapOf ?_
    rw [← (rel.val k).isSome_eq, ← l]
    exact h _ (I.tok _)
  · subst ey
    cases (show u = Value.ref b from ry)
    obtain ⟨z, hd, xs, rel, dd⟩ := dt_rd I.hok e
    refine wpAny_in_heap (tupleKind_room_in1 hu) (key_of I.hok eb) hd dd ?_
    have q := (rel.val k).isSome_eq
    rw [Option.isSome_map] at q
    rw [← q, ← l]
    exact h _ (I.tok _)
theorem d_notIn {Q : Value → Shared → Prop} (hu : A.units + 1 < cLine) (I : Inv X pins σ H s) (g : DGet H a y o) (ry : RelV y u) (h : ∀ s', Inv X pins σ H s' → Q (.bool (!o.isSome)) s') :
    wpAny (model X.prog X.w) A (compareOp .NotIn u (.ref a)) Q E s := by
  rcases g with ⟨kvs, k, e, ey, l⟩ | ⟨kvs, k, b, e, ey, eb, l⟩
  · subst ey
    obtain ⟨z, hd, vs, rel, dd⟩ := dk_rd I.hok e
    refine wpAny_notIn_of (kV_is ry) hd dd.mapOf ?_
    rw [← (rel.val k).isSome_eq, ← l]
    exact h _ (I.tok _)
  · subst ey
    cases (show u = Value.ref b from ry)
    obtain ⟨z, hd, xs, rel, dd⟩ := dt_rd I.hok e
    refine wpAny_notIn_heap (tupleKind_room_in1 hu) (key_of I.hok eb) hd dd ?_
    have q := (rel.val k).isSome_eq
    rw [Option.isSome_map] at q
    rw [← q, ← l]
    exact h _ (I.tok _)
/-- a dict's object is replaced -/
theorem d_write {h' : Heap} {t' : Nat} {ob : HO} (I : Inv X pins σ H s) (mu : Mut (H a)) (hs : Heap.SameBut a s.heap h') (he : ∃ q, h'.get? a = some q) (new : ObjOk X.prog X.w (upd H a ob) h' a ob) :
    Inv X pins σ (upd H a ob) { s with heap := h', toks := t' } :=
  I.write (x := a) (e := a) mu (.inl rfl) (fun b q hb z => (hs.2 b hb).trans z) he new
theorem dk_new {P : Program} {w : World} {H' : Hp} {h' : Heap} {kvs : List (Key × V)} {vs : List (Key × Value)} (z : kvs.length ≤ sizeLine) (hd : (a == sysModules) = false) (rel : KV kvs vs) (dd : h'.DictOf (mixKind P w) a vs) :
    ObjOk P w H' h' a (.dK kvs) := ⟨z, hd, vs, rel, dd⟩
/-- d[y] = v -/
theorem d_setItem {H' : Hp} {Q : Unit → Shared → Prop} (hu : A.units + 1 < cLine) (I : Inv X pins σ H s) (g : DPut H a y v H') (ry : RelV y u) (rv : RelV v r) (h : ∀ s', Inv X pins σ H' s' → Q () s') :
    wpAny (model X.prog X.w) A (setItem (.ref a) u r) Q E s := by
  rcases g with ⟨kvs, k, e, ey, l, eH⟩ | ⟨kvs, k, b, e, ey, eb, l, eH⟩
  · subst ey eH
    obtain ⟨z, hd, vs, rel, dd⟩ := dk_of I.hok e
    have hz : vs.length ≤ sizeLine := by rw [← rel.length]; exact z
    have hl : (putK kvs k v).length ≤ sizeLine := by have := length_putK kvs k v; omega
    refine wpAny_setItem_pairs (hsz := hz) (kV_is ry) dd fun h' dd' hs => h _ ?_
    have he : ∃ q, h'.get? a = some q := let ⟨q, _, _, hq, _⟩ := dd'; ⟨q, hq⟩
    exact d_write I (by rw [e]; exact True.intro) hs he (dk_new hl hd (rel.put k rv) dd')
  · subst ey eH
    cases (show u = Value.ref b from ry)
    obtain ⟨z, hd, xs, rel, dd⟩ := dt_of I.hok e
    have hz : xs.length ≤ sizeLine := by rw [← Paired.length rel]; exact z
    have hl : (putK kvs k v).length ≤ sizeLine := by have := length_putK kvs k v; omega
    refine wpAny_setItem_heap (hsz := hz) (tupleKind_room_in1 hu) (key_of I.hok eb) dd fun h' dd' hs => h _ ?_
    obtain ⟨q, es, ep, hq, h2, h3, h4, _, h5⟩ := dd'
    refine d_write I (by rw [e]; exact True.intro) hs ⟨q, hq⟩ ⟨hl, hd, _, (rel.put k eb rv).keeps fun c ys ec => ?_, q, es, ep, hq, h2, h3, h4, h5⟩
    rw [upd_ne (ne_of ec e (fun z => nomatch z))]
    exact ec
end

section
variable {X : Cx} {pins : List (Addr × Obj)} {σ : St} {H : Hp} {s : Shared} {a : Addr} {kvs : List (Key × V)} {k : Key} {u : Value} {A : Around} {E : Value → Shared → Prop}
/-- del d[k] -/
theorem d_delItem {Q : Unit → Shared → Prop} (I : Inv X pins σ H s) (e : H a = some (.dK kvs)) (ry : RelV (kV k) u) (l : (valV kvs k).isSome = true) (h : ∀ s', Inv X pins σ (upd H a (.dK (dropK kvs k))) s' → Q () s') :
    wpAny (model X.prog X.w) A (delItem (.ref a) u) Q E s := by
  obtain ⟨z, hd, vs, rel, dd⟩ := dk_of I.hok e
  refine wpAny_delItem_slot dd.typeIs (by decide) PySem.F.slot_dict_delitem
    (call_meetsIn PySem.F.slot_dict_delitem dd.typeIs PySem.F.entry_dict_delitem (PySem.F.args_dict_delitem_2 _ _) (meets_dict_delitem_pairs (mixKind X.prog X.w) a (kV_is ry)) ⟨vs, dd, by rw [← rel.length]; exact z, by rw [← (rel.val k).isSome_eq]; exact l, fun h' dd' hs => h _ ?_⟩)
  have he : ∃ q, h'.get? a = some q := let ⟨q, _, _, hq, _⟩ := dd'; ⟨q, hq⟩
  exact d_write I (by rw [e]; exact True.intro) hs he (dk_new (Nat.le_trans (dropK_le kvs k) z) hd (rel.drop k) dd')
/-- d.pop(k[, x]), there -/
theorem d_pop {v : V} {more : List Value} {Q : Value → Shared → Prop} (I : Inv X pins σ H s) (e : H a = some (.dK kvs)) (ry : RelV (kV k) u) (l : valV kvs k = some v) (hm : more = [] ∨ ∃ x, more = [x])
    (h : ∀ w' s', Inv X pins σ (upd H a (.dK (dropK kvs k))) s' → RelV v w' → Q w' s') : wpAny (model X.prog X.w) A (call (.builtin "dict.pop") (.ref a :: u :: more)) Q E s := by
  obtain ⟨z, hd, vs, rel, dd⟩ := dk_of I.hok e
  obtain ⟨w', hw, rw'⟩ := RelO.some_of (v := v) (o := valueAt vs k) (by rw [← l]; exact rel.val k)
  have hp : (keyPart u).isSome = true := by
    cases k with
    | inl i => obtain ⟨t, q⟩ := (show ∃ t, u = Value.int i t from ry); subst q; rfl
    | inr x => obtain ⟨t, q⟩ := (show ∃ t, u = Value.str x t from ry); subst q; rfl
  have ha : argsOk "dict.pop" ⟨.ref a :: u :: more, []⟩ := by
    rcases hm with q | ⟨x, q⟩
    · subst q; exact PySem.F.args_dict_pop_2 _ _
    · subst q; exact PySem.F.args_dict_pop_3 _ _ _
  refine call_meetsIn PySem.F.slot_dict_pop dd.typeIs PySem.F.entry_dict_pop ha (meets_dict_pop_there (mixKind X.prog X.w) a (kV_is ry) more hm hp)
    ⟨vs, w', dd, by rw [← rel.length]; exact z, hw, fun h' dd' hs => h w' _ ?_ rw'⟩
  have he : ∃ q, h'.get? a = some q := let ⟨q, _, _, hq, _⟩ := dd'; ⟨q, hq⟩
  exact d_write I (by rw [e]; exact True.intro) hs he (dk_new (Nat.le_trans (dropK_le kvs k) z) hd (rel.drop k) dd')
/-- d.pop(k, x), not there -/
theorem d_popD {r : Value} {Q : Value → Shared → Prop} (I : Inv X pins σ H s) (e : H a = some (.dK kvs)) (ry : RelV (kV k) u) (l : valV kvs k = none) (h : ∀ s', Inv X pins σ H s' → Q r s') :
    wpAny (model X.prog X.w) A (call (.builtin "dict.pop") [.ref a, u, r]) Q E s := by
  obtain ⟨z, hd, vs, rel, dd⟩ := dk_of I.hok e
  have hn : valueAt vs k = none := RelO.none_of (by rw [← l]; exact rel.val k)
  have hp : (keyPart u).isSome = true := by
    cases k with
    | inl i => obtain ⟨t, q⟩ := (show ∃ t, u = Value.int i t from ry); subst q; rfl
    | inr x => obtain ⟨t, q⟩ := (show ∃ t, u = Value.str x t from ry); subst q; rfl
  exact call_meetsIn PySem.F.slot_dict_pop dd.typeIs PySem.F.entry_dict_pop (PySem.F.args_dict_pop_3 _ _ _) (meets_dict_pop_default (mixKind X.prog X.w) a (kV_is ry) hd hp r) ⟨vs, dd, hn, h _ (I.tok _)⟩
/-- d.clear() -/
theorem d_clear {Q : Value → Shared → Prop} (I : Inv X pins σ H s) (e : H a = some (.dK kvs)) (h : ∀ s', Inv X pins σ (upd H a (.dK [])) s' → Q .none s') : wpAny (model X.prog X.w) A (call (.builtin "dict.clear") [.ref a]) Q E s := by
  obtain ⟨z, hd, vs, rel, dd⟩ := dk_of I.hok e
  refine call_meetsIn PySem.F.slot_dict_clear dd.typeIs PySem.F.entry_dict_clear (PySem.F.args_dict_clear_1 _) (meets_dict_clear (mixKind X.prog X.w) a) ⟨vs, dd, by rw [← rel.length]; exact z, fun h' dd' hs => h _ ?_⟩
  have he : ∃ q, h'.get? a = some q := let ⟨q, _, _, hq, _⟩ := dd'; ⟨q, hq⟩
  exact d_write (t' := s.toks) I (by rw [e]; exact True.intro) hs he (dk_new (Nat.zero_le _) hd .nil dd')
/-- len(d) -/
theorem d_len {Q : Value → Shared → Prop} (I : Inv X pins σ H s) (e : Rd H a (.dK kvs)) (h : ∀ t s', Inv X pins σ H s' → Q (.int kvs.length t) s') : wpAny (model X.prog X.w) A (call (.builtin "len") [.ref a]) Q E s := by
  obtain ⟨z, hd, vs, rel, dd⟩ := dk_rd I.hok e
  refine call_len_dict hd dd (by rw [← rel.length]; rw [sizeLine_eq] at z; omega) ?_
  rw [← rel.length]
  exact h _ _ (I.tok _)
/-- if d -/
theorem d_truth {Q : Bool → Shared → Prop} (I : Inv X pins σ H s) (e : Rd H a (.dK kvs)) (h : ∀ s', Inv X pins σ H s' → Q (!kvs.isEmpty) s') : wpAny (model X.prog X.w) A (truthy (.ref a)) Q E s := by
  obtain ⟨z, hd, vs, rel, dd⟩ := dk_rd I.hok e
  refine wpAny_truthy_dict hd dd (by rw [← rel.length]; rw [sizeLine_eq] at z; omega) ?_
  have q : kvs.isEmpty = vs.isEmpty := by cases rel <;> rfl
  rw [← q]
  exact h _ (I.tok _)
end

/-! ### readings and rules -/
/-- the element of a subscription, not a slice -/
def NoSl (i : Expr) : Prop := ∀ ov iv, subscripted i false ov iv = operate [ov, iv] (getItem ov iv)
theorem subD_of {prog : Program} {w : World} {A : Around} {E : Value → Shared → Prop} {s : Shared} {env : Env} {value slice : Expr} {pos : Pos} {T id : String} {Q : Value → Shared → Prop}
    (hl : typeLookup (.type T) "__getitem__" = pure (some (.builtin id))) (hs : NoSl slice)
    (h : wpAny (model prog w) A (eval value env) (fun o s₁ => wpAny (model prog w) A (eval slice env) (fun i s₂ => s₂.TypeIs o T ∧ wpAny (model prog w) A (getItem o i) Q E s₂) E s₁) E s) :
    wpAny (model prog w) A (eval (.Subscript value slice pos) env) Q E s := by
  refine Subscript_ (wpAny_mono h (fun o s₁ h₁ => wpAny_mono h₁ (fun i s₂ h₂ => ?_) fun _ _ x => x) fun _ _ x => x)
  obtain ⟨hT, h₂⟩ := h₂
  unfold subscriptTail
  refine wpAny_bind ?_
  rw [getitemInPython_of_ne hT.not_modules]
  refine wpAny_bind (wpAny_specialOf hT hl ?_)
  have fin : wpAny (model prog w) A (subscripted slice false o i) (fun r s₃ => wpAny (model prog w) A (letTemporaryGo value o r >>= fun _ => pure r) Q E s₃) E s₂ := by
    rw [hs o i]
    exact wpAny_operating (wpAny_mono h₂ (fun r s₃ h₃ => wpAny_bind (wpAny_letTemporaryGo (wpAny_pure h₃))) fun _ _ x => x)
  first
    | exact wpAny_pure (wpAny_bind fin)
    | exact wpAny_bind (wpAny_pure (wpAny_bind fin))
    | exact wpAny_bind fin

theorem dict_typeIs {X : Cx} {pins : List (Addr × Obj)} {σ : St} {H : Hp} {s : Shared} {a : Addr} {y : V} {o : Option V} (I : Inv X pins σ H s) (g : DGet H a y o) : s.TypeIs (.ref a) "dict" := by
  rcases g with ⟨kvs, k, e, _, _⟩ | ⟨kvs, k, b, e, _, _, _⟩
  · obtain ⟨_, _, vs, _, dd⟩ := dk_rd I.hok e
    exact dd.typeIs
  · obtain ⟨_, _, xs, _, dd⟩ := dt_rd I.hok e
    exact dd.typeIs
theorem dict_noDict {X : Cx} {pins : List (Addr × Obj)} {σ : St} {H : Hp} {s : Shared} {a : Addr} {y : V} {o : Option V} (I : Inv X pins σ H s) (g : DGet H a y o) :
    ∀ b, Value.ref a = .ref b → ∃ ob, s.heap.get? b = some ob ∧ ob.dict = none := fun b q => by
  cases q
  rcases g with ⟨kvs, k, e, _, _⟩ | ⟨kvs, k, b, e, _, _, _⟩
  · obtain ⟨_, _, vs, _, ob, _, _, h1, h2, _⟩ := dk_rd I.hok e
    exact ⟨ob, h1, h2.2.1⟩
  · obtain ⟨_, _, xs, _, ob, _, _, h1, h2, _⟩ := dt_rd I.hok e
    exact ⟨ob, h1, h2.2.1⟩

/-- d[y] -/
def tDGet (td ty : TE) : TE := fun σ H Q => td σ H fun x H1 => ty σ H1 fun y H2 => ∃ a v, x = .ref a ∧ DGet H2 a y (some v) ∧ Q v H2
/-- y in d, y not in d -/
def tDIn (ty td : TE) : TE := fun σ H Q => ty σ H fun y H1 => td σ H1 fun x H2 => ∃ a o, x = .ref a ∧ DGet H2 a y o ∧ Q (.bl o.isSome) H2
def tDNotIn (ty td : TE) : TE := fun σ H Q => ty σ H fun y H1 => td σ H1 fun x H2 => ∃ a o, x = .ref a ∧ DGet H2 a y o ∧ Q (.bl (!o.isSome)) H2
/-- d[y] = v -/
def sDPut (td ty tv : TE) : TS := fun D σ H => tv σ H fun v H1 => td σ H1 fun x H2 => ty σ H2 fun y H3 => ∃ a H4, x = .ref a ∧ DPut H3 a y v H4 ∧ D.nx σ H4
/-- d[y] op= v -/
def sDAug (td ty tv : TE) (rd : V → V → Hp → VK → Prop) : TS := fun D σ H => td σ H fun x H1 => ty σ H1 fun y H2 => ∃ a v, x = .ref a ∧ DGet H2 a y (some v) ∧
  tv σ H2 fun y2 H3 => rd v y2 H3 fun z H4 => ∃ H5, DPut H4 a y z H5 ∧ D.nx σ H5
/-- del d[y] -/
def sDDel (td ty : TE) : TS := fun D σ H => td σ H fun x H1 => ty σ H1 fun y H2 => ∃ a kvs k, x = .ref a ∧ H2 a = some (.dK kvs) ∧ y = kV k ∧ (valV kvs k).isSome = true ∧ D.nx σ (upd H2 a (.dK (dropK kvs k)))

section
variable {X : Cx} {o i e value : Expr} {pos pos' tpos : Pos} {td ty tv : TE}
theorem pe_dget (hu : X.A.units + 1 < cLine) (ho : PE X o td) (hi : PE X i ty) (hs : NoSl i) : PE X (.Subscript o i pos) (tDGet td ty) := by
  intro pins s σ H Q I h
  refine subD_of PySem.F.slot_dict_getitem.lookup hs (thn (ho pins s σ H _ I h) fun u s1 ⟨x, H1, I1, rx, q1⟩ => thn (hi pins s1 σ H1 _ I1 q1) fun iv s2 ⟨y, H2, I2, ry, a, v, ex, g, q2⟩ => ?_)
  subst ex
  obtain rfl : u = Value.ref a := rx
  exact ⟨dict_typeIs I2 g, d_getItem hu I2 g ry fun w' s3 I3 rw' => ⟨v, H2, I3, rw', q2⟩⟩
theorem pc_din (hu : X.A.units + 1 < cLine) (hi : PE X i ty) (ho : PE X o td) : PC X .In i o (tDIn ty td) := by
  intro pins s σ H Q I h
  refine thn (hi pins s σ H _ I h) fun iv s1 ⟨y, H1, I1, ry, q1⟩ => thn (ho pins s1 σ H1 _ I1 q1) fun u s2 ⟨x, H2, I2, rx, a, ov, ex, g, q2⟩ => ?_
  subst ex
  obtain rfl : u = Value.ref a := rx
  exact d_in hu I2 g ry fun s3 I3 => ⟨.bl ov.isSome, H2, I3, rfl, q2⟩
theorem pc_dnotin (hu : X.A.units + 1 < cLine) (hi : PE X i ty) (ho : PE X o td) : PC X .NotIn i o (tDNotIn ty td) := by
  intro pins s σ H Q I h
  refine thn (hi pins s σ H _ I h) fun iv s1 ⟨y, H1, I1, ry, q1⟩ => thn (ho pins s1 σ H1 _ I1 q1) fun u s2 ⟨x, H2, I2, rx, a, ov, ex, g, q2⟩ => ?_
  subst ex
  obtain rfl : u = Value.ref a := rx
  exact d_notIn hu I2 g ry fun s3 I3 => ⟨.bl (!ov.isSome), H2, I3, rfl, q2⟩
theorem ps_dput (hu : X.A.units + 1 < cLine) (ho : PE X o td) (hi : PE X i ty) (hv : PE X value tv) (hs : swapsWith value (some (.Subscript o i pos')) pos.line X.env = pure false) :
    PS X (.Assign [.Subscript o i pos'] value pos) (sDPut td ty tv) := by
  intro pins s σ H D I h
  refine wpAny_Assign_Subscript (thn (hv pins s σ H _ I h) fun r s1 ⟨v, H1, I1, rv, q1⟩ => thn (ho pins s1 σ H1 _ I1 q1) fun u s2 ⟨x, H2, I2, rx, q2⟩ => thn (hi pins s2 σ H2 _ I2 q2) fun iv s3 ⟨y, H3, I3, ry, a, H4, ex, g, q3⟩ => ?_) hs
  subst ex
  obtain rfl : u = Value.ref a := rx
  exact d_setItem hu I3 g ry rv fun s4 I4 => ⟨σ, H4, I4, q3⟩
theorem ps_daug {op : Operator} {rd : V → V → Hp → VK → Prop} (hu : X.A.units + 1 < cLine) (ho : PE X o td) (hi : PE X i ty) (hv : PE X value tv) (hop : InOp X op rd)
    (ha : ∀ ov iv new, augStore i ov iv new = (do holding [new, ov, iv] (setItem ov iv new); release [new, ov, iv] []; pure .next)) : PS X (.AugAssign (.Subscript o i tpos) op value pos) (sDAug td ty tv rd) := by
  intro pins s σ H D I h
  refine wpAny_AugAssign_SubscriptAny (thn (ho pins s σ H _ I h) fun u s1 ⟨x, H1, I1, rx, q1⟩ => thn (hi pins s1 σ H1 _ I1 q1) fun iv s2 ⟨y, H2, I2, ry, a, v, ex, g, q2⟩ => ?_) ha
  subst ex
  obtain rfl : u = Value.ref a := rx
  refine d_getItem hu I2 g ry fun w' s3 I3 rw' => thn (hv pins s3 σ H2 _ I3 q2) fun w2 s4 ⟨y2, H3, I4, ry2, q3⟩ => thn (hop pins s4 σ H3 v y2 w' w2 _ I4 rw' ry2 q3) fun w3 s5 ⟨z, H4, I5, rz, H5, g5, q4⟩ => ?_
  exact d_setItem hu I5 g5 ry rz fun s6 I6 => ⟨σ, H5, I6, q4⟩
theorem ps_ddel (ho : PE X o td) (hi : PE X i ty) : PS X (.Delete [.Subscript o i tpos] pos) (sDDel td ty) := by
  intro pins s σ H D I h
  refine wpAny_Delete (wpAny_deleteEach_cons (wpAny_delete_Subscript (thn (ho pins s σ H _ I h) fun u s1 ⟨x, H1, I1, rx, q1⟩ => thn (hi pins s1 σ H1 _ I1 q1) fun iv s2 ⟨y, H2, I2, ry, a, kvs, k, ex, e, ey, l, q2⟩ => ?_)))
  subst ex ey
  obtain rfl : u = Value.ref a := rx
  exact d_delItem I2 e ry l fun s3 I3 => wpAny_deleteEach_nil ⟨σ, _, I3, q2⟩
end

/-! ### displays -/
theorem dk_empty {P : Program} {w : World} {H : Hp} (h : Heap) (hb : sysModules < h.objs.size) : ObjOk P w H (h.push { cls := .type "dict", data := .dict #[] }) h.objs.size (.dK []) :=
  ⟨Nat.zero_le _, beq_eq_false_iff_ne.mpr (Ne.symm (Nat.ne_of_lt hb)), [], .nil, Heap.DictOf.new h⟩
theorem dt_empty {P : Program} {w : World} {H : Hp} (h : Heap) (hb : sysModules < h.objs.size) : ObjOk P w H (h.push { cls := .type "dict", data := .dict #[] }) h.objs.size (.dT []) :=
  ⟨Nat.zero_le _, beq_eq_false_iff_ne.mpr (Ne.symm (Nat.ne_of_lt hb)), [], .nil, _, #[], 0, Heap.get?_push_size _ rfl, ⟨rfl, rfl, rfl⟩, rfl, rfl, List.nodup_nil⟩
/-- {}, to be a dict of the kind that is wanted -/
def tDNewK : TE := fun _ H Q => ∀ p, H p = none → Q (.ref p) (upd H p (.dK []))
def tDNewT : TE := fun _ H Q => ∀ p, H p = none → Q (.ref p) (upd H p (.dT []))
section
variable {X : Cx} {pos : Pos}
theorem pe_dnewK : PE X (.Dict [] [] pos) tDNewK := fun pins s σ H Q I h =>
  wpAny_Dict_empty ⟨.ref s.heap.objs.size, _, I.laid (a := s.heap.objs.size) (o := .dK []) (t' := s.toks) (fun _ _ q => Heap.get?_push_of_some _ q) (Nat.le_refl _) (dk_empty s.heap I.big), rfl, h _ (I.hok.fresh (Nat.le_refl _))⟩
theorem pe_dnewT : PE X (.Dict [] [] pos) tDNewT := fun pins s σ H Q I h =>
  wpAny_Dict_empty ⟨.ref s.heap.objs.size, _, I.laid (a := s.heap.objs.size) (o := .dT []) (t' := s.toks) (fun _ _ q => Heap.get?_push_of_some _ q) (Nat.le_refl _) (dt_empty s.heap I.big), rfl, h _ (I.hok.fresh (Nat.le_refl _))⟩
end

/-- the pairs of a display, from the left -/
def tPairs : List (TE × TE) → St → Hp → (List (V × V) → Hp → Prop) → Prop
  | [], _, H, Q => Q [] H
  | (tk, tv) :: r, σ, H, Q => tk σ H fun x H1 => tv σ H1 fun y H2 => tPairs r σ H2 fun ps H3 => Q ((x, y) :: ps) H3
abbrev VV : List (V × V) → List (Value × Value) → Prop := Paired fun p q => RelV p.1 q.1 ∧ RelV p.2 q.2
def PPs (X : Cx) (pos : Pos) (keys : List (Option Expr)) (values : List Expr) (trs : List (TE × TE)) : Prop :=
  ∀ (pins : List (Addr × Obj)) (s : Shared) (σ : St) (H : Hp) (Q : List (V × V) → Hp → Prop), Inv X pins σ H s → tPairs trs σ H Q →
    wpAny (model X.prog X.w) X.A (evalPairs (pairTrees keys values X.env pos)) (fun vs s' => ∃ ps H', Inv X pins σ H' s' ∧ VV ps vs ∧ Q ps H') X.xe s
theorem pps_nil {X : Cx} {pos : Pos} : PPs X pos [] [] [] := fun pins s σ H Q I h => pairTrees_nil_walk ⟨[], H, I, .nil, h⟩
theorem pps_cons {X : Cx} {pos : Pos} {k v : Expr} {ks : List (Option Expr)} {vs : List Expr} {tk tv : TE} {trs : List (TE × TE)} (hk : PE X k tk) (hv : PE X v tv) (hr : PPs X pos ks vs trs) :
    PPs X pos (some k :: ks) (v :: vs) ((tk, tv) :: trs) := fun pins s σ H Q I h =>
  pairTrees_cons_walk (thn (hk pins s σ H _ I h) fun u s1 ⟨x, H1, I1, rx, q1⟩ => thn (hv pins s1 σ H1 _ I1 q1) fun w2 s2 ⟨y, H2, I2, ry, q2⟩ =>
    thn (hr pins s2 σ H2 _ I2 q2) fun ws s3 ⟨ps, H3, I3, rel, q3⟩ => ⟨(x, y) :: ps, H3, I3, .cons ⟨rx, ry⟩ rel, q3⟩)

def mergeK (kvs more : List (Key × V)) : List (Key × V) := more.foldl (fun acc kv => putK acc kv.1 kv.2) kvs
theorem KV.merge : ∀ {more : List (Key × V)} {rs : List (Key × Value)} {kvs : List (Key × V)} {vs : List (Key × Value)}, KV more rs → KV kvs vs → KV (mergeK kvs more) (merged vs rs) := by
  intro more rs kvs vs r
  unfold KV at r
  induction r generalizing kvs vs with
  | nil => intro q; exact q
  | @cons p q ps qs h t ih =>
    intro r0
    have e : KV (putK kvs p.1 p.2) (stored vs q.1 q.2) := by
      have := r0.put p.1 h.2
      rw [← h.1]; exact this
    exact ih e
theorem length_mergeK : ∀ (more kvs : List (Key × V)), (mergeK kvs more).length ≤ kvs.length + more.length
  | [], kvs => by show kvs.length ≤ kvs.length + 0; omega
  | p :: r, kvs => by
    have h1 := length_mergeK r (putK kvs p.1 p.2)
    have h2 := length_putK kvs p.1 p.2
    show (mergeK (putK kvs p.1 p.2) r).length ≤ _
    rw [List.length_cons]; omega
theorem carries_of {P : Program} {w : World} : ∀ {kvs : List (Key × V)} {ws : List (Value × Value)}, VV (kvs.map fun kv => (kV kv.1, kv.2)) ws → ∃ rs, Carries (mixKind P w) ws rs ∧ KV kvs rs
  | [], _, r => by rw [List.map_nil] at r; cases r; exact ⟨[], True.intro, .nil⟩
  | p :: kvs, _, r => by
    rw [List.map_cons] at r
    cases r with
    | @cons a b as bs h t =>
      obtain ⟨rs, c, q⟩ := carries_of (P := P) (w := w) t
      obtain ⟨b1, b2⟩ := b
      exact ⟨(p.1, b2) :: rs, ⟨kV_is h.1, rfl, c⟩, .cons ⟨rfl, h.2⟩ q⟩
/-- {k: v, ..} with keys ints and texts; the new dict stands empty while the pairs are made -/
def tDisp (trs : List (TE × TE)) : TE := fun σ H Q => ∀ p, H p = none → tPairs trs σ (upd H p (.dK [])) fun ps H2 => H2 p = some (.dK []) ∧ ∃ kvs : List (Key × V), ps = kvs.map (fun kv => (kV kv.1, kv.2)) ∧ kvs.length ≤ 15 ∧ Q (.ref p) (upd H2 p (.dK (mergeK [] kvs)))
theorem pe_disp {X : Cx} {pos : Pos} {keys : List (Option Expr)} {values : List Expr} {trs : List (TE × TE)} (h : PPs X pos keys values trs) (hall : keys.all (·.isSome) = true) (hl : keys.length = values.length) (h0 : keys ≠ [])
    (h15 : keys.length ≤ 15) : PE X (.Dict keys values pos) (tDisp trs) := by
  intro pins s σ H Q I q
  have hn := I.hok.fresh (Nat.le_refl s.heap.objs.size)
  have I1 := I.laid (a := s.heap.objs.size) (o := .dK []) (h' := s.heap.push { cls := .type "dict", data := .dict #[] }) (t' := s.toks) (fun _ _ q => Heap.get?_push_of_some _ q) (Nat.le_refl _) (dk_empty s.heap I.big)
  refine wpAny_Dict_walk (knd := mixKind X.prog X.w) hall hl h0 h15 (thn (h pins _ σ _ _ I1 (q _ hn)) fun ws s2 ⟨ps, H2, I2, rel, e, kvs, ep, lk, q2⟩ => ?_)
  subst ep
  obtain ⟨rs, c, rk⟩ := carries_of (P := X.prog) (w := X.w) rel
  obtain ⟨z, hd, vs0, r0, dd⟩ := dk_of I2.hok e
  cases r0
  refine ⟨rs, c, dd, fun h' dd' hs => ⟨.ref s.heap.objs.size, _, ?_, rfl, q2⟩⟩
  have hz : (mergeK [] kvs).length ≤ sizeLine := by
    have h1 := length_mergeK kvs []
    rw [List.length_nil] at h1
    rw [sizeLine_eq]; omega
  have he : ∃ q, h'.get? s.heap.objs.size = some q := let ⟨q, _, _, hq, _⟩ := dd'; ⟨q, hq⟩
  exact d_write I2 (by rw [e]; exact True.intro) hs he (dk_new hz hd (rk.merge .nil) dd')

/-! ### methods -/
/-- a method call o.m(e) of a built-in, with one argument: what must be seen of the text -/
structure M1 (X : Cx) (o : Expr) (m : Str) (apos : Pos) (e : Expr) (cpos : Pos) : Prop where
  base : attributeBase o m X.env (eval o X.env) = eval o X.env
  few : ((backTo cpos (starEach [e] X.env)).all (fun x => !x.1) && (backToKw cpos (keywordEach [] X.env)).all (fun x => x.1.isSome)
    && decide (([e] : List Expr).length + ([] : List Keyword).length + (if ([] : List Keyword).isEmpty then 0 else 1) < 30)) = true
  line : (apos.endLine == cpos.line) = true
  trees : backTo cpos (starEach [e] X.env) = [(false, eval e X.env)]
structure M2 (X : Cx) (o : Expr) (m : Str) (apos : Pos) (e f : Expr) (cpos : Pos) : Prop where
  base : attributeBase o m X.env (eval o X.env) = eval o X.env
  few : ((backTo cpos (starEach [e, f] X.env)).all (fun x => !x.1) && (backToKw cpos (keywordEach [] X.env)).all (fun x => x.1.isSome)
    && decide (([e, f] : List Expr).length + ([] : List Keyword).length + (if ([] : List Keyword).isEmpty then 0 else 1) < 30)) = true
  line : (apos.endLine == cpos.line) = true
  trees : backTo cpos (starEach [e, f] X.env) = [(false, eval e X.env), (false, eval f X.env)]

/-- a is a dict, whatever its keys -/
def IsD (H : Hp) (a : Addr) : Prop := (∃ kvs, Rd H a (.dK kvs)) ∨ ∃ kvs, Rd H a (.dT kvs)
theorem isD_at {X : Cx} {pins : List (Addr × Obj)} {σ : St} {H : Hp} {s : Shared} {a : Addr} (I : Inv X pins σ H s) (d : IsD H a) :
    s.TypeIs (.ref a) "dict" ∧ (∀ b, Value.ref a = .ref b → ∃ ob, s.heap.get? b = some ob ∧ ob.dict = none) ∧ (a == sysModules) = false := by
  rcases d with ⟨kvs, e⟩ | ⟨kvs, e⟩
  · obtain ⟨_, hd, vs, _, dd⟩ := dk_rd I.hok e
    refine ⟨dd.typeIs, fun b q => ?_, hd⟩
    cases q
    obtain ⟨ob, _, _, h1, h2, _⟩ := dd
    exact ⟨ob, h1, h2.2.1⟩
  · obtain ⟨_, hd, xs, _, dd⟩ := dt_rd I.hok e
    refine ⟨dd.typeIs, fun b q => ?_, hd⟩
    cases q
    obtain ⟨ob, _, _, h1, h2, _⟩ := dd
    exact ⟨ob, h1, h2.2.1⟩

section
variable {X : Cx} {pins : List (Addr × Obj)} {σ : St} {H : Hp} {s : Shared} {a : Addr} {y d : V} {u r : Value} {o : Option V} {A : Around} {E : Value → Shared → Prop}
/-- d.get(y) -/
theorem d_get1 {Q : Value → Shared → Prop} (hu : A.units + 1 < cLine) (I : Inv X pins σ H s) (g : DGet H a y o) (ry : RelV y u) (h : ∀ w' s', Inv X pins σ H s' → RelV (o.getD .non) w' → Q w' s') :
    wpAny (model X.prog X.w) A (call (.builtin "dict.get") [.ref a, u]) Q E s := by
  rcases g with ⟨kvs, k, e, ey, l⟩ | ⟨kvs, k, b, e, ey, eb, l⟩
  · subst ey
    obtain ⟨z, hd, vs, rel, dd⟩ := dk_rd I.hok e
    refine call_meetsIn PySem.F.slot_dict_get dd.typeIs PySem.F.entry_dict_get (PySem.F.args_dict_get_2 _ _) (meets_dict_get (mixKind X.prog X.w) a (kV_is ry) hd) ⟨_, dd.mapOf, h _ _ (I.tok _) ?_⟩
    rw [l]
    exact (rel.val k).getD rfl
  · subst ey
    cases (show u = Value.ref b from ry)
    obtain ⟨z, hd, xs, rel, dd⟩ := dt_rd I.hok e
    refine call_meetsIn PySem.F.slot_dict_get dd.typeIs PySem.F.entry_dict_get (PySem.F.args_dict_get_2 _ _) (meetsH_dict_get (tupleKind (mixKind X.prog X.w)) a b hd) ⟨tupleKind_room_in1 hu, k, xs, key_of I.hok eb, dd, h _ _ (I.tok _) ?_⟩
    rw [l]
    exact (rel.val k).getD rfl
/-- d.get(y, x) -/
theorem d_get2 {Q : Value → Shared → Prop} (hu : A.units + 1 < cLine) (I : Inv X pins σ H s) (g : DGet H a y o) (ry : RelV y u) (rd : RelV d r) (h : ∀ w' s', Inv X pins σ H s' → RelV (o.getD d) w' → Q w' s') :
    wpAny (model X.prog X.w) A (call (.builtin "dict.get") [.ref a, u, r]) Q E s := by
  rcases g with ⟨kvs, k, e, ey, l⟩ | ⟨kvs, k, b, e, ey, eb, l⟩
  · subst ey
    obtain ⟨z, hd, vs, rel, dd⟩ := dk_rd I.hok e
    refine call_meetsIn PySem.F.slot_dict_get dd.typeIs PySem.F.entry_dict_get (PySem.F.args_dict_get_3 _ _ _) (meets_dict_get_default (mixKind X.prog X.w) a (kV_is ry) hd r) ⟨_, dd.mapOf, h _ _ (I.tok _) ?_⟩
    rw [l]
    exact (rel.val k).getD rd
  · subst ey
    cases (show u = Value.ref b from ry)
    obtain ⟨z, hd, xs, rel, dd⟩ := dt_rd I.hok e
    refine call_meetsIn PySem.F.slot_dict_get dd.typeIs PySem.F.entry_dict_get (PySem.F.args_dict_get_3 _ _ _) (meetsH_dict_get_default (tupleKind (mixKind X.prog X.w)) a b hd r) ⟨tupleKind_room_in1 hu, k, xs, key_of I.hok eb, dd, h _ _ (I.tok _) ?_⟩
    rw [l]
    exact (rel.val k).getD rd
end

def tDGet1 (td ty : TE) : TE := fun σ H Q => td σ H fun x H1 => ∃ a, x = .ref a ∧ IsD H1 a ∧ ty σ H1 fun y H2 => ∃ o, DGet H2 a y o ∧ Q (o.getD .non) H2
def tDGet2 (td ty tx : TE) : TE := fun σ H Q => td σ H fun x H1 => ∃ a, x = .ref a ∧ IsD H1 a ∧ ty σ H1 fun y H2 => tx σ H2 fun z H3 => ∃ o, DGet H3 a y o ∧ Q (o.getD z) H3
/-- d.pop(k): there; d.pop(k, x): there or not -/
def tDPop1 (td ty : TE) : TE := fun σ H Q => td σ H fun x H1 => ∃ a, x = .ref a ∧ IsD H1 a ∧ ty σ H1 fun y H2 => ∃ kvs k v, H2 a = some (.dK kvs) ∧ y = kV k ∧ valV kvs k = some v ∧ Q v (upd H2 a (.dK (dropK kvs k)))
def tDPop2 (td ty tx : TE) : TE := fun σ H Q => td σ H fun x H1 => ∃ a, x = .ref a ∧ IsD H1 a ∧ ty σ H1 fun y H2 => tx σ H2 fun z H3 => ∃ kvs k, H3 a = some (.dK kvs) ∧ y = kV k ∧
  (∀ v, valV kvs k = some v → Q v (upd H3 a (.dK (dropK kvs k)))) ∧ (valV kvs k = none → Q z H3)
section
variable {X : Cx} {o e f : Expr} {apos cpos : Pos} {td ty tx : TE}
theorem pe_dget1 (hu : X.A.units + 1 < cLine) (ho : PE X o td) (he : PE X e ty) (m : M1 X o "get" apos e cpos) : PE X (.Call (.Attribute o "get" apos) [e] [] cpos) (tDGet1 td ty) := by
  intro pins s σ H Q I h
  refine wpAny_Call_method m.base m.few m.line PySem.F.plainAttrs_dict PySem.F.slot_dict_get PySem.F.type_dict_get (thn (ho pins s σ H _ I h) fun u s1 ⟨x, H1, I1, rx, a, ex, d, q1⟩ => ?_)
  subst ex
  obtain rfl : u = Value.ref a := rx
  obtain ⟨t1, t2, _⟩ := isD_at I1 d
  refine ⟨t1, t2, ?_⟩
  rw [m.trees]
  refine Calls.callWith_builtin rfl (Calls.evalArgs_plain (Calls.spliced_cons (thn (he pins s1 σ H1 _ I1 q1) fun iv s2 ⟨y, H2, I2, ry, ov, g, q2⟩ => Calls.spliced_nil ?_)))
  exact d_get1 hu I2 g ry fun w' s3 I3 rw' => ⟨_, H2, I3, rw', q2⟩
theorem pe_dget2 (hu : X.A.units + 1 < cLine) (ho : PE X o td) (he : PE X e ty) (hf : PE X f tx) (m : M2 X o "get" apos e f cpos) : PE X (.Call (.Attribute o "get" apos) [e, f] [] cpos) (tDGet2 td ty tx) := by
  intro pins s σ H Q I h
  refine wpAny_Call_method m.base m.few m.line PySem.F.plainAttrs_dict PySem.F.slot_dict_get PySem.F.type_dict_get (thn (ho pins s σ H _ I h) fun u s1 ⟨x, H1, I1, rx, a, ex, d, q1⟩ => ?_)
  subst ex
  obtain rfl : u = Value.ref a := rx
  obtain ⟨t1, t2, _⟩ := isD_at I1 d
  refine ⟨t1, t2, ?_⟩
  rw [m.trees]
  refine Calls.callWith_builtin rfl (Calls.evalArgs_plain (Calls.spliced_cons (thn (he pins s1 σ H1 _ I1 q1) fun iv s2 ⟨y, H2, I2, ry, q2⟩ =>
    Calls.spliced_cons (thn (hf pins s2 σ H2 _ I2 q2) fun fv s3 ⟨z, H3, I3, rz, ov, g, q3⟩ => Calls.spliced_nil ?_))))
  exact d_get2 hu I3 g ry rz fun w' s4 I4 rw' => ⟨_, H3, I4, rw', q3⟩
theorem pe_dpop1 (ho : PE X o td) (he : PE X e ty) (m : M1 X o "pop" apos e cpos) : PE X (.Call (.Attribute o "pop" apos) [e] [] cpos) (tDPop1 td ty) := by
  intro pins s σ H Q I h
  refine wpAny_Call_method m.base m.few m.line PySem.F.plainAttrs_dict PySem.F.slot_dict_pop PySem.F.type_dict_pop (thn (ho pins s σ H _ I h) fun u s1 ⟨x, H1, I1, rx, a, ex, d, q1⟩ => ?_)
  subst ex
  obtain rfl : u = Value.ref a := rx
  obtain ⟨t1, t2, _⟩ := isD_at I1 d
  refine ⟨t1, t2, ?_⟩
  rw [m.trees]
  refine Calls.callWith_builtin rfl (Calls.evalArgs_plain (Calls.spliced_cons (thn (he pins s1 σ H1 _ I1 q1) fun iv s2 ⟨y, H2, I2, ry, kvs, k, v, ea, ey, l, q2⟩ => Calls.spliced_nil ?_)))
  subst ey
  exact d_pop I2 ea ry l (.inl rfl) fun w' s3 I3 rw' => ⟨v, _, I3, rw', q2⟩
theorem pe_dpop2 (ho : PE X o td) (he : PE X e ty) (hf : PE X f tx) (m : M2 X o "pop" apos e f cpos) : PE X (.Call (.Attribute o "pop" apos) [e, f] [] cpos) (tDPop2 td ty tx) := by
  intro pins s σ H Q I h
  refine wpAny_Call_method m.base m.few m.line PySem.F.plainAttrs_dict PySem.F.slot_dict_pop PySem.F.type_dict_pop (thn (ho pins s σ H _ I h) fun u s1 ⟨x, H1, I1, rx, a, ex, d, q1⟩ => ?_)
  subst ex
  obtain rfl : u = Value.ref a := rx
  obtain ⟨t1, t2, _⟩ := isD_at I1 d
  refine ⟨t1, t2, ?_⟩
  rw [m.trees]
  refine Calls.callWith_builtin rfl (Calls.evalArgs_plain (Calls.spliced_cons (thn (he pins s1 σ H1 _ I1 q1) fun iv s2 ⟨y, H2, I2, ry, q2⟩ =>
    Calls.spliced_cons (thn (hf pins s2 σ H2 _ I2 q2) fun fv s3 ⟨z, H3, I3, rz, kvs, k, ea, ey, q3, q4⟩ => Calls.spliced_nil ?_))))
  subst ey
  cases l : valV kvs k with
  | some v => exact d_pop I3 ea ry l (.inr ⟨fv, rfl⟩) fun w' s4 I4 rw' => ⟨v, _, I4, rw', q3 v l⟩
  | none => exact d_popD I3 ea ry l fun s4 I4 => ⟨z, H3, I4, rz, q4 l⟩
end

/-! ### dict(d): a copy -/
section
variable {X : Cx} {pins : List (Addr × Obj)} {σ : St} {H : Hp} {s : Shared} {a : Addr} {kvs : List (Key × V)} {A : Around} {E : Value → Shared → Prop}
theorem d_copyOf {Q : Value → Shared → Prop} (I : Inv X pins σ H s) (e : Rd H a (.dK kvs)) (h : ∀ p s', H p = none → Inv X pins σ (upd H p (.dK kvs)) s' → Q (.ref p) s') : wpAny (model X.prog X.w) A (call (.type "dict") [.ref a]) Q E s := by
  obtain ⟨z, hd, vs, rel, dd⟩ := dk_rd I.hok e
  refine kt_call_dict hd dd (by rw [← rel.length]; exact z) fun h' dd' hs => ?_
  refine h _ _ (I.hok.fresh (Nat.le_refl _)) (I.laid (a := s.heap.objs.size) (o := .dK kvs) (t' := s.toks) (fun b q hq => ?_) (Nat.le_refl _) (dk_new z (beq_eq_false_iff_ne.mpr (Ne.symm (Nat.ne_of_lt I.big))) rel dd'))
  exact (hs.2 b (Nat.ne_of_lt (Heap.lt_size hq))).trans (Heap.get?_push_of_some _ hq)
end

section
variable {X : Cx} {pins : List (Addr × Obj)} {σ : St} {H : Hp} {s : Shared} {a : Addr} {y : V} {u : Value} {A : Around} {E : Value → Shared → Prop}
/-- d[y], not there: a KeyError -/
theorem d_missing {Q : Value → Shared → Prop} (hu : A.units + 1 < cLine) (hh : A.handled = none) (I : Inv X pins σ H s) (g : DGet H a y none) (ry : RelV y u)
    (h : ∀ h' e t', Heap.NewExc s.heap h' e "KeyError" → E (.ref e) { s with heap := h', toks := t' }) : wpAny (model X.prog X.w) A (getItem (.ref a) u) Q E s := by
  rcases g with ⟨kvs, k, e, ey, l⟩ | ⟨kvs, k, b, e, ey, eb, l⟩
  · subst ey
    obtain ⟨z, hd, vs, rel, dd⟩ := dk_rd I.hok e
    have hn : valueAt vs k = none := RelO.none_of (by rw [l]; exact rel.val k)
    exact wpAny_getItem_missing_of (kV_is ry) hd hh dd.mapOf hn fun h' ex ne => h h' ex _ ne
  · subst ey
    cases (show u = Value.ref b from ry)
    obtain ⟨z, hd, xs, rel, dd⟩ := dt_rd I.hok e
    have hn : (atKey xs k).map (·.2) = none := RelO.none_of (by rw [l]; exact rel.val k)
    exact wpAny_getItem_missing_heap (tupleKind_room_in1 hu) (key_of I.hok eb) hd hh dd (Option.map_eq_none_iff.mp hn) fun h' ex ne => h h' ex _ ne
end
end L2

namespace Att
open PySem PySem.W PySem.Calls PyProof.Rows

/-! ### the script -/
theorem ints_of_wellAll {P : Params} {h : Heap} : ∀ (ns : List Int) (vs : List Value), WellAll P h vs (ns.map WData.int) → IntsAre vs ns := by
  intro ns
  induction ns with
  | nil =>
    intro vs w
    rw [List.map_nil] at w
    cases w
    exact .nil
  | cons n ns ih =>
    intro vs w
    rw [List.map_cons] at w
    cases w with
    | cons a b =>
      cases a
      exact .cons _ _ (ih _ b)

theorem script_of {l : OpenLaw} {n : Nat} (hn : l.most = some n) {P : Params} {h : Heap} {args : List WData} {vals : List Value}
    (hpre : l.row.toRowW.claim.pre args = true) (hwl : WellAll P h vals args) :
    ∃ a vs ns, vals = [Value.ref a] ∧ args = [WData.list (ns.map WData.int)] ∧ h.get? a = some { cls := .type "list", data := .seq vs.toArray } ∧ IntsAre vs ns ∧ ns.length ≤ n := by
  have hsh : WShape.hasAll [] args [.list .int] = true := (pre_splitW hpre).1
  have hc : l.pre.holds [] { args := args } = true := (pre_splitW hpre).2
  obtain ⟨d, r, rfl, h1, h2⟩ := hasAllW_cons hsh
  obtain rfl := hasAllW_nil h2
  obtain ⟨xs, rfl, h3⟩ := hasW_list h1
  obtain ⟨ns, rfl⟩ := items_int h3
  have hlen : ns.length ≤ n := by
    unfold OpenLaw.pre at hc
    have h4 : (WTm.not (.lt (.lit (.int (n : Int))) (.len (.arg 0)))).holds [] { args := [.list (ns.map .int)] } = true := by
      have h4 := (holds_andW hc).1
      rw [hn] at h4
      exact h4
    have h5 := condW_of h4 (w_not (w_lt w_lit (w_len_list (w_arg rfl))))
    rw [List.length_map] at h5
    refine Nat.le_of_not_lt fun q => ?_
    have q' : (n : Int) < ((ns.length : Nat) : Int) := by omega
    first
      | (rw [decide_eq_true q'] at h5; exact absurd h5 (by decide))
      | (simp at h5; omega)
  cases hwl with
  | cons w1 w2 =>
    cases w2
    cases w1 with
    | list ho hall => exact ⟨_, _, ns, rfl, rfl, ho, ints_of_wellAll ns _ hall, hlen⟩

theorem post_true (l : OpenLaw) (args : List WData) : l.row.toRowW.claim.post args (.bool true) args = true :=
  postW_of (r := l.row.toRowW) (X := (true == true))
    (show WShape.has [] (.bool true) .bool = true by first | rfl | decide | simp [WShape.has, WShape.arms, WShape.armsAll])
    (show (WTm.eq .res (.lit (.bool true))).value [] { args := args, res := some (.bool true), after := args } = some (.bool (true == true)) from w_eq_bool (w_res rfl) w_lit) rfl

/-! ### the attachment: holds_open's last premise (the goal 'hc' behind k_head) from a wpAny of the law's body -/
theorem attach {l : OpenLaw} {n : Nat} {q : Program} {loose : List Str} {XP : (Str → Option Value) → Heap → Prop} {YP : World → Heap → Prop} {d : DefRec} {x : Str}
    (hn : l.most = some n) (hdf : d.params.defaults = [])
    (hbind : ∀ pm cd doc v : Value, bindArgs (docDef d.name d.params d.body d.scope pm cd doc) ⟨[v], []⟩ = pure [(x, v)])
    (hx : d.scope.names.lookup x = some .local ∨ d.scope.names.lookup x = some .cell)
    (hk : d.scope.kind = .function) (hco : d.scope.isCoroutine = false) (hgen : d.scope.isGenerator = false)
    (body : ∀ (w : World) (s₀ s₁ s : Shared) (mg mb : Str → Option Value) (fa : Addr) (o : Obj) (pm cd doc : Value) (a : Addr) (vs : List Value) (ns : List Int),
      Ground q loose [] XP w s₀ mg mb s₁.heap → YP w s₁.heap →
      s₁.heap.get? fa = some o → o.data = .func (docDef d.name d.params d.body d.scope pm cd doc) → s₁.heap.CodeRec cd d.name → mg d.name = some (.ref fa) →
      s₁.heap.get? a = some { cls := .type "list", data := .seq vs.toArray } → IntsAre vs ns → ns.length ≤ n →
      s.gens = #[] → s.os = s₁.os →
      Fr s₁.heap s₁.heap.objs.size s.heap (bindL (envOfC d.name d.scope s₁.heap.objs.size fa cd).kindOf [(x, .ref a)] fun _ => none) →
      Cl s₁.heap.objs.size (cellsFrom (s₁.heap.objs.size + 1) d.scope.names []) s.heap (bindC (envOfC d.name d.scope s₁.heap.objs.size fa cd).kindOf [(x, .ref a)] fun _ => none) →
      wpAny (model l.prog w) (callerA.deeper (envOfC d.name d.scope s₁.heap.objs.size fa cd)) (execs d.body (envOfC d.name d.scope s₁.heap.objs.size fa cd))
        (fun f s' => f = .ret (.bool true) ∧ OldK s₁.heap s'.heap ∧ s'.os = s₁.os ∧ AllBare s'.gens) (fun _ _ => False) s) :
    WalkO q loose XP YP l.row.toRowW d [] (fun f vs => PySem.call f vs) := by
  intro w s₀ s₁ mg mb G Y fa o pm cd doc dV kV ho hd hcd hD hmg hg args vals as hpre hlay hrd hwl hlo
  obtain rfl : dV = .none := Dflts.none hD hdf
  obtain rfl : kV = .none := Dflts.noKw hD
  obtain ⟨a, vs, ns, rfl, rfl, hobj, hints, hlen⟩ := script_of hn hpre hwl
  refine enter_call ?_
  refine call_cells_ret (o := o) (by rw [depth_caller]; decide) ho (fd_plain hd) G.T.nolimit hcd (hbind pm cd doc (.ref a)) (fun y hy => ?_) (fun h₁ tk F X => ?_) hco hgen hk
  · obtain rfl : y = (x, Value.ref a) := List.mem_singleton.mp hy
    rcases hx with e | e
    · exact .inl e
    · exact .inr ⟨e, cellsFrom_some _ _ _ (.inl e)⟩
  · refine wpAny_mono (body w s₀ s₁ { s₁ with heap := h₁, toks := tk } mg mb fa o pm cd doc a vs ns G Y ho (fd_plain hd) hcd hmg hobj hints hlen hg rfl F X) (fun f s' hq => ?_) (fun _ _ hq => hq)
    obtain ⟨rfl, h2, h3, h4⟩ := hq
    exact ⟨.inl ⟨.bool true, .bool true, [], rfl, fun _ => rfl, .bool true, post_true l _, fun _ => ⟨List.Pairwise.nil, fun _ hm => (nomatch hm)⟩⟩, h2, h3, h4⟩

/-- the same from a codeAny of the CALL (for a layer whose function contracts speak of calls) -/
theorem attach_call {l : OpenLaw} {n : Nat} {q : Program} {loose : List Str} {XP : (Str → Option Value) → Heap → Prop} {YP : World → Heap → Prop} {d : DefRec}
    (hn : l.most = some n) (hdf : d.params.defaults = [])
    (call : ∀ (w : World) (s₀ s₁ : Shared) (mg mb : Str → Option Value) (fa : Addr) (o : Obj) (pm cd doc : Value) (a : Addr) (vs : List Value) (ns : List Int),
      Ground q loose [] XP w s₀ mg mb s₁.heap → YP w s₁.heap →
      s₁.heap.get? fa = some o → o.data = .func (docDef d.name d.params d.body d.scope pm cd doc) → s₁.heap.CodeRec cd d.name → mg d.name = some (.ref fa) →
      s₁.heap.get? a = some { cls := .type "list", data := .seq vs.toArray } → IntsAre vs ns → ns.length ≤ n → s₁.gens = #[] →
      codeAny (model l.prog w) callerA (.call (.ref fa) ⟨[.ref a], []⟩) (fun r s' => r = .ok (.ret (.bool true)) ∧ OldK s₁.heap s'.heap ∧ s'.os = s₁.os ∧ AllBare s'.gens) s₁) :
    WalkO q loose XP YP l.row.toRowW d [] (fun f vs => PySem.call f vs) := by
  intro w s₀ s₁ mg mb G Y fa o pm cd doc dV kV ho hd hcd hD hmg hg args vals as hpre hlay hrd hwl hlo
  obtain rfl : dV = .none := Dflts.none hD hdf
  obtain rfl : kV = .none := Dflts.noKw hD
  obtain ⟨a, vs, ns, rfl, rfl, hobj, hints, hlen⟩ := script_of hn hpre hwl
  refine enter_call (codeAny_mono (call w s₀ s₁ mg mb fa o pm cd doc a vs ns G Y ho (fd_plain hd) hcd hmg hobj hints hlen hg) fun r s' hq => ?_)
  obtain ⟨rfl, h2, h3, h4⟩ := hq
  exact ⟨.inl ⟨.bool true, .bool true, [], rfl, fun _ => rfl, .bool true, post_true l _, fun _ => ⟨List.Pairwise.nil, fun _ hm => (nomatch hm)⟩⟩, h2, h3, h4⟩

/-- the same where the top left finished generators (o_head chose holds_openN): nothing may have changed at all and no generator may be left -/
theorem attachN {l : OpenLaw} {n : Nat} {q : Program} {loose : List Str} {XP : (Str → Option Value) → Heap → Prop} {YP : World → Heap → Prop} {d : DefRec} {x : Str}
    (hn : l.most = some n) (hdf : d.params.defaults = [])
    (hbind : ∀ pm cd doc v : Value, bindArgs (docDef d.name d.params d.body d.scope pm cd doc) ⟨[v], []⟩ = pure [(x, v)])
    (hx : d.scope.names.lookup x = some .local ∨ d.scope.names.lookup x = some .cell)
    (hk : d.scope.kind = .function) (hco : d.scope.isCoroutine = false) (hgen : d.scope.isGenerator = false)
    (body : ∀ (w : World) (s₀ s₁ s : Shared) (mg mb : Str → Option Value) (fa : Addr) (o : Obj) (pm cd doc : Value) (a : Addr) (vs : List Value) (ns : List Int),
      Ground q loose [] XP w s₀ mg mb s₁.heap → YP w s₁.heap →
      s₁.heap.get? fa = some o → o.data = .func (docDef d.name d.params d.body d.scope pm cd doc) → s₁.heap.CodeRec cd d.name → mg d.name = some (.ref fa) →
      s₁.heap.get? a = some { cls := .type "list", data := .seq vs.toArray } → IntsAre vs ns → ns.length ≤ n →
      s.gens = #[] → s.os = s₁.os →
      Fr s₁.heap s₁.heap.objs.size s.heap (bindL (envOfC d.name d.scope s₁.heap.objs.size fa cd).kindOf [(x, .ref a)] fun _ => none) →
      Cl s₁.heap.objs.size (cellsFrom (s₁.heap.objs.size + 1) d.scope.names []) s.heap (bindC (envOfC d.name d.scope s₁.heap.objs.size fa cd).kindOf [(x, .ref a)] fun _ => none) →
      wpAny (model l.prog w) (callerA.deeper (envOfC d.name d.scope s₁.heap.objs.size fa cd)) (execs d.body (envOfC d.name d.scope s₁.heap.objs.size fa cd))
        (fun f s' => f = .ret (.bool true) ∧ (∀ b o, s₁.heap.get? b = some o → s'.heap.get? b = some o) ∧ s'.os = s₁.os ∧ s'.gens = #[]) (fun _ _ => False) s) :
    WalkN q loose XP YP l.row.toRowW d [] (fun f vs => PySem.call f vs) := by
  intro w s₀ s₁ mg mb G Y fa o pm cd doc dV kV ho hd hcd hD hmg hg args vals as hpre hlay hrd hwl hlo
  obtain rfl : dV = .none := Dflts.none hD hdf
  obtain rfl : kV = .none := Dflts.noKw hD
  obtain ⟨a, vs, ns, rfl, rfl, hobj, hints, hlen⟩ := script_of hn hpre hwl
  refine enter_callW ?_
  refine call_cells_ret (o := o) (by rw [depth_caller]; decide) ho (fd_plain hd) G.T.nolimit hcd (hbind pm cd doc (.ref a)) (fun y hy => ?_) (fun h₁ tk F X => ?_) hco hgen hk
  · obtain rfl : y = (x, Value.ref a) := List.mem_singleton.mp hy
    rcases hx with e | e
    · exact .inl e
    · exact .inr ⟨e, cellsFrom_some _ _ _ (.inl e)⟩
  · refine wpAny_mono (body w s₀ s₁ { s₁ with heap := h₁, toks := tk } mg mb fa o pm cd doc a vs ns G Y ho (fd_plain hd) hcd hmg hobj hints hlen hg rfl F X) (fun f s' hq => ?_) (fun _ _ hq => hq)
    obtain ⟨rfl, h2, h3, h4⟩ := hq
    exact ⟨.inl ⟨.bool true, .bool true, [], rfl, fun _ => rfl, .bool true, post_true l _, fun _ => ⟨List.Pairwise.nil, fun _ hm => (nomatch hm)⟩⟩, h2, h3, h4⟩

/-! ### rules over ANY heap (no ledger) from facts about the written part K: the library's own take a ledger (News) for what they write -/
section
variable {prog : Program} {w : World} {A : Around} {E : Value → Shared → Prop} {s : Shared} {K : Frag}

/-- a def of the module, or a method (qual 'C.m'), entered: the frame is the next address; cells behind it -/
theorem call_fn {R : Result → Shared → Prop} {name qual : Str} {params : Arguments} {body : List Stmt} {scope : Scope} {dV kV doc pm cdv ct oc : Value} {an od : Option Addr} {osl : Array (Option Value)} {f : Addr} {args : Args} {binds : List (Str × Value)}
    (X : K.In s.heap) (hlim : s.heap.NoLimit) (ho : K.lookup f = some ⟨oc, od, .func (fnOf name qual params body scope dV kV doc pm an cdv ct), osl⟩) (hcd : codeIn K cdv qual = true) (hroom : A.depth < recursionLimit)
    (hbind : BindsTo s (fnOf name qual params body scope dV kV doc pm an cdv ct) args binds)
    (hkind : (binds.all fun y => scope.names.lookup y.1 == some .local || scope.names.lookup y.1 == some .cell) = true)
    (h : ∀ s₁, InCallC s s.heap.objs.size (bindL (envOfC qual scope s.heap.objs.size f cdv).kindOf binds fun _ => none) (cellsFrom (s.heap.objs.size + 1) scope.names [])
        (bindC (envOfC qual scope s.heap.objs.size f cdv).kindOf binds fun _ => none) s₁ →
      wpAny (model prog w) (A.deeper (envOfC qual scope s.heap.objs.size f cdv)) (execs body (envOfC qual scope s.heap.objs.size f cdv))
        (fun fl s' => R (.ok (.ret (match fl with | .ret v => v | _ => .none))) s')
        (fun e s' => wpAny (model prog w) (A.deeper (envOfC qual scope s.heap.objs.size f cdv)) (leaving (envOfC qual scope s.heap.objs.size f cdv) e) (fun _ s'' => R (.error e) s'') (fun e' s'' => R (.error e') s'') s') s₁)
    (hco : scope.isCoroutine = false) (hgen : scope.isGenerator = false) (hk : scope.kind = .function) : codeAny (model prog w) A (.call (.ref f) args) R s := by
  refine codeAny_call_function hroom (X _ _ ho) rfl hco hgen rfl (codeRec_of X hcd) (hbind _ _ _ _ ?_)
  refine wpAny_newFunctionEnv_cells hk (kindsX hkind _) fun env he s₁ x => ?_
  subst he
  exact ⟨hlim.keeps x.toInCall.keep, codeAny_func (h s₁ x)⟩

/-- C(..): dict at size, instance at size + 1, then __init__ -/
theorem make_obj {R : Result → Shared → Prop} {C fI : Addr} {rest : List Value} {kw : List (Str × Value)}
    (X : K.In s.heap) (hm : makesIn K C = true) (hi : findIn K (.ref C) "__init__" = some (some (.ref fI))) (hf : isFn K (.ref fI) = true)
    (h : codeAny (model prog w) (A.under (.builtin "type.__call__" ⟨.ref C :: rest, kw⟩)) (.call (.ref fI) ⟨.ref (s.heap.objs.size + 1) :: rest, kw⟩) (InitBack (s.heap.objs.size + 1) R)
      { s with heap := (s.heap.push emptyDict).push (instObj C s.heap.objs.size) }) : codeAny (model prog w) A (.call (.ref C) ⟨rest, kw⟩) R s := by
  obtain ⟨hh, g, d, t, os⟩ := s
  exact make_core (makes_of X hm) (looks_findIn X hi) (fun self => bind_fn X self (beq_iff_eq.mp hf)) (.inl rfl) h

/-- x.name where the instance's dict holds the name and the class does not -/
theorem get_field {x C : Addr} {ox : Obj} {es : List DictEntry} {n : Nat} {name : Str} {expr : Bool} {v : Value} {Q : Value → Shared → Prop}
    (X : K.In s.heap) (I : PySem.W.InstAt s.heap x ox C (some (dictOf es n))) (hg : plainGet K C name = true) (hh : hasDictIn K C = true) (ha : findIn K (.ref C) name = some none)
    (hl : getL name es = some (some v)) (hv : handedIn v = true) (h : Q v { s with toks := s.toks + 1 }) : wpAny (model prog w) A (getAttr (.ref x) name expr) Q E s :=
  get_value X I (plainGet_of hg).1 (findObj_own hh ha rfl hl) hv h

/-- x.m(..): the method found in the class -/
theorem get_method {x C f : Addr} {ox : Obj} {es : List DictEntry} {n : Nat} {name : Str} {pl : Sem Bool} {Q : Value × List Value → Shared → Prop}
    (X : K.In s.heap) (I : PySem.W.InstAt s.heap x ox C (some (dictOf es n))) (hg : plainGet K C name = true) (hf : findIn K (.ref C) name = some (some (.ref f))) (ht : isFn K (.ref f) = true)
    (hl : getL name es = some none) (h : Q (.ref f, [.ref x]) s) : wpAny (model prog w) A (getMethod (.ref x) name pl) Q E s :=
  method_fn X I (plainGet_of hg).1 (plainGet_of hg).2 hf (beq_iff_eq.mp ht) (by show (lookIn name (dictOf es n)).map _ = _; rw [lookIn_dict, hl]; rfl) h

/-! the whole heap as the ledger: makes every rule that writes through a ledger a rule over any heap -/
def noObjs (h : Heap) : Heap := { h with objs := #[] }
theorem noObjs_get (h : Heap) (b : Addr) : (noObjs h).get? b = none := by
  cases e : (noObjs h).get? b with
  | none => rfl
  | some o => exact absurd (Heap.lt_size e) (Nat.not_lt_zero _)
def ledger (h : Heap) (L d : Addr) : List (Addr × Obj) := (List.range h.objs.size).filterMap fun a => if a = L ∨ a = d then none else (h.get? a).map fun o => (a, o)
theorem mem_ledger {h : Heap} {L d a : Addr} {o : Obj} : (a, o) ∈ ledger h L d ↔ a ≠ L ∧ a ≠ d ∧ h.get? a = some o := by
  unfold ledger
  rw [List.mem_filterMap]
  constructor
  · rintro ⟨b, _, e⟩
    split at e
    · cases e
    · rename_i hb
      obtain ⟨o', ho, e'⟩ := Option.map_eq_some_iff.mp e
      cases e'
      exact ⟨fun q => hb (.inl q), fun q => hb (.inr q), ho⟩
  · rintro ⟨n1, n2, ho⟩
    refine ⟨a, List.mem_range.mpr (Heap.lt_size ho), ?_⟩
    rw [if_neg (show ¬ (a = L ∨ a = d) from fun q => q.elim n1 n2), ho] <;> rfl
theorem news_ledger {h : Heap} {L d : Addr} {od : Obj} (hne : d ≠ L) (ho : h.get? d = some od) : News (noObjs h) L h ([] ++ (d, od) :: ledger h L d) := by
  rintro ⟨a, o⟩ hp
  rcases List.mem_cons.mp hp with e | hp
  · cases e
    exact ⟨ho, hne, noObjs_get _ _⟩
  · obtain ⟨n1, n2, e⟩ := mem_ledger.mp hp
    exact ⟨e, n1, noObjs_get _ _⟩
theorem fr_all {h : Heap} {L : Addr} {m : Str → Option Value} (n : h.Ns L m) : Fr (noObjs h) L h m :=
  ⟨n, fun b o e => (by rw [noObjs_get] at e; cases e), Nat.zero_le _⟩
/-- Upd of the head entry (for append_K, setItem_K ..) -/
theorem upd_ledger {h : Heap} {L d : Addr} {o o' : Obj} : Upd d o o' ((d, o) :: ledger h L d) ((d, o') :: ledger h L d) :=
  .head fun ⟨_, _⟩ hp => (mem_ledger.mp hp).2.1

/-- x.name = v over any heap: L is any namespace of the heap (the frame's, say): its map stays, its object is not told; all else but the dict stays -/
theorem set_field {x C dx L : Addr} {ox : Obj} {m : Str → Option Value} {es es' : List DictEntry} {n n' : Nat} {name : Str} {v : Value} {Q : Unit → Shared → Prop}
    (X : K.In s.heap) (I : PySem.W.InstAt s.heap x ox C (some (dictOf es n))) (hd : ox.dict = some dx) (hL : s.heap.Ns L m) (hne : dx ≠ L)
    (hs : findIn K (.ref C) "__setattr__" = some (some (.builtin "object.__setattr__"))) (hp : plainOver K C = true) (ht : takerIn K C name = some none) (hh : hasDictIn K C = true) (hl : (getL name es).isSome = true)
    (e : (putL name (PyData.keyHash w.params name) (.str name (s.toks + 1)) v es, putN name es n) = (es', n')) (hz : es'.length ≤ 1000)
    (h : ∀ h' : Heap, h'.Ns L m → h'.get? dx = some (dictOf es' n') → (∀ b o, b ≠ dx → b ≠ L → s.heap.get? b = some o → h'.get? b = some o) → Q () { s with heap := h', toks := s.toks + 2 }) :
    wpAny (model prog w) A (setAttr (.ref x) name v) Q E s := by
  obtain ⟨e1, e2⟩ := Prod.mk.inj e
  have hdx : s.heap.get? dx = some (dictOf es n) := by
    have := I.dict
    rw [hd] at this
    exact this
  refine set_plain X I hs (osa_dict (s := { s with toks := s.toks + 1 }) (h₀ := noObjs s.heap) (L := L) (m := m) (od := dictOf es n) (od' := dictOf es' n') (es := es') (n := n') (pre := []) (post := ledger s.heap L dx)
    (fr_all hL) (news_ledger hne hdx) X I hd hp ht hh hl (fun _ q => nomatch q) (fun ⟨_, _⟩ q => (mem_ledger.mp q).2.1) (by rw [putName_dict, e1, e2]) rfl hz fun h' F' N' => ?_)
  exact h h' F'.ns (N'.get (List.Mem.head _)) fun b o n1 n2 ho => N'.get (List.Mem.tail _ (mem_ledger.mpr ⟨n2, n1, ho⟩))
end
end Att

namespace L2
open PySem PySem.Spec PyProof.Rows

theorem vals_ints : ∀ {vs : List Value} {ns : List Int}, IntsAre vs ns → Vals (ns.map V.int) vs
  | _, _, .nil => .nil
  | _, _, .cons n t h => .cons ⟨t, rfl⟩ (vals_ints h)

/-- nothing is tracked but the script, known to the object (or it is an object of the module) -/
def Only (H : Hp) : Prop := ∀ b, H b = none ∨ ∃ o xs, H b = some (.frz o (.lst xs))

/-- THE HEAD: the law's promise, at the heap behind the top. F, the promise of the law's def, may use that base is part of the heap (so K.In base, base.Ns mainGlobals mg stand in Mod) -/
theorem law_call {P : Program} {w : World} {K : PySem.W.Frag} {mg mb : Str → Option Value} {CX : CXT} {k : Nat} {fa a : Addr} {fd : FuncData} {x : Str} {sp : Sp} {s₁ : Shared} {vs : List Value} {ns : List Int}
    (KX : K.In s₁.heap) (hns : s₁.heap.Ns mainGlobals mg) (hb : s₁.heap.Ns builtinsNs mb) (hbb : ∀ x : Str, x ≠ "__name__" → mb x = bootBuiltins x) (hlim : s₁.heap.NoLimit) (hg : s₁.gens = #[])
    (ha : s₁.heap.get? a = some { cls := .type "list", data := .seq vs.toArray }) (hi : IntsAre vs ns) (hl : ns.length ≤ sizeLine) (hr : Room k callerA)
    (F : ∀ base : Heap, K.In base → base.Ns mainGlobals mg → FnOk P w K mg base CX k fa fd [x] sp) (hbind : ∀ (s : Shared) (u : Value), BindsTo s fd ⟨[u], []⟩ [(x, u)])
    (hsp : ∀ H : Hp, Only H → SqL K H a (ns.map V.int) → sp [.ref a] H (fun v _ => v = .bl true) fun _ _ _ => False)
    (hCX : ∀ H e s', CX [] H s₁ (fun _ _ _ => False) e s' → False) :
    codeAny (model P w) callerA (.call (.ref fa) ⟨[.ref a], []⟩) (fun r s' => r = .ok (.ret (.bool true)) ∧ OldK s₁.heap s'.heap ∧ s'.os = s₁.os ∧ AllBare s'.gens) s₁ := by
  have rv := vals_ints hi
  have lenV := hi.length
  -- from an abstract heap in which nothing but the script may be tracked
  have core : ∀ H : Hp, Only H → SqL K H a (ns.map V.int) → HOk P w H s₁.heap → (∀ b, H b ≠ none → b = a) → (H a ≠ none → K.lookup a = none) →
      codeAny (model P w) callerA (.call (.ref fa) ⟨[.ref a], []⟩) (fun r s' => r = .ok (.ret (.bool true)) ∧ OldK s₁.heap s'.heap ∧ s'.os = s₁.os ∧ AllBare s'.gens) s₁ := by
    intro H hO hS hok hA hK
    have base_of : ∀ {b : Addr} {o : Obj}, s₁.heap.get? b = some o → H b = none → (hidT s₁.heap H).get? b = some o := fun e n => hidT_get e n
    have noA : ∀ {b : Addr} {o : Obj} {es : Array DictEntry} {ep : Nat}, s₁.heap.get? b = some o → o.data = .dict es ep → H b = none := fun {b o es ep} e d => by
      cases q : H b with
      | none => rfl
      | some u =>
        have e' : b = a := hA b (by rw [q]; simp)
        subst e'
        rw [ha] at e; cases e
        have d' : Data.seq vs.toArray _ = Data.dict es ep := d
        cases d'
    have nsK : ∀ {b : Addr} {m : Str → Option Value}, s₁.heap.Ns b m → (hidT s₁.heap H).Ns b m := fun {b m} ⟨o, es, ep, e, d, r⟩ => ⟨o, es, ep, base_of e (noA e d), d, r⟩
    have hKb : K.In (hidT s₁.heap H) := fun b o e => base_of (KX b o e) (by
      cases q : H b with
      | none => rfl
      | some u =>
        have e' : b = a := hA b (by rw [q]; simp)
        subst e'
        rw [hK (by rw [q]; simp)] at e; cases e)
    have hM : Mod K mg (hidT s₁.heap H) := ⟨hKb, nsK hns, ⟨mb, nsK hb, hbb⟩, let ⟨mc, h1, h2⟩ := hlim; ⟨mc, nsK h1, h2⟩⟩
    have e0 : Env0 P w K mg (hidT s₁.heap H) callerA [] s₁ H := ⟨rfl, hM, fun b o e => of_hidT e, Nat.le_of_eq (hidT_size _ _), trivial, fun b hb => absurd (show b ∈ ([] : List Addr) from hb) (by simp), hok, .of_eq hg⟩
    refine codeAny_mono ((F _ hKb (nsK hns)).run callerA [] s₁ H ⟨[.ref a], []⟩ [.ref a] [.ref a] _ _ hr e0 (hbind s₁ (.ref a)) (.cons rfl .nil) (hsp H hO hS)) fun r s' h => ?_
    cases r with
    | error e => exact (hCX H e s' h).elim
    | ok fl =>
      cases fl with
      | next => exact False.elim h
      | brk => exact False.elim h
      | cont => exact False.elim h
      | ret u =>
        obtain ⟨v, H', os, bare, un, hok', r', q⟩ := h
        have q' : v = .bl true := q
        subst q'
        obtain rfl : u = Value.bool true := r'
        refine ⟨rfl, OldK.of_keep fun b o e => ?_, os, bare⟩
        cases q : H b with
        | none => exact un.keep b o e q (by intro z; exact absurd (show b ∈ ([] : List Addr) from z) (by simp)) (by simp)
        | some u =>
          rcases hO b with z | ⟨ob, xs, z⟩
          · rw [q] at z; cases z
          · have z2 := un.frzs b ob _ z
            obtain ⟨e1, _⟩ := hok b _ z
            obtain ⟨e2, _⟩ := hok' b _ z2
            rw [e] at e1; cases e1
            exact e2
  cases hk : K.lookup a with
  | some o =>
    -- the script is one of the module's own objects
    have e := KX a o hk
    rw [ha] at e
    cases e
    refine core (fun _ => none) (fun _ => .inl rfl) (.inr ⟨_, vs.toArray, _, hk, rfl, rfl, rfl, by rw [List.size_toArray, lenV]; exact hl, by simpa using rv⟩) (fun b u z => by have z' : (none : Option HO) = some u := z; cases z') (fun b z => absurd rfl z) fun z => absurd rfl z
  | none =>
    refine core (fun b => if b = a then some (.frz { cls := .type "list", data := .seq vs.toArray } (.lst (ns.map V.int))) else none) (fun b => ?_) (.inl (.inr ⟨{ cls := .type "list", data := .seq vs.toArray }, if_pos rfl⟩)) (fun b u z => ?_) (fun b z => ?_) fun _ => hk
    · by_cases hb : b = a
      · exact .inr ⟨_, _, if_pos hb⟩
      · exact .inl (if_neg hb)
    · by_cases hb : b = a
      · have z' := (if_pos hb).symm.trans z
        cases z'
        subst hb
        exact ⟨ha, by rw [List.length_map]; exact hl, vs, _, rv, ha⟩
      · have z' := (if_neg hb).symm.trans z
        cases z'
    · by_cases hb : b = a
      · exact hb
      · exact absurd (if_neg hb) z
end L2

namespace L2
open PySem PySem.Spec PyProof.Rows

abbrev KOf {K : PySem.W.Frag} {h : Heap} (_ : K.In h) : PySem.W.Frag := K

/-- the goal that k_head leaves (case hc), from the law's promise. F gives the function object fd (K's own) once, then the promise over every base -/
theorem walk_of {l : PySem.W.OpenLaw} {n k : Nat} {q : Program} {loose : List Str} {XP : (Str → Option Value) → Heap → Prop} {YP : World → Heap → Prop} {d : DefRec} {K : Params → PySem.W.Frag} {CX : World → CXT} {sp : World → Sp} {x : Str}
    (hn : l.most = some n) (hn2 : n ≤ sizeLine) (hdf : d.params.defaults = []) (hr : Room k callerA)
    (hY : ∀ (w : World) (h : Heap), YP w h → (K w.params).In h)
    (F : ∀ (w : World) (mg : Str → Option Value) (fa : Addr) (h : Heap), (K w.params).In h → h.Ns mainGlobals mg → mg d.name = some (.ref fa) →
      ∃ fd : FuncData, (∀ (s : Shared) (u : Value), BindsTo s fd ⟨[u], []⟩ [(x, u)]) ∧
        ∀ base : Heap, (K w.params).In base → base.Ns mainGlobals mg → FnOk l.prog w (K w.params) mg base (CX w) k fa fd [x] (sp w))
    (hsp : ∀ (w : World) (H : Hp) (a : Addr) (ns : List Int), ns.length ≤ n → Only H → SqL (K w.params) H a (ns.map V.int) → sp w [.ref a] H (fun v _ => v = .bl true) fun _ _ _ => False)
    (hCX : ∀ (w : World) (H : Hp) (s : Shared) (e : Value) (s' : Shared), CX w [] H s (fun _ _ _ => False) e s' → False) :
    PySem.W.WalkO q loose XP YP l.row.toRowW d [] (fun f vs => PySem.call f vs) := by
  refine Att.attach_call hn hdf fun w s₀ s₁ mg mb fa o pm cd doc a vs ns G Y ho hd hcd hmg hobj hints hlen hg => ?_
  have KX := hY w _ Y
  obtain ⟨fd, hb, hF⟩ := F w mg fa _ KX G.T.g hmg
  exact law_call KX G.T.g G.T.b G.T.builtins G.T.nolimit hg hobj hints (Nat.le_trans hlen hn2) hr hF hb (fun H hO hS => hsp w H a ns hlen hO hS) fun H e s' => hCX w H s₁ e s'
/-- the same where the promise hangs on the written part alone: (sp := My.sp_law), no hole under a binder -/
theorem walk_ofK {l : PySem.W.OpenLaw} {n k : Nat} {q : Program} {loose : List Str} {XP : (Str → Option Value) → Heap → Prop} {YP : World → Heap → Prop} {d : DefRec} {K : Params → PySem.W.Frag} {CX : CXT} {sp : PySem.W.Frag → Sp} {x : Str}
    (hn : l.most = some n) (hn2 : n ≤ sizeLine) (hdf : d.params.defaults = []) (hr : Room k callerA)
    (hY : ∀ (w : World) (h : Heap), YP w h → (K w.params).In h)
    (F : ∀ (w : World) (mg : Str → Option Value) (fa : Addr) (h : Heap), (K w.params).In h → h.Ns mainGlobals mg → mg d.name = some (.ref fa) →
      ∃ fd : FuncData, (∀ (s : Shared) (u : Value), BindsTo s fd ⟨[u], []⟩ [(x, u)]) ∧
        ∀ base : Heap, (K w.params).In base → base.Ns mainGlobals mg → FnOk l.prog w (K w.params) mg base CX k fa fd [x] (sp (K w.params)))
    (hsp : ∀ (K : PySem.W.Frag) (H : Hp) (a : Addr) (ns : List Int), ns.length ≤ n → Only H → SqL K H a (ns.map V.int) → sp K [.ref a] H (fun v _ => v = .bl true) fun _ _ _ => False)
    (hCX : ∀ (H : Hp) (s : Shared) (e : Value) (s' : Shared), CX [] H s (fun _ _ _ => False) e s' → False) :
    PySem.W.WalkO q loose XP YP l.row.toRowW d [] (fun f vs => PySem.call f vs) :=
  walk_of (K := K) (CX := fun _ => CX) (sp := fun w => sp (K w.params)) hn hn2 hdf hr hY F (fun w H a ns h1 h2 h3 => hsp (K w.params) H a ns h1 h2 h3) fun _ H s e s' => hCX H s e s'
end L2

/- THE LAST THEOREM (shape; LID, My.* are yours):
   My.Adr: a structure of the addresses that your layer names (classes, functions); My.Txt K t: a structure (Prop) of the equations over K;
   My.txt_mk : {K} {implicit addresses ..} (e1 : nsIn K mainGlobals "law" = some (some (.ref f))) (e2 : K.lookup f = some ⟨oc, od, .func (fnOf "law" "law" params body scope dV kV doc pm an cdv ct), sl⟩) (e3 : codeIn K cdv "law" = true) .. : ∃ t, My.Txt K t

set_option maxRecDepth 100000 in
set_option maxHeartbeats 0 in
theorem PySem.Challenge.cw_LID_holds : PySem.Challenge.rw_LID.Holds := by
  w_on; o_law; k_head; (case hw => w_witness2)
  k_fill
  refine L2.walk_of (l := PySem.Challenge.rw_LID) (n := 63) (k := 40) (x := "script") (CX := fun w => ..) (sp := fun _ => My.sp_law) rfl (by decide) rfl ⟨rfl, by decide, by decide⟩ (fun w h Y => PySem.W.kIn_of Y) ?F ?S ?C
  case F =>
    intro w mg fa h KX G hmg
    have T : ∃ t, My.Txt (L2.KOf KX) t := by
      dsimp only [L2.KOf]                          -- K must stand as «<heap const> w.params» for k_is
      refine' My.txt_mk ?e1 ?e2 ?e3 ..
      (case e1 => PySem.W.k_is)                    -- in the order: a name -> its address -> its object -> its parts
      (case e2 => PySem.W.k_is)
      ..
    obtain ⟨t, T⟩ := T
    have e0 := hmg.symm.trans (PySem.W.mg_of KX G T.law)
    cases e0                                       -- fa is the law's own address
    exact ⟨_, fun s u => .of_eq rfl, fun base kb nb => My.law_fn T kb nb⟩     -- if «.of_eq rfl» comes too early: refine' ⟨_, ?b, fun base kb nb => My.law_fn T kb nb⟩; exact fun s u => .of_eq rfl
  case S => exact fun w H a ns hl hO hS => ..
  case C => exact ..
(the tactic k_is has no namespace: write k_is) -/

/-! SHORT WORDS over the layer: a def of the text, its body, what a loop and a test want. -/
namespace L2
open PySem PySem.Spec PyProof.Rows

/-! ### the text by places -/
/-- the j-th statement of a class's body -/
def inClass (s : Stmt) (j : Nat) : Stmt := match s with
  | .ClassDef _ _ _ body _ _ _ _ _ _ _ => body.getD j (.Pass ⟨0, 0, 0, 0⟩)
  | _ => .Pass ⟨0, 0, 0, 0⟩
def defArgs (s : Stmt) : Arguments := match s with
  | .FunctionDef _ a _ _ _ _ _ _ _ _ => a
  | _ => { posonlyargs := [], args := [], vararg := none, kwonlyargs := [], kw_defaults := [], kwarg := none, defaults := [] }
def defBody (s : Stmt) : List Stmt := match s with
  | .FunctionDef _ _ b _ _ _ _ _ _ _ => b
  | _ => []
def defScope (s : Stmt) : Scope := match s with
  | .FunctionDef _ _ _ _ _ _ sc _ _ _ => sc
  | _ => { kind := .function, names := [], isGenerator := false, isCoroutine := false }

/-! ### no exception leaves a def -/
abbrev CX0 : CXT := fun _ _ _ _ _ _ => False
abbrev E0 : XK := fun _ _ _ => False
theorem pass0 {X : Cx} : Passes CX0 X E0 := fun _ _ _ _ _ _ _ h => h.elim

/-! ### a def (or method) of the text as it stands behind the top -/
structure Fun (K : PySem.W.Frag) (x qual : Str) (st : Stmt) (f : Addr) (fd : FuncData) : Prop where
  ex : ∃ (oc : Value) (od : Option Addr) (kV doc pm : Value) (an : Option Addr) (cdv ct : Value) (osl : Array (Option Value)),
    fd = PySem.W.fnOf x qual (defArgs st) (defBody st) (defScope st) .none kV doc pm an cdv ct ∧ K.lookup f = some ⟨oc, od, .func fd, osl⟩ ∧ PySem.W.codeIn K cdv qual = true
  kp : PySem.W.keepIn K (.ref f) = true
section
variable {P : Program} {w : World} {K : PySem.W.Frag} {mg : Str → Option Value} {base : Heap}
/-- THE RULE for a def: its body as a term of rules, and the reading of that term -/
theorem Fun.ok {x qual : Str} {st : Stmt} {f : Addr} {fd : FuncData} {N ps : List Str} {k : Nat} {sp : Sp} (F : Fun K x qual st f fd) (S : FnScope N ps (defScope st)) (len : ∀ vs H Q E, sp vs H Q E → vs.length = ps.length)
    (hbody : ∀ (cdv : Value) (A : Around) (outer : List Env) (s : Shared) (H : Hp) (vs : List V) (Q : VK) (E : XK), Room k (A.deeper (envOfC qual (defScope st) s.heap.objs.size f cdv)) → sp vs H Q E →
      ∃ t, PSs (cxOf CX0 P w K mg base N qual (defScope st) f cdv A outer s H E).nox (defBody st) t ∧ t { nx := fun _ H' => Q .non H', rt := Q } (start N vs) H) : FnOk P w K mg base CX0 (k + 1) f fd ps sp := by
  obtain ⟨oc, od, kV, doc, pm, an, cdv, ct, osl, rfl, lk, hcd⟩ := F.ex
  refine fn_of lk hcd S len fun A outer s H vs Q E hr hsp => ?_
  obtain ⟨t, h, q⟩ := hbody cdv A outer s H vs Q E hr hsp
  exact ⟨t, h.nox, q⟩
/-- how its arguments bind (no defaults): h is «fun _ _ _ _ _ _ us hl => match us, hl with | [_, _], _ => rfl», one _ a parameter -/
theorem Fun.binds {x qual : Str} {st : Stmt} {f : Addr} {fd : FuncData} {ps : List Str} (F : Fun K x qual st f fd)
    (h : ∀ (kV doc pm : Value) (an : Option Addr) (cdv ct : Value) (us : List Value), us.length = ps.length → bindArgs (PySem.W.fnOf x qual (defArgs st) (defBody st) (defScope st) .none kV doc pm an cdv ct) ⟨us, []⟩ = pure (ps.zip us)) : Binds K fd ps [] := by
  obtain ⟨oc, od, kV, doc, pm, an, cdv, ct, osl, rfl, lk, hcd⟩ := F.ex
  exact .all (h kV doc pm an cdv ct)
theorem fun_mk {x qual : Str} {st : Stmt} {f : Addr} {oc : Value} {od an : Option Addr} {osl : Array (Option Value)} {kV doc pm cdv ct : Value} (l : K.lookup f = some ⟨oc, od, .func (PySem.W.fnOf x qual (defArgs st) (defBody st) (defScope st) .none kV doc pm an cdv ct), osl⟩)
    (c : PySem.W.codeIn K cdv qual = true) (k : PySem.W.keepIn K (.ref f) = true) : Fun K x qual st f (PySem.W.fnOf x qual (defArgs st) (defBody st) (defScope st) .none kV doc pm an cdv ct) := ⟨⟨oc, od, kV, doc, pm, an, cdv, ct, osl, rfl, l, c⟩, k⟩
end
theorem hu_of {A : Around} {k : Nat} (hr : Room k A) : A.units + 1 < cLine := Nat.lt_of_le_of_lt (Nat.add_le_add_left (by decide : 1 ≤ 64) _) hr.units
theorem small1000 {n : Nat} (h : n ≤ 1000) : n < sizeLine := Nat.lt_of_le_of_lt h (by decide)

/-! ### expressions in short: the name that stands in the i-th slot -/
section
variable {X : Cx}
theorem pv (i : Nat) {x : Str} {pos : Pos} (hN : X.N[i]? = some x := by rfl) (hv : Vis X.env.scope x := by first | exact Or.inl rfl | exact Or.inr (Or.inl rfl) | exact Or.inr (Or.inr rfl)) (hd : (x == ("__debug__" : Str)) = false := by decide)
    (hcd : (x == ("__classdict__" : Str)) = false := by decide) : PE X (.Name x pos) (tVar i) := pe_var hN hv hd hcd
end

/-! ### tests -/
theorem iteF {A B : Prop} (h : B) : if false = true then A else B := by
  rw [if_neg Bool.false_ne_true]
  exact h
theorem iteT {A B : Prop} (h : A) : if true = true then A else B := by
  rw [if_pos rfl]
  exact h
theorem ite2 {c A B : Prop} [Decidable c] (h1 : c → A) (h2 : ¬ c → B) : if c then A else B := by
  by_cases h : c
  · rw [if_pos h]
    exact h1 h
  · rw [if_neg h]
    exact h2 h
theorem iteNS {c A B : Prop} [Decidable c] (hc : c) (h : B) : if (!decide c) = true then A else B := by
  rw [decide_eq_true hc]
  exact iteF h

/-! ### heaps -/
/-- all that was tracked is as it was -/
def Same (H H' : Hp) : Prop := ∀ b o, H b = some o → H' b = some o
theorem Same.refl (H : Hp) : Same H H := fun _ _ h => h
theorem Same.trans {H H1 H2 : Hp} (a : Same H H1) (b : Same H1 H2) : Same H H2 := fun c o h => b c o (a c o h)
theorem Same.free {H H' : Hp} (e : Same H H') {l : Addr} (h : H' l = Option.none) : H l = Option.none := by
  cases q : H l with
  | none => rfl
  | some o =>
    rw [e l o q] at h
    cases h
theorem Same.seq {K : PySem.W.Frag} {H H' : Hp} {a : Addr} {xs : List V} (e : Same H H') (h : SqL K H a xs) : SqL K H' a xs := by
  rcases h with (h | ⟨o, h⟩) | h
  · exact .inl (.inl (e _ _ h))
  · exact .inl (.inr ⟨o, e _ _ h⟩)
  · exact .inr h

/-! ### a dict's pairs: keys that differ -/
section
variable {κ : Type} [DecidableEq κ]
theorem valV_not {kvs : List (κ × V)} {k : κ} (h : valV kvs k = none) : ¬ k ∈ kvs.map (·.1) := by
  intro m
  obtain ⟨p, hp, e⟩ := List.mem_map.mp m
  have q : (kvs.any fun kv => decide (kv.1 = k)) = true := List.any_eq_true.mpr ⟨p, hp, decide_eq_true e⟩
  rw [valV_any, h] at q
  exact absurd q (by simp)
theorem valV_in {kvs : List (κ × V)} {k : κ} {v : V} (h : valV kvs k = some v) : k ∈ kvs.map (·.1) := by
  have q : (kvs.any fun kv => decide (kv.1 = k)) = true := by
    rw [valV_any, h]
    all_goals rfl
  obtain ⟨p, hp, e⟩ := List.any_eq_true.mp q
  exact List.mem_map.mpr ⟨p, hp, of_decide_eq_true e⟩
theorem nd_snoc : ∀ {l : List κ} {k : κ}, l.Nodup → ¬ k ∈ l → (l ++ [k]).Nodup
  | [], k, _, _ => by simp
  | a :: r, k, h, hk => by
    obtain ⟨h1, h2⟩ := List.nodup_cons.mp h
    show (a :: (r ++ [k])).Nodup
    refine List.nodup_cons.mpr ⟨fun m => ?_, nd_snoc h2 fun m => hk (List.mem_cons.mpr (Or.inr m))⟩
    rcases List.mem_append.mp m with q | q
    · exact h1 q
    · exact hk (List.mem_cons.mpr (Or.inl (List.mem_singleton.mp q).symm))
theorem nd_putK {kvs : List (κ × V)} {k : κ} (v : V) (hn : (kvs.map (·.1)).Nodup) (h : valV kvs k = none) : ((putK kvs k v).map (·.1)).Nodup := by
  rw [putK_new v h, List.map_append]
  exact nd_snoc hn (valV_not h)
theorem dropK_pos {p : κ × V} {r : List (κ × V)} {k : κ} (e : p.1 = k) : dropK (p :: r) k = dropK r k := by
  unfold dropK
  rw [List.filter_cons, if_neg (by simp [e])]
theorem dropK_neg {p : κ × V} {r : List (κ × V)} {k : κ} (e : ¬ p.1 = k) : dropK (p :: r) k = p :: dropK r k := by
  unfold dropK
  rw [List.filter_cons, if_pos (by simp [e])]
theorem dropK_no : ∀ {kvs : List (κ × V)} {k : κ}, ¬ k ∈ kvs.map (·.1) → dropK kvs k = kvs
  | [], _, _ => rfl
  | p :: r, k, h => by
    have h' : ¬ k ∈ r.map (·.1) := fun m => by
      obtain ⟨q, hq, e⟩ := List.mem_map.mp m
      exact h (List.mem_map.mpr ⟨q, List.mem_cons.mpr (Or.inr hq), e⟩)
    rw [dropK_neg fun e => h (List.mem_map.mpr ⟨p, List.mem_cons.mpr (Or.inl rfl), e⟩), dropK_no h']
theorem dropK_mem {kvs : List (κ × V)} {k : κ} {p : κ × V} (h : p ∈ dropK kvs k) : p ∈ kvs := (List.mem_filter.mp h).1
theorem nd_dropK : ∀ {kvs : List (κ × V)} {k : κ}, (kvs.map (·.1)).Nodup → ((dropK kvs k).map (·.1)).Nodup
  | [], _, _ => List.nodup_nil
  | p :: r, k, h => by
    have h : (p.1 :: r.map (·.1)).Nodup := h
    obtain ⟨h1, h2⟩ := List.nodup_cons.mp h
    by_cases e : p.1 = k
    · rw [dropK_pos e]
      exact nd_dropK h2
    · rw [dropK_neg e]
      show (p.1 :: (dropK r k).map (·.1)).Nodup
      refine List.nodup_cons.mpr ⟨fun m => h1 ?_, nd_dropK h2⟩
      obtain ⟨q, hq, eq⟩ := List.mem_map.mp m
      exact List.mem_map.mpr ⟨q, dropK_mem hq, eq⟩
theorem dropK_len : ∀ {kvs : List (κ × V)} {k : κ}, (kvs.map (·.1)).Nodup → k ∈ kvs.map (·.1) → (dropK kvs k).length + 1 = kvs.length
  | [], _, _, m => by simp at m
  | p :: r, k, h, m => by
    have h : (p.1 :: r.map (·.1)).Nodup := h
    have m : k = p.1 ∨ k ∈ r.map (·.1) := List.mem_cons.mp m
    obtain ⟨h1, h2⟩ := List.nodup_cons.mp h
    by_cases e : p.1 = k
    · subst e
      rw [dropK_pos rfl, dropK_no h1]
      all_goals rfl
    · have m' : k ∈ r.map (·.1) := m.resolve_left fun z => e z.symm
      have q := dropK_len h2 m'
      rw [dropK_neg e, List.length_cons, List.length_cons]
      omega
end
end L2

set_option maxHeartbeats 4000000
namespace L2
open PySem PySem.Spec PyProof.Rows

/-! ### data that lies in the abstract heap -/
mutual
inductive Rep (H : Hp) : V → PyData → Prop
  | non : Rep H .non .none
  | bl (b : Bool) : Rep H (.bl b) (.bool b)
  | int (i : Int) : Rep H (.int i) (.int i)
  | str (x : Str) : Rep H (.str x) (.str x)
  | lst {a : Addr} {xs : List V} {ds : List PyData} : H a = some (.lst xs) → Reps H xs ds → Rep H (.ref a) (.list ds)
  | tup {a : Addr} {xs : List V} {ds : List PyData} : H a = some (.tup xs) → Reps H xs ds → Rep H (.ref a) (.tuple ds)
inductive Reps (H : Hp) : List V → List PyData → Prop
  | nil : Reps H [] []
  | cons {v : V} {d : PyData} {vs : List V} {ds : List PyData} : Rep H v d → Reps H vs ds → Reps H (v :: vs) (d :: ds)
end

mutual
theorem Rep.same {H H' : Hp} (e : Same H H') : ∀ {v : V} {d : PyData}, Rep H v d → Rep H' v d
  | _, _, .non => .non
  | _, _, .bl b => .bl b
  | _, _, .int i => .int i
  | _, _, .str x => .str x
  | _, _, .lst h r => .lst (e _ _ h) (Reps.same e r)
  | _, _, .tup h r => .tup (e _ _ h) (Reps.same e r)
theorem Reps.same {H H' : Hp} (e : Same H H') : ∀ {vs : List V} {ds : List PyData}, Reps H vs ds → Reps H' vs ds
  | _, _, .nil => .nil
  | _, _, .cons r t => .cons (Rep.same e r) (Reps.same e t)
end
theorem Reps.length {H : Hp} : ∀ {vs : List V} {ds : List PyData}, Reps H vs ds → vs.length = ds.length
  | _, _, .nil => rfl
  | _, _, .cons _ t => congrArg (· + 1) (Reps.length t)
theorem Reps.append {H : Hp} : ∀ {vs ws : List V} {ds es : List PyData}, Reps H vs ds → Reps H ws es → Reps H (vs ++ ws) (ds ++ es)
  | _, _, _, _, .nil, t => t
  | _, _, _, _, .cons r t, u => .cons r (Reps.append t u)
theorem Reps.get {H : Hp} : ∀ {vs : List V} {ds : List PyData} {i : Nat} {d : PyData}, Reps H vs ds → ds[i]? = some d → ∃ v, vs[i]? = some v ∧ Rep H v d
  | _, _, _, _, .nil, e => by simp at e
  | _, _, 0, _, .cons r _, e => by simp at e; subst e; exact ⟨_, rfl, r⟩
  | _, _, i + 1, d, .cons _ t, e => by
    obtain ⟨v, h1, h2⟩ := Reps.get (i := i) (d := d) t (by simpa using e)
    exact ⟨v, by simpa using h1, h2⟩
/-- split off the last one -/
theorem Reps.snoc_inv {H : Hp} {vs : List V} {ds : List PyData} {d : PyData} (r : Reps H vs (ds ++ [d])) : ∃ ws v, vs = ws ++ [v] ∧ Reps H ws ds ∧ Rep H v d := by
  induction ds generalizing vs with
  | nil =>
    cases r with
    | cons h t => cases t; exact ⟨[], _, rfl, .nil, h⟩
  | cons c ds ih =>
    cases r with
    | cons h t =>
      obtain ⟨ws, v, e, h1, h2⟩ := ih t
      exact ⟨_ :: ws, v, by rw [e]; rfl, .cons h h1, h2⟩

section
variable {X : Cx} {pins : List (Addr × Obj)} {σ : St} {H : Hp} {s : Shared}
mutual
theorem Rep.reads (I : Inv X pins σ H s) : ∀ {v : V} {d : PyData} {u : Value}, Rep H v d → RelV v u → ∃ as, Reads s.heap u d as
  | _, _, u, .non, r => by cases (show u = Value.none from r); exact ⟨_, .none⟩
  | _, _, u, .bl b, r => by cases (show u = Value.bool b from r); exact ⟨_, .bool b⟩
  | _, _, u, .int i, r => by obtain ⟨t, e⟩ := (show ∃ t, u = Value.int i t from r); subst e; exact ⟨_, .int i t⟩
  | _, _, u, .str x, r => by obtain ⟨t, e⟩ := (show ∃ t, u = Value.str x t from r); subst e; exact ⟨_, .str x t⟩
  | _, _, u, .lst (a := a) (xs := xs) h q, r => by
    cases (show u = Value.ref a from r)
    obtain ⟨z, its, n, rv, e⟩ := (show ObjOk X.prog X.w H s.heap a (.lst xs) from I.hok a _ h)
    obtain ⟨as, k⟩ := Reps.readsAll I q rv
    exact ⟨_, .list e rfl rfl (by simpa using k)⟩
  | _, _, u, .tup (a := a) (xs := xs) h q, r => by
    cases (show u = Value.ref a from r)
    obtain ⟨z, its, rv, o, e, c, n, dd⟩ := (show ObjOk X.prog X.w H s.heap a (.tup xs) from I.hok a _ h)
    obtain ⟨as, k⟩ := Reps.readsAll I q rv
    exact ⟨_, .tuple e c dd (by simpa using k)⟩
theorem Reps.readsAll (I : Inv X pins σ H s) : ∀ {vs : List V} {ds : List PyData} {us : List Value}, Reps H vs ds → Vals vs us → ∃ as, ReadsAll s.heap us ds as
  | _, _, _, .nil, .nil => ⟨_, .nil⟩
  | _, _, _, .cons r t, .cons h k => by
    obtain ⟨as, e⟩ := Rep.reads I r h
    obtain ⟨bs, f⟩ := Reps.readsAll I t k
    exact ⟨_, .cons e f⟩
end

/-- == and != of data; in, not in of a list of data -/
def rEqD : R2 := fun x y H Q => ∃ d e, Rep H x d ∧ Rep H y e ∧ SeqAt.shaped d = true ∧ SeqAt.shaped e = true ∧ Q (.bl (PyData.eqv d e)) H
def rNeD : R2 := fun x y H Q => ∃ d e, Rep H x d ∧ Rep H y e ∧ SeqAt.shaped d = true ∧ SeqAt.shaped e = true ∧ Q (.bl (!PyData.eqv d e)) H
theorem op_eqD (hu : X.A.units + 64 < cLine) : OpR X (compareOp .Eq) rEqD := by
  intro pins s σ H x y u v Q I rx ry h
  obtain ⟨d, e, h1, h2, h3, h4, q⟩ := h
  obtain ⟨as, k1⟩ := h1.reads I rx
  obtain ⟨bs, k2⟩ := h2.reads I ry
  exact eq_dataH k1 k2 h3 h4 hu ⟨.bl _, H, I, rfl, q⟩
theorem op_neD (hu : X.A.units + 64 < cLine) : OpR X (compareOp .NotEq) rNeD := by
  intro pins s σ H x y u v Q I rx ry h
  obtain ⟨d, e, h1, h2, h3, h4, q⟩ := h
  obtain ⟨as, k1⟩ := h1.reads I rx
  obtain ⟨bs, k2⟩ := h2.reads I ry
  exact ne_dataH k1 k2 h3 h4 hu ⟨.bl _, H, I, rfl, q⟩
def rInD (neg : Bool) : R2 := fun x y H Q => ∃ d es, Rep H x d ∧ Rep H y (.list es) ∧ d.canLay0 = true ∧ PyData.canLayAll0 es = true ∧ d.depth ≤ 60 ∧
  Q (.bl (if neg then !(es.any fun z => PyData.eqv z d) else es.any fun z => PyData.eqv z d)) H
theorem op_inD (hu : X.A.units + 64 < cLine) : OpR X (compareOp .In) (rInD false) := by
  intro pins s σ H x y u v Q I rx ry h
  obtain ⟨d, es, h1, h2, h3, h4, h5, q⟩ := h
  obtain ⟨as, k1⟩ := h1.reads I rx
  obtain ⟨bs, k2⟩ := h2.reads I ry
  refine SeqAt.in_list_reads k2 k1 h4 h3 ?_ ⟨.bl _, H, I, rfl, q⟩
  have := Nat.min_le_right (PyData.depthAll es) d.depth
  omega
theorem op_notInD (hu : X.A.units + 64 < cLine) : OpR X (compareOp .NotIn) (rInD true) := by
  intro pins s σ H x y u v Q I rx ry h
  obtain ⟨d, es, h1, h2, h3, h4, h5, q⟩ := h
  obtain ⟨as, k1⟩ := h1.reads I rx
  obtain ⟨bs, k2⟩ := h2.reads I ry
  refine SeqAt.notIn_list_reads k2 k1 h4 h3 ?_ ⟨.bl _, H, I, rfl, q⟩
  have := Nat.min_le_right (PyData.depthAll es) d.depth
  omega
end
end L2

namespace L2
open PySem PySem.Spec PyProof.Rows

/-! ### an exception that is about: its record and its traceback's are our own and not tracked -/
/-- the first traceback entry stands at T -/
def TbAt (X : Cx) (pins : List (Addr × Obj)) (H : Hp) (h : Heap) (x : Addr) (vs : Array Value) : Prop :=
  ∃ (T : Addr) (oT : Obj) (ts : Array Value), vs[1]? = some (.ref T) ∧ T ≠ x ∧ FpOk X pins H T ∧ h.get? T = some oT ∧ oT.data = .fields ts ∧ 3 < ts.size
structure Fl (X : Cx) (pins : List (Addr × Obj)) (σ : St) (H : Hp) (x : Addr) (cls : Value) (tr : Bool) (s : Shared) : Prop where
  inv : Inv X pins σ H s
  own : FpOk X pins H x
  exc : ∃ (oe : Obj) (vs : Array Value), s.heap.get? x = some oe ∧ oe.cls = cls ∧ oe.data = .fields vs ∧ ((tr = false ∧ vs[1]? = some .none) ∨ TbAt X pins H s.heap x vs)

theorem ObjOk.some {P : Program} {w : World} {H : Hp} {h : Heap} {a : Addr} {o : HO} (x : ObjOk P w H h a o) : ∃ ob, h.get? a = Option.some ob := by
  cases o with
  | lst xs => obtain ⟨_, _, _, _, e⟩ := x; exact ⟨_, e⟩
  | tup xs => obtain ⟨_, _, _, o, e, _⟩ := x; exact ⟨o, e⟩
  | dK kvs => obtain ⟨_, _, _, _, o, _, _, e, _⟩ := x; exact ⟨o, e⟩
  | dT kvs => obtain ⟨_, _, _, _, o, _, _, e, _⟩ := x; exact ⟨o, e⟩
  | dN kvs => obtain ⟨_, _, _, _, o, _, _, e, _⟩ := x; exact ⟨o, e⟩
  | set S n => obtain ⟨o, _, _, _, e, _⟩ := x; exact ⟨o, e⟩
  | ins C dx fs => obtain ⟨_, _, _, e, _⟩ := x; exact ⟨_, e⟩
  | own y => exact x
  | xd fs => obtain ⟨_, ⟨o, _, _, e, _⟩, _⟩ := x; exact ⟨o, e⟩
  | rng lo hi => obtain ⟨_, _, _, e⟩ := x; exact ⟨_, e⟩
  | frz ob u => exact ⟨_, x.1⟩
  | tbl ps => exact ⟨_, x⟩
  | met f y => exact ⟨_, x⟩
  | ext φ => exact x.2.1
section
variable {X : Cx} {pins : List (Addr × Obj)} {σ : St} {H : Hp} {s : Shared} {x : Addr} {cls : Value} {M : Model} {A : Around} {E : Value → Shared → Prop}
theorem Fl.weak {tr : Bool} (F : Fl X pins σ H x cls true s) : Fl X pins σ H x cls tr s := by
  obtain ⟨I, f, oe, vs, h1, h2, h3, h4⟩ := F
  refine ⟨I, f, oe, vs, h1, h2, h3, ?_⟩
  rcases h4 with ⟨z, _⟩ | h4
  · cases z
  · exact .inr h4

/-- one record of ours is rewritten, the frames' slots may have changed, something may have been laid -/
theorem Inv.reco {h' : Heap} (I : Inv X pins σ H s) (f : FpOk X pins H x) (keep : ∀ b o, b ≠ x → b ∉ frs X.stack → s.heap.get? b = some o → h'.get? b = some o)
    (slot : ∀ b o, b ≠ x → b ∈ frs X.stack → s.heap.get? b = some o → ∃ sl, h'.get? b = some { o with slots := sl }) (there : ∃ o, h'.get? x = some o) : Inv X pins σ H { s with heap := h' } := by
  obtain ⟨f0, f1, f2, f3, f4, f5⟩ := f
  refine I.call (h' := h') (g' := s.gens) (t' := s.toks) (d' := s.drawn) (ch := [x]) ⟨fun b o e n hb hx => keep b o (fun z => hx (by simp [z])) hb e, fun b o e n hb hx => slot b o (fun z => hx (by simp [z])) hb e, fun _ _ _ n _ => n, fun b o e hx => ?_, fun _ _ e => e, fun _ _ _ e => e, fun b ps e => ⟨#[], by rw [e]; simp⟩⟩ (fun b u e => ?_) I.bare (fun b hb => ?_)
  · by_cases hb : b ∈ frs X.stack
    · obtain ⟨sl, q⟩ := slot b o (fun z => hx (by simp [z])) hb e
      exact ⟨_, q⟩
    · exact ⟨o, keep b o (fun z => hx (by simp [z])) hb e⟩
  · have out : ∀ c v, H c = some v → c ≠ x ∧ c ∉ frs X.stack := fun c v q => ⟨fun z => (by rw [z, f0] at q; cases q), fun z => (by rw [I.stkFree c z] at q; cases q)⟩
    refine (I.hok b u e).stay (fun c v hc q => ?_) (fun _ q => q) fun _ _ q => q
    have hn : c ≠ x ∧ c ∉ frs X.stack := by
      rcases hc with z | z
      · rw [z]; exact out b u e
      · exact out c _ z
    exact keep c v hn.1 hn.2 q
  · have e : b = x := by simpa using hb
    subst e
    exact ⟨f3, f1, f4, f5⟩

/-- an address where nothing stands -/
theorem Inv.fpNew {H' : Hp} {b : Addr} (I : Inv X pins σ H s) (hb : s.heap.get? b = none) (hn : H' b = none) : FpOk X pins H' b := by
  refine ⟨hn, fun z => ?_, fun z => ?_, ?_, fun y c e z => ?_, fun p hp z => ?_⟩
  · obtain ⟨m, ⟨o, _, _, ho, _⟩, _⟩ := I.loc
    rw [z, ho] at hb; cases hb
  · obtain ⟨_, o, ho, _⟩ := I.funs.mem z
    rw [ho] at hb; cases hb
  · by_cases hx : b ∈ X.ex
    · exact .inl hx
    · refine .inr ?_
      cases e : X.s₀.heap.get? b with
      | none => rfl
      | some o =>
        obtain ⟨o', e'⟩ := I.base.there b o e hx
        rw [e'] at hb; cases hb
  · obtain ⟨v, o, ho, _⟩ := I.cell y c e
    rw [z, hb] at ho; cases ho
  · have q := (I.pin p hp).1
    rw [z, hb] at q; cases q
theorem FpOk.notFr (I : Inv X pins σ H s) (f : FpOk X pins H x) : x ∉ frs X.stack := fun z => by
  rcases List.mem_cons.mp (I.stkSub x z) with e | e
  · exact f.2.1 e
  · exact f.2.2.1 e

/-- a new traceback entry -/
theorem fl_entry {oe : Obj} {vs : Array Value} {head : Value} {hadNext : Bool} {Q : Unit → Shared → Prop} (hst : X.stack = X.env :: X.outer) (hf : X.env.frame = some X.env.locals) (hA : A.frames = some X.stack)
    (I : Inv X pins σ H s) (f : FpOk X pins H x) (he : s.heap.get? x = some oe) (hc : oe.cls = cls) (hd : oe.data = .fields vs) (hsz : 1 < vs.size) (h : ∀ s', Fl X pins σ H x cls true s' → Q () s') :
    wpAny M A (do let a ← frameOf X.env; let pl ← entryPlaceOf X.env.locals hadNext; let b ← EntryCells.newEntry head a .none (rawInt X.env.locals) .none pl; setField (.ref x) 1 b) Q E s := by
  have hl : s.heap.FunFrames X.base (X.env :: X.outer) := hst ▸ I.stack
  have nf := f.notFr I
  refine wpAny_bind (wpAny_frameOf_fun (hst ▸ hA) hl hf fun h1 hs1 => ?_)
  refine wpAny_bind (wpAny_entryPlaceOf fun pl hpl => ?_)
  unfold EntryCells.newEntry newFields
  refine wpAny_bind (wpAny_newObj_type ?_ (hpl.sizeOk5 _ _ _ _ _))
  have nf' : x ∉ (X.env :: X.outer).filterMap (·.frame) := by
    have z := nf
    rw [hst] at z
    exact z
  have e1 : h1.get? x = some oe := (hs1.2.1 x nf').trans he
  generalize hob : ({ cls := .type "traceback", dict := none, data := .fields ([head, .ref X.env.locals, .none, rawInt X.env.locals, .none] ++ (if pl.isEmpty then List.replicate 6 Value.none else pl)).toArray } : Obj) = ob
  have hobd : ∃ ts, ob.data = .fields ts ∧ 3 < ts.size := by
    rw [← hob]
    refine ⟨_, rfl, ?_⟩
    simp only [List.size_toArray, List.length_append, List.length_cons, List.length_nil]
    omega
  obtain ⟨ts, hts, hts3⟩ := hobd
  have hfr : ob.isFreed = false := Obj.isFreed_of_fields hts
  have e2 := Heap.get?_push_of_some (h := h1) ob e1
  refine wpAny_setField e2 hd hsz (h _ ?_)
  have hs : h1.objs.size = s.heap.objs.size := hs1.1
  have nTx : h1.objs.size ≠ x := Nat.ne_of_gt (Heap.lt_size e1)
  have d3 := Obj.data_mapFields hd (·.setIfInBounds 1 (Value.ref h1.objs.size))
  have e3 := Heap.get?_update_self (Obj.mapFields (·.setIfInBounds 1 (Value.ref h1.objs.size))) e2 (Obj.isFreed_of_fields d3)
  have eT : ((h1.push ob).update x (Obj.mapFields (·.setIfInBounds 1 (Value.ref h1.objs.size)))).get? h1.objs.size = some ob := by
    rw [Heap.get?_update_other _ _ (Ne.symm nTx)]
    exact Heap.get?_push_size _ hfr
  have back : ∀ b o, b ≠ x → h1.get? b = some o → ((h1.push ob).update x (Obj.mapFields (·.setIfInBounds 1 (Value.ref h1.objs.size)))).get? b = some o := fun b o hb e => by
    rw [Heap.get?_update_other _ _ (Ne.symm hb)]
    exact Heap.get?_push_of_some _ e
  have I' : Inv X pins σ H { s with heap := (h1.push ob).update x (Obj.mapFields (·.setIfInBounds 1 (Value.ref h1.objs.size))) } := by
    refine I.reco f (fun b o hb hn e => back b o hb ((hs1.2.1 b (fun z => hn (by rw [hst]; exact z))).trans e)) (fun b o hb _ e => ?_) ⟨_, e3⟩
    obtain ⟨sl, q⟩ := hs1.2.2 b o e
    exact ⟨sl, back b _ hb q⟩
  refine ⟨I', f, _, _, e3, (Obj.cls_mapFields _ _).trans hc, d3, .inr ⟨h1.objs.size, ob, ts, by simp [hsz], nTx, ?_, eT, hts, hts3⟩⟩
  exact I.fpOk (Nat.le_of_eq hs.symm) (I.hok.fresh (Nat.le_of_eq hs.symm))

theorem fl_note {tr : Bool} {Q : Unit → Shared → Prop} (hst : X.stack = X.env :: X.outer) (hf : X.env.frame = some X.env.locals) (hA : A.frames = some X.stack) (F : Fl X pins σ H x cls tr s)
    (h : ∀ s', Fl X pins σ H x cls true s' → Q () s') : wpAny M A (noteFrame (.ref x) X.env) Q E s := by
  obtain ⟨I, f, oe, vs, he, hc, hd, tb⟩ := F
  unfold noteFrame
  simp only [hf]
  rcases tb with ⟨_, h1⟩ | ⟨T, oT, ts, h1, nTx, fT, eT, dT, h3⟩
  · refine wpAny_bind (wpAny_field he hd h1 ?_)
    rw [if_neg (by decide)]
    exact fl_entry hst hf hA I f he hc hd (Array.getElem?_eq_some_iff.mp h1).1 h
  · refine wpAny_bind (wpAny_field he hd h1 ?_)
    rw [if_pos (show (Value.ref T != Value.none) = true from by simp)]
    have g3 : ts[3]? = some ts[3] := Array.getElem?_eq_getElem h3
    refine wpAny_bind (wpAny_field eT dT g3 ?_)
    by_cases hq : (ts[3] == rawInt X.env.locals) = true
    · rw [if_pos hq]
      exact wpAny_pure (h s ⟨I, f, oe, vs, he, hc, hd, .inr ⟨T, oT, ts, h1, nTx, fT, eT, dT, h3⟩⟩)
    · rw [if_neg hq]
      refine wpAny_bind (wpAny_setField eT dT h3 ?_)
      have d3 := Obj.data_mapFields dT (·.setIfInBounds 3 Value.none)
      have eT' := Heap.get?_update_self (Obj.mapFields (·.setIfInBounds 3 Value.none)) eT (Obj.isFreed_of_fields d3)
      have other : ∀ b, b ≠ T → (s.heap.update T (Obj.mapFields (·.setIfInBounds 3 Value.none))).get? b = s.heap.get? b := fun b hb => Heap.get?_update_other _ _ (Ne.symm hb)
      have I' : Inv X pins σ H { s with heap := s.heap.update T (Obj.mapFields (·.setIfInBounds 3 Value.none)) } :=
        I.reco fT (fun b o hb _ e => (other b hb).trans e) (fun b o hb _ e => ⟨o.slots, (other b hb).trans e⟩) ⟨_, eT'⟩
      exact fl_entry hst hf hA I' f ((other x (Ne.symm nTx)).trans he) hc hd (Array.getElem?_eq_some_iff.mp h1).1 h

theorem fl_flight {tr : Bool} {fr : Option Addr} {Q : Unit → Shared → Prop} (F : Fl X pins σ H x cls tr s) (h : ∀ s', Fl X pins σ H x cls tr s' → Q () s') : wpAny M A (setFlight (.ref x) fr) Q E s := by
  obtain ⟨I, f, oe, vs, he, hc, hd, tb⟩ := id F
  unfold setFlight
  rcases tb with ⟨_, h1⟩ | ⟨T, oT, ts, h1, nTx, fT, eT, dT, h3⟩
  · refine wpAny_bind (wpAny_field he hd h1 ?_)
    rw [if_neg (by decide)]
    exact wpAny_pure (h s F)
  · refine wpAny_bind (wpAny_field he hd h1 ?_)
    rw [if_pos (show (Value.ref T != Value.none) = true from by simp)]
    refine wpAny_setField eT dT h3 (h _ ?_)
    generalize hv : (fr.elim Value.none fun f => rawInt f) = nv
    have d3 := Obj.data_mapFields dT (·.setIfInBounds 3 nv)
    have eT' := Heap.get?_update_self (Obj.mapFields (·.setIfInBounds 3 nv)) eT (Obj.isFreed_of_fields d3)
    have other : ∀ b, b ≠ T → (s.heap.update T (Obj.mapFields (·.setIfInBounds 3 nv))).get? b = s.heap.get? b := fun b hb => Heap.get?_update_other _ _ (Ne.symm hb)
    have I' : Inv X pins σ H { s with heap := s.heap.update T (Obj.mapFields (·.setIfInBounds 3 nv)) } :=
      I.reco fT (fun b o hb _ e => (other b hb).trans e) (fun b o hb _ e => ⟨o.slots, (other b hb).trans e⟩) ⟨_, eT'⟩
    exact ⟨I', f, oe, vs, (other x (Ne.symm nTx)).trans he, hc, hd, .inr ⟨T, _, _, h1, nTx, fT, eT', d3, by simpa using h3⟩⟩

/-- what a body wants of an exception: it is about, and W holds of its class, the frame's values and the heap -/
def Flies (X : Cx) (W : List (Addr × Obj) → St → Value → Hp → Prop) (e : Value) (s : Shared) : Prop := ∃ pins σ H x cls tr, e = .ref x ∧ Fl X pins σ H x cls tr s ∧ W pins σ cls H
theorem flies_own {W : List (Addr × Obj) → St → Value → Hp → Prop} (hst : X.stack = X.env :: X.outer) (hf : X.env.frame = some X.env.locals) : PassesOwn M X.A X.env (Flies X W) := by
  rintro e s ⟨pins, σ, H, x, cls, tr, rfl, F, w⟩
  refine fl_note hst hf F.inv.ok.frames F fun s' F' => ?_
  obtain ⟨I, f, oe, vs, he, hc, hd, tb⟩ := id F'
  rcases tb with ⟨z, _⟩ | ⟨T, oT, ts, h1, nTx, fT, eT, dT, h3⟩
  · cases z
  · unfold cameBackBy
    refine wpAny_bind (wpAny_field he hd h1 ?_)
    rw [if_neg (show ¬ ((Value.ref T == Value.none) = true) from by simp)]
    exact fl_flight F' fun s'' F'' => ⟨pins, σ, H, x, cls, true, rfl, F'', w⟩
end

/-! ### behind a call that raised -/
def CXE (P : Program) (w : World) : CXT := fun outer H s E e s' => ∃ (x : Addr) (cls : Value) (H' : Hp) (oe : Obj) (vs : Array Value) (T : Addr) (oT : Obj) (ts : Array Value), e = .ref x ∧ s'.os = s.os ∧ AllBare s'.gens ∧ Un (frs outer) [] H H' s.heap s'.heap ∧ HOk P w H' s'.heap ∧
  s.heap.get? x = none ∧ H' x = none ∧ s'.heap.get? x = some oe ∧ oe.cls = cls ∧ oe.data = .fields vs ∧ vs[1]? = some (.ref T) ∧ T ≠ x ∧ s.heap.get? T = none ∧ H' T = none ∧ s'.heap.get? T = some oT ∧ oT.data = .fields ts ∧ 3 < ts.size ∧ E cls none H'
section
variable {X : Cx} {pins : List (Addr × Obj)} {σ : St} {H : Hp} {s s' : Shared} {e : Value} {E : XK}
/-- in the caller it is about again -/
theorem CXE.fl (I : Inv X pins σ H s) (h : CXE X.prog X.w X.stack H s E e s') : ∃ x cls H', e = .ref x ∧ Fl X pins σ H' x cls true s' ∧ E cls none H' := by
  obtain ⟨x, cls, H', oe, vs, T, oT, ts, rfl, ho, hg, u, hok, hx, hnx, ex, hc, hd, h1, nTx, hT, hnT, eT, dT, h3, q⟩ := h
  have I' : Inv X pins σ H' s' := I.call' (ch := []) ho u hok hg (fun b z => absurd z (by simp))
  exact ⟨x, cls, H', rfl, ⟨I', I.fpNew hx hnx, oe, vs, ex, hc, hd, .inr ⟨T, oT, ts, h1, nTx, I.fpNew hT hnT, eT, dT, h3⟩⟩, q⟩
theorem passX {W : List (Addr × Obj) → St → Value → Hp → Prop} {E : XK} (h : ∀ pins σ cls H, E cls none H → W pins σ cls H) : Passes (CXE X.prog X.w) (X.wish (Flies X W)) E := fun pins σ H s e s' I q => by
  obtain ⟨x, cls, H', rfl, F, w⟩ := CXE.fl I.unwish q
  exact ⟨pins, σ, H', x, cls, true, rfl, F, h _ _ _ _ w⟩
theorem PSs.wishes {st : List Stmt} {t : TS} {W : Value → Shared → Prop} (h : PSs (X.wish W) st t) (hw : ∀ e s, W e s → X.xe e s) : PSs X st t := fun pins s σ H D I q =>
  wpAny_mono (h pins s σ H D (I.wish W) q) (fun f s' z => SP.unwish z) hw
end

section
variable {P : Program} {w : World} {K : PySem.W.Frag} {mg : Str → Option Value} {base : Heap}
/-- the context of a def's body that may raise -/
abbrev cxE (P : Program) (w : World) (K : PySem.W.Frag) (mg : Str → Option Value) (base : Heap) (N : List Str) (qual : Str) (scope : Scope) (f : Addr) (cd : Value) (A : Around) (outer : List Env) (s : Shared) (H : Hp) (E : XK) : Cx :=
  cxOf (CXE P w) P w K mg base N qual scope f cd A outer s H E
theorem flies_leave {N : List Str} {qual : Str} {scope : Scope} {f : Addr} {cd : Value} {A : Around} {outer : List Env} {s : Shared} {H : Hp} {E : XK} {e : Value} {s' : Shared}
    (h : Flies (cxE P w K mg base N qual scope f cd A outer s H E) (fun _ _ cls H' => E cls none H') e s') : (cxE P w K mg base N qual scope f cd A outer s H E).xe e s' := by
  obtain ⟨pins, σ, H', x, cls, tr, rfl, F, q⟩ := h
  show wpAny (model P w) (A.deeper (envOfC qual scope s.heap.objs.size f cd)) (leaving (envOfC qual scope s.heap.objs.size f cd) (.ref x)) (fun _ s'' => CXE P w outer H s E (.ref x) s'') (fun e' s'' => CXE P w outer H s E e' s'') s'
  unfold leaving
  refine wpAny_bind (fl_note (X := cxE P w K mg base N qual scope f cd A outer s H E) rfl rfl F.inv.ok.frames F fun s1 F1 => fl_flight F1 fun s2 F2 => ?_)
  obtain ⟨I, g, oe, vs, he, hc, hd, tb⟩ := F2
  rcases tb with ⟨z, _⟩ | ⟨T, oT, ts, h1, nTx, fT, eT, dT, h3⟩
  · cases z
  · have at0 : ∀ {b : Addr}, FpOk (cxE P w K mg base N qual scope f cd A outer s H E) pins H' b → s.heap.get? b = none := fun {b} z => by
      rcases z.2.2.2.1 with y | y
      · exact absurd (show b ∈ ([] : List Addr) from y) (by simp)
      · exact y
    exact ⟨x, cls, H', oe, vs, T, oT, ts, rfl, I.os, I.bare, I.base, I.hok, at0 g, g.1, he, hc, hd, h1, nTx, at0 fT, fT.1, eT, dT, h3, q⟩
/-- THE RULE for a def that may raise -/
theorem Fun.okX {x qual : Str} {st : Stmt} {f : Addr} {fd : FuncData} {N ps : List Str} {k : Nat} {sp : Sp} (F : Fun K x qual st f fd) (S : FnScope N ps (defScope st)) (len : ∀ vs H Q E, sp vs H Q E → vs.length = ps.length)
    (hbody : ∀ (cdv : Value) (A : Around) (outer : List Env) (s : Shared) (H : Hp) (vs : List V) (Q : VK) (E : XK), Room k (A.deeper (envOfC qual (defScope st) s.heap.objs.size f cdv)) → sp vs H Q E →
      ∃ t, PSs ((cxE P w K mg base N qual (defScope st) f cdv A outer s H E).wish (Flies (cxE P w K mg base N qual (defScope st) f cdv A outer s H E) fun _ _ cls H' => E cls none H')) (defBody st) t ∧
        t { nx := fun _ H' => Q .non H', rt := Q } (start N vs) H) : FnOk P w K mg base (CXE P w) (k + 1) f fd ps sp := by
  obtain ⟨oc, od, kV, doc, pm, an, cdv, ct, osl, rfl, lk, hcd⟩ := F.ex
  refine fn_of lk hcd S len fun A outer s H vs Q E hr hsp => ?_
  obtain ⟨t, h, q⟩ := hbody cdv A outer s H vs Q E hr hsp
  exact ⟨t, h.wishes fun e s' z => flies_leave z, q⟩
end
end L2

namespace L2
open PySem PySem.Spec PyProof.Rows

/-! ### raise C(e), C an error class of the text without an __init__ -/
theorem exc_in {K : PySem.W.Frag} {h : Heap} {C : Addr} {bmB : List Value} {newId : String} (X : K.In h) (q : PySem.W.excIn K C bmB newId = true) :
    ∃ bm N nm qn bs hdct sn sub ab col dd k0 k1 k2 k3 k5 mN, h.get? C = some (excClassObj nm qn C N bs bm hdct sn sub ab col dd k0 k1 k2 k3 k5 newId) ∧ h.Ns N mN ∧ mN "__init__" = none ∧ OwnTail h bmB bm := by
  unfold PySem.W.excIn at q
  split at q
  next dd cd sl ho =>
    split at q
    next C' bm k0 k1 k2 k3 n k5 hm hs =>
      have z := q
      simp only [Bool.and_eq_true, beq_iff_eq, Bool.not_eq_true'] at z
      have a1 := z.1.1.1.1.1
      have a2 := z.1.1.1.1.2
      have a3 := z.1.1.1.2
      have a4 := z.1.1.2
      have a5 := z.1.2
      have a6 := z.2
      subst a1 a2
      cases cd
      dsimp only at hm a3 a5 a6
      subst hm a3
      have hsl : sl = #[k0, k1, k2, k3, some (.builtin n), k5] := by
        cases sl
        simp only at hs
        rw [hs]
      rw [hsl] at ho
      exact ⟨bm, _, _, _, _, _, _, _, _, _, dd, k0, k1, k2, k3, k5, _, X _ _ ho, .of_isNs (PySem.W.isNs_of_in X a5), PySem.W.nsMap_none_of_in X a5 a6, PySem.W.tail_of_in X a4⟩
    next => cases q
  next => cases q

section
variable {X : Cx} {x : Str} {np cpos pos : Pos} {a : Expr} {t : TA} {C : Addr} {bmB : List Value} {B newId initId : String} {W : List (Addr × Obj) → St → Value → Hp → Prop}
def tRaise (W : List (Addr × Obj) → St → Value → Hp → Prop) (C : Addr) (t : TA) : TS := fun _ σ H => t σ H fun vs H1 => vs.length ≤ sizeLine ∧ ∀ pins, W pins σ (.ref C) H1
theorem ps_raise (hc : X.calm = true) (hg : Gl (X.wish (Flies X W)) x) (hm : X.mg x = some (.ref C)) (q : PySem.W.excIn X.K C bmB newId = true) (FB : ExcBaseFacts B newId initId bmB) (ha : PA (X.wish (Flies X W)) [a] t)
    (hd : (x == ("__debug__" : Str)) = false := by decide) (hs : starEach [a] X.env = [(false, eval a X.env)] := by rfl) :
    PS (X.wish (Flies X W)) (.Raise (some (.Call (.Name x np) [a] [] cpos)) none pos) (tRaise W C t) := by
  intro pins s σ H D I h
  obtain ⟨bm, N, nm, qn, bs, hdct, sn, sub, ab, col, dd, k0, k1, k2, k3, k5, mN, hC, hN, hni, T⟩ := exc_in I.ok.mod.kin q
  refine wpAny_Raise_call_subT (C := C) (nm := nm) (q := qn) (N := N) (bs := bs) (bm := bm) (hdct := hdct) (sn := sn) (sub := sub) (ab := ab) (col := col) (dd := dd) (k0 := k0) (k1 := k1) (k2 := k2) (k3 := k3) (k5 := k5) FB (mN := mN) (T.hasType FB.hasBase) (I.ok.hd hc) ?_ hni
    (ld_glob I hg hm ⟨rfl, ?_⟩ hd)
  · show (backTo cpos (starEach [a] X.env)).any (·.1) = false
    rw [hs]; rfl
  · have hA := ha cpos pins s σ H _ I h
    show wpAny _ _ (evalArgs (.ref C) true (backTo cpos (starEach [a] X.env)) []) _ _ s
    have hA' : wpAny (model X.prog X.w) X.A (spliced (backTo cpos (starEach [a] X.env))) (AP (X.wish (Flies X W)) pins σ fun vs H1 => vs.length ≤ sizeLine ∧ ∀ pins, W pins σ (.ref C) H1) (Flies X W) s := hA
    rw [hs] at hA' ⊢
    refine Calls.evalArgs_plain (wpAny_mono hA' (fun us s2 z => ?_) fun _ _ y => y)
    obtain ⟨vs, H1, I1, r, z1, z2⟩ := z
    refine ⟨rfl, by rw [← r.length]; exact z1, I1.bk _ _ hC, hN.keeps I1.bk, T.keeps I1.bk, fun h' e mk => ?_⟩
    have I2 : Inv X pins σ H1 { s2 with heap := h' } := I1.unwish.kept (t' := s2.toks) mk.keeps
    have hn : H1 e = none := by
      cases z : H1 e with
      | none => rfl
      | some o =>
        obtain ⟨o', ho'⟩ := (I1.hok e o z).some
        have y := mk.new
        rw [ho'] at y
        cases y
    obtain ⟨tt, he, _, _⟩ := mk.there
    exact ⟨pins, σ, H1, e, .ref C, false, rfl, ⟨I2, I1.unwish.fpNew mk.new hn, _, _, he, rfl, rfl, .inl ⟨rfl, rfl⟩⟩, z2 pins⟩
end

/-! ### try: .. except C: .. -/
section
variable {X : Cx} {pins pins' : List (Addr × Obj)} {σ : St} {H : Hp} {s : Shared} {A' : Around} {c' : Bool} {E' : Value → Shared → Prop} {pn' : List (Addr × Obj)}
theorem Cx.Ok.re (ok : X.Ok) (hh : c' = true → A'.handled = none) (hfr : A'.frames = some X.stack) : ({ X with A := A', calm := c', xe := E', pn := pn' } : Cx).Ok :=
  ⟨ok.mod, ok.kind, ok.glob, ok.blt, ok.above, ok.inj, ok.has, ok.cab, hh, hfr, ok.stk, ok.exf, ok.bs, ok.bsz, ok.noex, ok.exfs, ok.funs, ok.frf⟩
theorem Inv.re (I : Inv X pins σ H s) (hh : c' = true → A'.handled = none) (hfr : A'.frames = some X.stack) (hp : ∀ p ∈ pn' ++ pins', p ∈ X.pn ++ pins) : Inv { X with A := A', calm := c', xe := E', pn := pn' } pins' σ H s :=
  ⟨I.ok.re hh hfr, I.os, I.bare, I.base, I.loc, I.cell, I.free, I.freeC, fun p h => I.pin p (hp p h), I.hok, I.len⟩
theorem Inv.unre (ok : X.Ok) (I : Inv { X with A := A', calm := c', xe := E', pn := pn' } pins' σ H s) (hp : ∀ p ∈ X.pn ++ pins, p ∈ pn' ++ pins') : Inv X pins σ H s :=
  ⟨ok, I.os, I.bare, I.base, I.loc, I.cell, I.free, I.freeC, fun p h => I.pin p (hp p h), I.hok, I.len⟩
theorem SP.unre {D : Ends} {f : Flow} (ok : X.Ok) (h : SP { X with A := A', calm := c', xe := E', pn := pn' } pins' D f s) (hp : ∀ p ∈ X.pn ++ pins, p ∈ pn' ++ pins') : SP X pins D f s := by
  cases f with
  | next => obtain ⟨σ', H', I, q⟩ := h; exact ⟨σ', H', Inv.unre ok I hp, q⟩
  | brk => obtain ⟨σ', H', I, q⟩ := h; exact ⟨σ', H', Inv.unre ok I hp, q⟩
  | cont => obtain ⟨σ', H', I, q⟩ := h; exact ⟨σ', H', Inv.unre ok I hp, q⟩
  | ret u => obtain ⟨v, σ', H', I, r, q⟩ := h; exact ⟨v, σ', H', Inv.unre ok I hp, r, q⟩
theorem FpOk.unre {b : Addr} (h : FpOk { X with A := A', calm := c', xe := E', pn := pn' } pins' H b) (hp : ∀ p ∈ X.pn ++ pins, p ∈ pn' ++ pins') : FpOk X pins H b :=
  ⟨h.1, h.2.1, h.2.2.1, h.2.2.2.1, h.2.2.2.2.1, fun p q => h.2.2.2.2.2 p (hp p q)⟩
theorem Fl.unre {x : Addr} {cls : Value} {tr : Bool} (ok : X.Ok) (F : Fl { X with A := A', calm := c', xe := E', pn := pn' } pins' σ H x cls tr s) (hp : ∀ p ∈ X.pn ++ pins, p ∈ pn' ++ pins') : Fl X pins σ H x cls tr s := by
  obtain ⟨I, f, oe, vs, h1, h2, h3, h4⟩ := F
  refine ⟨Inv.unre ok I hp, FpOk.unre f hp, oe, vs, h1, h2, h3, ?_⟩
  rcases h4 with z | ⟨T, oT, ts, g1, g2, g3, g4⟩
  · exact .inl z
  · exact .inr ⟨T, oT, ts, g1, g2, FpOk.unre g3 hp, g4⟩

/-- the context of a try's body; of an except's suite -/
abbrev Cx.tried (X : Cx) (W : St → Value → Hp → Prop) (pins : List (Addr × Obj)) : Cx :=
  { X with pn := X.pn ++ pins, xe := Flies { X with pn := X.pn ++ pins } fun _ σ cls H => W σ cls H }
abbrev Cx.caught (X : Cx) (e : Addr) : Cx := { X with A := X.A.mark (some (.ref e)), calm := false, xe := fun _ _ => False }
def tTry (W : St → Value → Hp → Prop) (tb th : TS) : TS := fun D σ H => tb D σ H ∧ ∀ σ' cls H', W σ' cls H' → th D σ' H'
theorem ps_try {body suite : List Stmt} {b0 : Stmt} {x : Str} {np hpos pos : Pos} {tb th : TS} {W : St → Value → Hp → Prop} {c : Value} (hst : X.stack = X.env :: X.outer) (hf : X.env.frame = some X.env.locals)
    (hg : Gl X x) (hm : X.mg x = some c) (hx : ∀ σ cls H, W σ cls H → PySem.W.exmOne X.K cls c = some true) (hb : ∀ pins, PSs (X.tried W pins) body tb) (hh : ∀ e, PSs (X.caught e) (b0 :: suite) th) (hd : (x == ("__debug__" : Str)) = false := by decide) :
    PS X (.Try body [.ExceptHandler (some (.Name x np)) none (b0 :: suite) hpos] [] [] pos) (tTry W tb th) := by
  intro pins s σ H D I h
  obtain ⟨h1, h2⟩ := h
  have sub1 : ∀ p ∈ (X.pn ++ pins) ++ ([] : List (Addr × Obj)), p ∈ X.pn ++ pins := fun p hp => by simpa using hp
  have IY : Inv (X.tried W pins) [] σ H s := I.re I.ok.hd I.ok.frames sub1
  refine wpAny_Try_except (wpAny_mono (hb pins [] s σ H D IY h1) (fun f s1 q => ?_) (fun e s1 q => ?_))
  · have q' : SP X pins D f s1 := SP.unre I.ok q fun p hp => List.mem_append_left _ hp
    cases f with
    | next => exact wpAny_execs_nil q'
    | brk => exact q'
    | cont => exact q'
    | ret u => exact q'
  · obtain ⟨pins', σ', H', y, cls, tr, rfl, F, w⟩ := q
    have F' : Fl X pins σ' H' y cls tr s1 := Fl.unre (A' := X.A) (c' := X.calm) (E' := X.xe) I.ok F fun p hp => List.mem_append_left _ hp
    refine fl_note hst hf I.ok.frames F' fun s2 F2 => fl_flight F2 fun s3 F3 => ?_
    have I3 := F3.inv
    have Ic : ∀ {s' : Shared}, Inv X pins σ' H' s' → Inv (X.caught y) pins σ' H' s' := fun J => J.re (fun z => nomatch z) J.ok.frames fun p hp => hp
    refine wpAny_handleBy_cons (codeAny_handlers_test ?_) (by intro z; cases z)
    refine ld_glob (X := X.caught y) (Ic I3) hg hm ?_ hd
    obtain ⟨oe, vs, he, hc, _⟩ := F3.exc
    have LT : PySem.W.Looks (model X.prog X.w) s3.heap (typeOf (.ref y)) cls := by
      subst hc
      exact (PySem.W.Looks.ld he).andThen .now
    refine (PySem.W.exm_one I3.kIn LT (hx _ _ _ w)).here ?_
    show codeAny _ _ (.handlers (.ref y) [.ExceptHandler none none (b0 :: suite) hpos] X.env) _ s3
    refine codeAny_handlers_suite (fl_flight F3 fun s4 F4 => ?_)
    exact wpAny_mono (hh y pins s4 σ' H' D (Ic F4.inv) (h2 _ _ _ w)) (fun f s5 q => SP.unre I.ok q fun p hp => hp) fun _ _ z => z.elim
end

/-! ### a call whose exception is told with the frame's values -/
section
variable {X : Cx} {CX : CXT} {k : Nat} {f : Addr} {fd : FuncData} {ps : List Str} {sp : Sp} {EX : St → XK} {x : Str} {p pos : Pos} {e : Expr} {es : List Expr} {t : TA}
def tCallX (sp : Sp) (EX : St → XK) (t : TA) : TE := fun σ H Q => t σ H fun vs H1 => sp vs H1 Q (EX σ)
theorem pe_callX (F : FnOk X.prog X.w X.K X.mg X.base CX k f fd ps sp) (hr : Room k X.A) (hg : Gl X x) (hm : X.mg x = some (.ref f)) (hk : PySem.W.keepIn X.K (.ref f) = true) (hb : Binds X.K fd ps [])
    (hx : ∀ pins σ H s e s', Inv X pins σ H s → CX X.stack H s (EX σ) e s' → X.xe e s') (ha : PA X (e :: es) t) (hdb : (x == ("__debug__" : Str)) = false := by decide) (he : starEach (e :: es) X.env = (false, eval e X.env) :: starEach es X.env := by rfl)
    (hpl : (backTo pos (starEach es X.env)).any (·.1) = false := by rfl) : PE X (.Call (.Name x p) (e :: es) [] pos) (tCallX sp EX t) := by
  intro pins s σ H Q I h
  refine wpAny_Call_Name_kw (ld_glob I hg hm ?_ hdb)
  refine PySem.W.callWith_K (h₀ := X.base) I.ok.mod.kin hk (thn (ha pos pins s σ H _ I h) fun us s1 ⟨vs, H1, I1, r, q⟩ => ⟨I1.kIn, ?_⟩) he hpl
  have hl : (us ++ ([] : List Value)).length = ps.length := by rw [List.append_nil, ← r.length]; exact F.len _ _ _ _ q
  have hz := hb s1 us I1.kIn hl
  rw [List.append_nil] at hz
  refine wpAny_call (codeAny_mono (F.run X.A X.stack s1 H1 ⟨us, []⟩ us vs Q (EX σ) hr I1.env0 hz r q) fun r s' hq => ?_)
  cases r with
  | error e => exact hx pins σ H1 s1 e s' I1 hq
  | ok fl =>
    cases fl with
    | ret u => exact I1.after hq
    | next => exact False.elim hq
    | brk => exact False.elim hq
    | cont => exact False.elim hq
theorem passT {W : St → Value → Hp → Prop} {pins0 : List (Addr × Obj)} : ∀ pins σ H s e s', Inv (X.tried W pins0) pins σ H s → CXE X.prog X.w X.stack H s (fun cls _ H' => W σ cls H') e s' → (X.tried W pins0).xe e s' := fun pins σ H s e s' I q => by
  have I' : Inv ({ X with pn := X.pn ++ pins0 } : Cx) pins σ H s := ⟨⟨I.ok.mod, I.ok.kind, I.ok.glob, I.ok.blt, I.ok.above, I.ok.inj, I.ok.has, I.ok.cab, I.ok.hd, I.ok.frames, I.ok.stk, I.ok.exf, I.ok.bs, I.ok.bsz, I.ok.noex, I.ok.exfs, I.ok.funs, I.ok.frf⟩, I.os, I.bare, I.base, I.loc, I.cell, I.free, I.freeC, I.pin, I.hok, I.len⟩
  obtain ⟨x, cls, H', rfl, F, w⟩ := CXE.fl (X := ({ X with pn := X.pn ++ pins0 } : Cx)) (E := fun cls _ H' => W σ cls H') I' q
  exact ⟨pins, σ, H', x, cls, true, rfl, F, w⟩
end
end L2

namespace L2
open PySem PySem.Spec PyProof.Rows

/-! ### a list comprehension with one for -/
/-- the context of its block: the namespace C, the cells cl; H₂, s₂: behind the iterator's making -/
abbrev cxC (X : Cx) (N' : List Str) (scope : Scope) (cl : List (Str × Addr)) (C : Addr) (s₂ : Shared) (H₂ : Hp) (fp : List Addr) : Cx :=
  { X with N := N', s₀ := s₂, H₀ := H₂, env := compEnvC scope cl C X.env, outer := X.stack, ex := fp, fn := fun _ => false, pn := [], xe := fun _ _ => False }
/-- a target that stores into the first n slots alone -/
def GK (n : Nat) (g : TG) : Prop := ∀ v σ H Q, g v σ H Q → g v σ H fun σ2 H2 => Q σ2 H2 ∧ σ2.length = σ.length ∧ ∀ i, n ≤ i → σ2[i]? = σ[i]?
def GKs (n : Nat) (g : TGs) : Prop := ∀ v σ H Q, g v σ H Q → g v σ H fun σ2 H2 => Q σ2 H2 ∧ σ2.length = σ.length ∧ ∀ i, n ≤ i → σ2[i]? = σ[i]?
theorem gk_name {n i : Nat} (h : i < n) : GK n (gName i) := fun v σ H Q q => by
  refine ⟨q, by simp, fun j hj => ?_⟩
  rw [List.getElem?_set_ne (by omega)]
theorem gks_nil {n : Nat} : GKs n gNil := fun v σ H Q ⟨e, q⟩ => ⟨e, q, rfl, fun _ _ => rfl⟩
theorem gCons_mono {t : TG} {u : TGs} (ht : ∀ v σ H (Q Q' : St → Hp → Prop), (∀ a b, Q a b → Q' a b) → t v σ H Q → t v σ H Q') : True := trivial
/-- monotone readings of targets -/
def GM (g : TG) : Prop := ∀ v σ H (Q Q' : St → Hp → Prop), (∀ a b, Q a b → Q' a b) → g v σ H Q → g v σ H Q'
def GMs (g : TGs) : Prop := ∀ v σ H (Q Q' : St → Hp → Prop), (∀ a b, Q a b → Q' a b) → g v σ H Q → g v σ H Q'
theorem gm_name {i : Nat} : GM (gName i) := fun _ _ _ _ _ h q => h _ _ q
theorem gms_nil : GMs gNil := fun _ _ _ _ _ h ⟨e, q⟩ => ⟨e, h _ _ q⟩
theorem gms_cons {t : TG} {u : TGs} (ht : GM t) (hu : GMs u) : GMs (gCons t u) := fun v σ H Q Q' h ⟨x, r, e, q⟩ => ⟨x, r, e, ht _ _ _ _ _ (fun a b z => hu _ _ _ _ _ h z) q⟩
theorem gks_cons {n : Nat} {t : TG} {u : TGs} (ht : GK n t) (mt : GM t) (hu : GKs n u) (mu : GMs u) : GKs n (gCons t u) := fun v σ H Q ⟨x, r, e, q⟩ => by
  refine ⟨x, r, e, mt _ _ _ _ _ (fun a b z => ?_) (ht _ _ _ _ q)⟩
  obtain ⟨z1, z2, z3⟩ := z
  refine mu _ _ _ _ _ (fun c d y => ?_) (hu _ _ _ _ z1)
  exact ⟨y.1, y.2.1.trans z2, fun i hi => (y.2.2 i hi).trans (z3 i hi)⟩
theorem gk_tup {K : PySem.W.Frag} {n m : Nat} {t : TGs} (h : GKs n t) : GK n (gTup K m t) := fun v σ H Q ⟨a, xs, e, s, l, q⟩ => ⟨a, xs, e, s, l, h _ _ _ _ q⟩

def PTs (X : Cx) (ifs : List Expr) (t : TT) : Prop :=
  ∀ (pins : List (Addr × Obj)) (s : Shared) (σ : St) (H : Hp) (Q : Bool → Hp → Prop), Inv X pins σ H s → t σ H Q →
    wpAny (model X.prog X.w) X.A (forIn ifs true fun c r => if r = true then do let ok ← isTrue c X.env (eval c X.env); pure (ForInStep.yield ok) else pure (ForInStep.yield r)) (TP X pins σ Q) X.xe s
def tYes : TT := fun _ H Q => Q true H
theorem pts_nil {X : Cx} : PTs X [] tYes := fun pins s σ H Q I h => wpAny_tests_nil ⟨H, I, h⟩
theorem pts_one {X : Cx} {c : Expr} {t : TT} (h : PT X c t) : PTs X [c] t := fun pins s σ H Q I q => wpAny_tests_one (h pins s σ H Q I q)

/-- W: by the turn, a measure, the items so far, the heap; D: the new list -/
def CompR (J : It) (g : TG) (tt : TT) (te : TE) (σ' : St) (H1 : Hp) (Q : VK) : Prop := ∀ D, H1 D = none → ∃ W : Nat → Nat → List V → Hp → Prop, (∃ m, W 0 m [] (upd H1 D (.lst []))) ∧ ∀ i m ys H, W i m ys H → H D = some (.lst ys) ∧ ys.length < sizeLine ∧
  ((J.stop i H ∧ Q (.ref D) H) ∨ (J.go i H ∧ ∃ N : List V → Hp → Prop, (∀ zs H', N zs H' → ∃ m', m' < m ∧ W (i + 1) m' zs H') ∧
    ∀ x H2, J.yld i H x H2 → g x σ' H2 fun σ2 H3 => tt σ2 H3 fun b H4 => if b = true then te σ2 H4 fun y H5 => H5 D = some (.lst ys) ∧ N (ys ++ [y]) (upd H5 D (.lst (ys ++ [y]))) else N ys H4))
/-- over a list that the block leaves as it is -/
theorem comp_list {K : PySem.W.Frag} {a : Addr} {xs : List V} {g : TG} {tt : TT} {te : TE} {σ' : St} {H1 : Hp} {Q : VK} (Pv : Addr → Nat → List V → Hp → Prop) (h0 : ∀ D, H1 D = none → Pv D 0 [] (upd H1 D (.lst [])))
    (hl : ∀ D i ys H, i ≤ xs.length → Pv D i ys H → SqL K H a xs ∧ H D = some (.lst ys) ∧ ys.length < sizeLine)
    (hs : ∀ D i x ys H, xs[i]? = some x → Pv D i ys H → g x σ' H fun σ2 H3 => tt σ2 H3 fun b H4 => if b = true then te σ2 H4 fun y H5 => H5 D = some (.lst ys) ∧ Pv D (i + 1) (ys ++ [y]) (upd H5 D (.lst (ys ++ [y]))) else Pv D (i + 1) ys H4)
    (hd : ∀ D ys H, Pv D xs.length ys H → Q (.ref D) H) : CompR (Itl K a) g tt te σ' H1 Q := by
  intro D hD
  refine ⟨fun i m ys H => m = xs.length - i ∧ i ≤ xs.length ∧ Pv D i ys H, ⟨xs.length, by simp, Nat.zero_le _, h0 D hD⟩, ?_⟩
  rintro i m ys H ⟨rfl, hi, p⟩
  obtain ⟨q1, q2, q3⟩ := hl D i ys H hi p
  refine ⟨q2, q3, ?_⟩
  by_cases hlt : i < xs.length
  · refine .inr ⟨⟨xs, xs[i], q1, by simp [hlt]⟩, Pv D (i + 1), fun zs H' p' => ⟨xs.length - (i + 1), by omega, rfl, hlt, p'⟩, fun x H' y => ?_⟩
    obtain ⟨e, y⟩ := y
    subst e
    exact hs D i x ys _ (y xs q1) p
  · have e : i = xs.length := by omega
    subst e
    exact .inl ⟨⟨xs, q1, Nat.le_refl _⟩, hd D ys H p⟩
theorem comp_range {lo : Int} {n : Nat} {g : TG} {tt : TT} {te : TE} {σ' : St} {H1 : Hp} {Q : VK} (Pv : Addr → Nat → List V → Hp → Prop) (h0 : ∀ D, H1 D = none → Pv D 0 [] (upd H1 D (.lst [])))
    (hl : ∀ D i ys H, i ≤ n → Pv D i ys H → H D = some (.lst ys) ∧ ys.length < sizeLine)
    (hs : ∀ D i ys H, i < n → Pv D i ys H → g (.int (lo + i)) σ' H fun σ2 H3 => tt σ2 H3 fun b H4 => if b = true then te σ2 H4 fun y H5 => H5 D = some (.lst ys) ∧ Pv D (i + 1) (ys ++ [y]) (upd H5 D (.lst (ys ++ [y]))) else Pv D (i + 1) ys H4)
    (hd : ∀ D ys H, Pv D n ys H → Q (.ref D) H) : CompR (Itr lo n) g tt te σ' H1 Q := by
  intro D hD
  refine ⟨fun i m ys H => m = n - i ∧ i ≤ n ∧ Pv D i ys H, ⟨n, by simp, Nat.zero_le _, h0 D hD⟩, ?_⟩
  rintro i m ys H ⟨rfl, hi, p⟩
  obtain ⟨q2, q3⟩ := hl D i ys H hi p
  refine ⟨q2, q3, ?_⟩
  by_cases hlt : i < n
  · refine .inr ⟨hlt, Pv D (i + 1), fun zs H' p' => ⟨n - (i + 1), by omega, rfl, hlt, p'⟩, fun x H' y => ?_⟩
    obtain ⟨e, y⟩ := y
    subst e y
    exact hs D i ys _ hlt p
  · have e : i = n := by omega
    subst e
    exact .inl ⟨Nat.le_refl _, hd D ys H p⟩

/-- what must be seen of a comprehension's scope: n own names, then those of the frame's slots js -/
structure CompS (X : Cx) (N' : List Str) (scope : Scope) (cl : List (Str × Addr)) (n : Nat) (js : List Nat) : Prop where
  clos : closureFor scope X.env = pure cl
  cell : ∀ y ∈ scope.names, y.2 ≠ .cell
  kind : scope.kind = .function
  names : ∀ y ∈ scope.names, y.2 = .local → scope.names.lookup y.1 = some .local
  sub : ∀ y c, cl.lookup y = some c → X.env.cells.lookup y = some c
  has : ∀ y, ((relabel scope X.env).names.lookup y = some .cell ∨ (relabel scope X.env).names.lookup y = some .free) → ∃ c, cl.lookup y = some c
  len : N'.length = n + js.length
  frees : ∀ (k j : Nat), js[k]? = some j → ∃ y, N'[n + k]? = some y ∧ X.N[j]? = some y ∧ (X.env.kindOf y = some .cell ∨ X.env.kindOf y = some .free) ∧
    ((relabel scope X.env).names.lookup y = some .cell ∨ (relabel scope X.env).names.lookup y = some .free) ∧ cl.lookup y = X.env.cells.lookup y
theorem relabel_names {scope : Scope} {env : Env} (h : ∀ y ∈ scope.names, y.2 ≠ .free) : (relabel scope env).names = scope.names := by
  show scope.names.map _ = scope.names
  refine map_eq_self fun y hy => ?_
  obtain ⟨a, k⟩ := y
  have e : (k == NameKind.free) = false := by simpa using h _ hy
  simp [e]
/-- nothing is read from around -/
theorem CompS.closed {X : Cx} {N' : List Str} {scope : Scope} {n : Nat} (hf : ∀ y ∈ scope.names, y.2 ≠ .free) (hc : ∀ y ∈ scope.names, y.2 ≠ .cell) (hk : scope.kind = .function) (hn : ∀ y ∈ scope.names, y.2 = .local → scope.names.lookup y.1 = some .local) (hl : N'.length = n) : CompS X N' scope [] n [] where
  clos := closureFor_none hf
  cell := hc
  kind := hk
  names := hn
  sub := fun y c e => by simp at e
  has := fun y h => by
    rw [relabel_names hf] at h
    rcases h with h | h
    · exact absurd rfl (hc _ (PySem.mem_of_lookup h))
    · exact absurd rfl (hf _ (PySem.mem_of_lookup h))
  len := by simpa using hl
  frees := fun k j e => by simp at e
/-- one name is read from around, a cell of the frame's -/
theorem CompS.one {X : Cx} {N' : List Str} {scope : Scope} {y : Str} {c : Addr} {n j : Nat} (h1 : closureFor scope X.env = pure [(y, c)]) (h2 : X.env.cells.lookup y = some c) (hc : ∀ z ∈ scope.names, z.2 ≠ .cell) (hk : scope.kind = .function)
    (hn : ∀ z ∈ scope.names, z.2 = .local → scope.names.lookup z.1 = some .local) (ho : ∀ z ∈ scope.names, z.2 = .free → z.1 = y) (hN : N'[n]? = some y) (hl : N'.length = n + 1) (hj : X.N[j]? = some y) (hy : X.env.kindOf y = some .cell)
    (hr : (relabel scope X.env).names.lookup y = some .cell) : CompS X N' scope [(y, c)] n [j] where
  clos := h1
  cell := hc
  kind := hk
  names := hn
  sub := fun z d e => by
    by_cases q : z = y
    · subst q; rw [List.lookup_cons, beq_self_eq_true] at e; rw [h2]; exact e
    · have b : (z == y) = false := beq_false_of_ne q
      rw [List.lookup_cons, b] at e; simp at e
  has := fun z h => by
    have mem : ∃ k, (k = NameKind.cell ∨ k = NameKind.free) ∧ (z, k) ∈ (relabel scope X.env).names := by
      rcases h with h | h
      · exact ⟨_, .inl rfl, PySem.mem_of_lookup h⟩
      · exact ⟨_, .inr rfl, PySem.mem_of_lookup h⟩
    obtain ⟨k, hk2, hm⟩ := mem
    obtain ⟨⟨a, ka⟩, ha, e⟩ := List.mem_map.mp (show (z, k) ∈ scope.names.map _ from hm)
    have hz : z = y := by
      by_cases hfree : ka = .free
      · have e2 : z = a := by
          dsimp only at e
          split at e
          · exact (Prod.mk.inj e).1.symm
          · exact (Prod.mk.inj e).1.symm
        rw [e2]
        exact ho _ ha hfree
      · have b : (ka == NameKind.free) = false := by simpa using hfree
        simp only [b, Bool.false_and, Bool.false_eq_true, if_false] at e
        have e3 := (Prod.mk.inj e).2
        rcases hk2 with q | q
        · exact absurd (e3.trans q) (hc _ ha)
        · exact absurd (e3.trans q) hfree
    subst hz
    exact ⟨c, by rw [List.lookup_cons, beq_self_eq_true]⟩
  len := by simpa using hl
  frees := fun k i e => by
    have hk0 : k = 0 := by
      cases k with
      | zero => rfl
      | succ k => simp at e
    subst hk0
    have e' : j = i := by simpa using e
    subst e'
    exact ⟨y, hN, hj, .inl hy, .inl hr, by rw [h2, List.lookup_cons, beq_self_eq_true]⟩
def frees (n : Nat) (js : List Nat) (σ : St) : St := List.replicate n none ++ js.map fun j => σ.getD j none

section
variable {X : Cx} {pins : List (Addr × Obj)} {σ : St} {s₂ : Shared} {H₂ : Hp} {elt iter target : Expr} {ifs : List Expr} {scope : Scope} {pos : Pos} {cl : List (Str × Addr)} {N' : List Str} {n : Nat} {js : List Nat} {g : TG} {tt : TT} {te : TE} {E : Value → Shared → Prop}
theorem comp_block {J : It} {fp : List Addr} {it : Addr} {tn : Nat → Heap → Prop} {RR : Value → Addr → Result → Shared → Prop} {Q : VK} (hc : X.calm = true) (S : CompS X N' scope cl n js) (gk : GK n g)
    (hg : ∀ C s₂ H₂ fp, PG (cxC X N' scope cl C s₂ H₂ fp) target g) (ht : ∀ C s₂ H₂ fp, PTs (cxC X N' scope cl C s₂ H₂ fp) ifs tt) (he : ∀ C s₂ H₂ fp, PE (cxC X N' scope cl C s₂ H₂ fp) elt te)
    (I : Inv X pins σ H₂ s₂) (T : Turn X.prog X.w X.K target J fp it tn) (st : tn 0 s₂.heap) (f2 : ∀ b ∈ fp, FpOk X pins H₂ b) (R : CompR J g tt te (frees n js σ) H₂ Q)
    (hRR : ∀ D C s' H', Inv X pins σ H' s' → (∃ m, s'.heap.Ns C m) → FpOk X pins H' C → Q (.ref D) H' → RR (.ref D) C (.ok .next) s') :
    wpAny (model X.prog X.w) X.A (newList []) (fun acc s₃ => wpAny (model X.prog X.w) X.A (newFunctionEnv scope X.env.globals cl [] X.env.qual none .none (some X.env)) (fun cenv s₄ =>
      codeAny (model X.prog X.w) X.A (.compStart (.ListComp elt [⟨target, iter, ifs, 0⟩] scope pos) 0 (.ref it) acc { cenv with scope := relabel scope X.env }) (RR acc cenv.locals) s₄) E s₃) E s₂ := by
  refine wpAny_newObj_type (wpAny_newFunctionEnv S.cell (by intro y hy; simp at hy) (fun h1 hns hsb => ?_) S.kind)
  dsimp only at hns hsb ⊢
  generalize hh3 : s₂.heap.push { cls := .type "list", dict := none, data := .seq ([] : List Value).toArray } = h3 at hns hsb ⊢
  generalize hD : s₂.heap.objs.size = D at *
  generalize hCC : h3.objs.size = C at *
  have eC : C = D + 1 := by rw [← hCC, ← hh3, Heap.size_push, hD]
  have hDC : D ≠ C := by omega
  have lt2 : ∀ b o, s₂.heap.get? b = some o → b < D := fun b o e => hD ▸ Heap.lt_size e
  have old : ∀ b o, s₂.heap.get? b = some o → h1.get? b = some o := fun b o e => by
    have l := lt2 b o e
    refine hsb.extBut b o (Nat.ne_of_lt (Nat.lt_of_lt_of_le l (by omega))) (Heap.get?_push_of_some _ ?_)
    rw [← hh3]
    exact Heap.get?_push_of_some _ e
  have newD : h1.get? D = some { cls := .type "list", data := .seq ([] : List Value).toArray 0 } := by
    refine hsb.extBut D _ hDC (Heap.get?_push_of_some _ ?_)
    rw [← hh3, ← hD]
    exact Heap.get?_push_size _ rfl
  have nD2 : s₂.heap.get? D = none := hD ▸ Heap.get?_none_of_le (Nat.le_refl _)
  have nC2 : s₂.heap.get? C = none := Heap.get?_none_of_le (by omega)
  have hHD : H₂ D = none := I.hok.fresh (by omega)
  have hHC : H₂ C = none := I.hok.fresh (by omega)
  have fpLt : ∀ b ∈ fp, b < D := fun b hb => by
    obtain ⟨o, e, _⟩ := T.obj 0 _ st b hb
    exact lt2 b o e
  obtain ⟨W, ⟨m0, w0⟩, turn⟩ := R D hHD
  -- the block's context and its invariant
  have okY : (cxC X N' scope cl C s₂ H₂ fp).Ok := by
    refine ⟨I.ok.mod, S.kind, I.ok.glob, I.ok.blt, ?_, ?_, fun y hy => S.has y hy, (fun y c hf _ => by cases hf), I.ok.hd, I.ok.frames, .inl rfl, ?_, I.bs, Nat.le_trans I.ok.bsz I.sz, ?_, ?_, I.stack, I.stkFree⟩
    · show s₂.heap.objs.size ≤ C
      omega
    · exact fun y z c h1 h2 => I.ok.inj y z c (S.sub y c h1) (S.sub z c h2)
    · intro b hb
      refine ⟨?_, fun y c e => (f2 b hb).2.2.2.2.1 y c (S.sub y c e)⟩
      exact Nat.ne_of_lt (Nat.lt_of_lt_of_le (fpLt b hb) (show D ≤ C by omega))
    · intro b o e hb
      rcases (f2 b hb).2.2.2.1 with z | z
      · exact I.ok.noex b o e z
      · rw [(I.ok.bs b o e).1] at z; cases z
    · intro b hb hz
      rcases List.mem_cons.mp (I.stkSub b hz) with z | z
      · exact (f2 b hb).2.1 z
      · exact (f2 b hb).2.2.1 z
  have I4 : Inv (cxC X N' scope cl C s₂ H₂ fp) [] (frees n js σ) (upd H₂ D (.lst [])) { s₂ with heap := h1, toks := s₂.toks + ([] : List (Str × Value)).length } := by
    refine ⟨okY, rfl, I.bare, ?_, ⟨_, hns, fun i y v e1 e2 e3 => ?_⟩, fun y c e => ?_, ?_, fun y c e => ?_, fun p hp => absurd hp (by simp), ?_, ?_⟩
    · exact Un.laid (fun b u e => old b u e) (Nat.le_of_eq hD) hHD
    · have hin : n ≤ i := by
        refine Nat.le_of_not_lt fun hi => ?_
        unfold frees at e2
        rw [List.getElem?_append_left (by simpa using hi), List.getElem?_replicate] at e2
        split at e2 <;> cases e2
      obtain ⟨k, rfl⟩ : ∃ k, i = n + k := ⟨i - n, by omega⟩
      unfold frees at e2
      rw [List.getElem?_append_right (by simp), List.length_replicate, Nat.add_sub_cancel_left, List.getElem?_map] at e2
      cases ej : js[k]? with
      | none => rw [ej] at e2; cases e2
      | some j =>
        rw [ej] at e2
        have e2' : σ.getD j none = some v := Option.some.inj e2
        obtain ⟨y', a1, a2, a3, a4, a5⟩ := S.frees k j ej
        have ey : y' = y := Option.some.inj (a1.symm.trans e1)
        subst ey
        have e4 : σ[j]? = some (some v) := by
          rw [List.getD_eq_getElem?_getD] at e2'
          cases q : σ[j]? with
          | none => rw [q] at e2'; cases e2'
          | some z => rw [q] at e2'; exact congrArg some e2'
        obtain ⟨m, hm, hl⟩ := I.loc
        have vis : Vis X.env.scope y' := by
          rcases a3 with z | z
          · exact .inr (.inl z)
          · exact .inr (.inr z)
        obtain ⟨u, ru, lk⟩ := hl j y' v a2 e4 vis
        refine ⟨u, ru, ?_⟩
        rcases lk with ⟨z, _⟩ | ⟨_, c, z1, o, z2, z3⟩
        · rcases a3 with y | y <;> (rw [z] at y; cases y)
        · exact .inr ⟨a4, c, a5.trans z1, o, old c o z2, z3⟩
    · obtain ⟨v, o, z1, z2⟩ := I.cell y c (S.sub y c e)
      exact ⟨v, o, old c o z1, z2⟩
    · show upd H₂ D _ C = none
      rw [upd_ne (Ne.symm hDC)]
      exact hHC
    · obtain ⟨v, o, z1, z2⟩ := I.cell y c (S.sub y c e)
      have l := lt2 c o z1
      rw [upd_ne (Nat.ne_of_lt l)]
      exact I.freeC y c (S.sub y c e)
    · exact I.hok.laid old (Nat.le_of_eq hD) ⟨Nat.zero_le _, [], 0, .nil, newD⟩
    · unfold frees
      show _ = N'.length
      rw [S.len, List.length_append, List.length_replicate, List.length_map]
  have fY : ∀ {H' : Hp}, (∀ b ∈ fp, H' b = none) → ∀ b ∈ fp, FpOk (cxC X N' scope cl C s₂ H₂ fp) [] H' b := fun hn b hb => by
    refine ⟨hn b hb, (okY.exf b hb).1, okY.exfs b hb, .inl hb, (okY.exf b hb).2, fun p hp => absurd hp (by simp)⟩
  have st4 : tn 0 h1 := T.keep _ _ _ st fun b hb o e => old b o e
  have fr4 : ∀ b ∈ fp, upd H₂ D (.lst []) b = none := fun b hb => by
    rw [upd_ne (Nat.ne_of_lt (fpLt b hb))]
    exact (f2 b hb).1
  have loop : ∀ s3 : Shared, s3 = { s₂ with heap := h1, toks := s₂.toks + ([] : List (Str × Value)).length } →
      codeAny (model X.prog X.w) X.A (.compLoop (.ListComp elt [⟨target, iter, ifs, 0⟩] scope pos) 0 (.ref it) (.ref D) (compEnvC scope cl C X.env)) (RR (.ref D) C) s3 := by
    rintro s3 rfl
    refine codeAny_loop rfl (fun k s' => ∃ i ys H', Inv (cxC X N' scope cl C s₂ H₂ fp) [] (frees n js σ) H' s' ∧ tn i s'.heap ∧ (∀ b ∈ fp, H' b = none) ∧ W i k ys H') (fun k s5 hI => ?_) m0 ⟨0, [], _, I4, st4, fr4, w0⟩
    obtain ⟨i, ys, H5, I5, st5, fr5, w5⟩ := hI
    obtain ⟨hD5, hsz, alt⟩ := turn i k ys H5 w5
    show wpAny _ X.A ((compTurn (.ListComp elt [⟨target, iter, ifs, 0⟩] scope pos) 0 (.ref it) (.ref D) (compEnvC scope cl C X.env)).onRaise (fun x => do noteFrame x (compEnvC scope cl C X.env); theTreesLotGoes x)) _ _ s5
    refine wpAny_noted ?_
    rw [compTurn_list]
    refine wpAny_bind (wpAny_standAt ?_)
    rcases alt with ⟨stop, q⟩ | ⟨go, NN, hNN, step⟩
    · refine wpAny_bind (thn (T.done (cxC X N' scope cl C s₂ H₂ fp) rfl rfl rfl hc i [] s5 _ H5 _ I5 (fY fr5) st5 stop) fun r s6 hr => ?_)
      obtain ⟨rfl, I6⟩ := hr
      refine wpAny_pure (hRR D C s6 H5 ?_ ?_ ?_ q)
      · exact I.call' (ch := fp) I6.os I6.base I6.hok I6.bare fun b hb => ⟨(f2 b hb).2.2.2.1, (f2 b hb).2.1, (f2 b hb).2.2.2.2.1, (f2 b hb).2.2.2.2.2⟩
      · obtain ⟨m, hm, _⟩ := I6.loc
        exact ⟨m, hm⟩
      · exact I.fpNew nC2 I6.free
    · refine wpAny_bind (thn (T.item (cxC X N' scope cl C s₂ H₂ fp) rfl rfl rfl hc i [] s5 _ H5 _ I5 (fY fr5) st5 go) fun r s6 hr => ?_)
      obtain ⟨u, rfl, h6⟩ := hr
      refine wpAny_bind (thn h6 fun _ s7 h7 => ?_)
      obtain ⟨x, H7, I7, r7, y7, st7, fr7⟩ := h7
      have I7' := I7.pinned (fY fr7) (T.obj _ _ st7)
      -- what a turn's end gives
      have fin : ∀ {σ8 : St} {H8 : Hp} {s8 : Shared} {zs : List V}, Inv (cxC X N' scope cl C s₂ H₂ fp) ([] ++ pinsAt fp s7.heap) σ8 H8 s8 → (σ8.length = (frees n js σ).length ∧ ∀ i, n ≤ i → σ8[i]? = (frees n js σ)[i]?) → NN zs H8 →
          ∃ m, m < k ∧ ∃ i ys H', Inv (cxC X N' scope cl C s₂ H₂ fp) [] (frees n js σ) H' s8 ∧ tn i s8.heap ∧ (∀ b ∈ fp, H' b = none) ∧ W i m ys H' := fun {σ8 H8 s8 zs} I8 ag n8 => by
        obtain ⟨m', hm, w8⟩ := hNN zs H8 n8
        refine ⟨m', hm, i + 1, zs, H8, ?_, T.keep _ _ _ st7 fun b hb o e => (I8.pin (b, o) (List.mem_append_right _ (List.mem_append_right _ (mem_pinsAt hb e)))).1, fun b hb => ?_, w8⟩
        · refine (I8.unpinned).weak ag.1.symm fun j v e => ?_
          by_cases hj : n ≤ j
          · rw [ag.2 j hj]; exact e
          · unfold frees at e
            rw [List.getElem?_append_left (by simpa using hj), List.getElem?_replicate] at e
            split at e <;> cases e
        · obtain ⟨o, e, d⟩ := T.obj _ _ st7 b hb
          exact (I8.pin (b, o) (List.mem_append_right _ (List.mem_append_right _ (mem_pinsAt hb e)))).2.1
      refine wpAny_bind (wpAny_mono (hg C s₂ H₂ fp _ s7 _ H7 x u _ I7' r7 (gk _ _ _ _ (step x H7 y7))) (fun _ s8 h8 => ?_) fun _ _ z => z.elim)
      obtain ⟨σ8, H8, I8, q8, ag⟩ := h8
      refine wpAny_bind (wpAny_mono (ht C s₂ H₂ fp _ s8 σ8 H8 _ I8 q8) (fun ok s9 h9 => ?_) fun _ _ z => z.elim)
      obtain ⟨H9, I9, q9⟩ := h9
      cases ok with
      | false =>
        rw [if_neg (by decide)] at q9
        exact wpAny_pure ⟨rfl, fin I9 ag q9⟩
      | true =>
        rw [if_pos rfl] at q9
        refine wpAny_bind (wpAny_bind (wpAny_mono (he C s₂ H₂ fp _ s9 σ8 H9 _ I9 q9) (fun y sa ha => ?_) fun _ _ z => z.elim))
        obtain ⟨yv, Ha, Ia, ra, hDa, wa⟩ := ha
        refine wpAny_bind (wpAny_mono (mt_append (X := cxC X N' scope cl C s₂ H₂ fp) _ sa σ8 Ha (.ref D) [yv] (.ref D) [y] (fun v H' => v = .non ∧ H' = upd Ha D (.lst (ys ++ [yv]))) Ia rfl (.cons ra .nil) ⟨D, ys, yv, rfl, rfl, hDa, hsz, rfl, rfl⟩) (fun v sb hb => ?_) fun _ _ z => z.elim)
        obtain ⟨v', Hb, Ib, rb, _, rfl⟩ := hb
        exact wpAny_pure (wpAny_pure ⟨rfl, fin Ib ag wa⟩)
  exact codeAny_compStart_list (loop _ rfl) (T.self X.A 0 _ _ _ st4 (loop _ rfl))
end

section
variable {X : Cx} {elt iter target : Expr} {ifs : List Expr} {scope : Scope} {pos : Pos} {cl : List (Str × Addr)} {N' : List Str} {n : Nat} {js : List Nat} {g : TG} {tt : TT} {te : TE} {wi : TI}
def tComp (wi : TI) (g : TG) (tt : TT) (te : TE) (n : Nat) (js : List Nat) : TE := fun σ H Q => wi σ H fun J H1 => CompR J g tt te (frees n js σ) H1 Q
theorem pe_comp (hc : X.calm = true) (S : CompS X N' scope cl n js) (gk : GK n g) (hi : PI X target iter wi) (hg : ∀ C s₂ H₂ fp, PG (cxC X N' scope cl C s₂ H₂ fp) target g) (ht : ∀ C s₂ H₂ fp, PTs (cxC X N' scope cl C s₂ H₂ fp) ifs tt)
    (he : ∀ C s₂ H₂ fp, PE (cxC X N' scope cl C s₂ H₂ fp) elt te) (hs : ∀ x, foldedSetIterable iter X.env x = pure x := by intro _; rfl) : PE X (.ListComp elt [⟨target, iter, ifs, 0⟩] scope pos) (tComp wi g tt te n js) := by
  intro pins s σ H Q I h
  rw [eval_ListComp]
  refine wpAny_comprehension_free (use := none) rfl hs S.clos S.kind S.names (thn (hi pins s σ H _ I h) fun v s1 h1 => thn h1 fun itv s2 h2 => ?_)
  obtain ⟨it, fp, tn, J, H2, rfl, I2, T, st2, f2, R⟩ := h2
  refine comp_block hc S gk hg ht he I2 T st2 f2 R fun D C s' H' I' hn f q => ?_
  obtain ⟨m, hn⟩ := hn
  refine ⟨m, hn, fun h' sb => ⟨.ref D, H', ?_, rfl, q⟩⟩
  exact I'.turned (t' := s'.toks) (fun b o hb e => (sb.2 b hb).trans e) f.1 f.2.1 f.2.2.2.1 f.2.2.2.2.1 f.2.2.2.2.2
/-- name = [.. for ..]: the store comes ahead of the block's end -/
def tAsgC (i : Nat) (wi : TI) (g : TG) (tt : TT) (te : TE) (n : Nat) (js : List Nat) : TS := fun D σ H => wi σ H fun J H1 => CompR J g tt te (frees n js σ) H1 fun v H' => D.nx (σ.set i (some v)) H'
theorem ps_setC {i : Nat} {x : Str} {pos' spos : Pos} (hc : X.calm = true) (S : CompS X N' scope cl n js) (gk : GK n g) (hN : X.N.Nodup) (hx : X.N[i]? = some x) (hl : X.env.scope.names.lookup x = some .local) (hi : PI X target iter wi)
    (hg : ∀ C s₂ H₂ fp, PG (cxC X N' scope cl C s₂ H₂ fp) target g) (ht : ∀ C s₂ H₂ fp, PTs (cxC X N' scope cl C s₂ H₂ fp) ifs tt) (he : ∀ C s₂ H₂ fp, PE (cxC X N' scope cl C s₂ H₂ fp) elt te)
    (hsw : swapsWith (.ListComp elt [⟨target, iter, ifs, 0⟩] scope pos) (some (.Name x pos')) spos.line X.env = pure true := by rfl) (hs : ∀ x, foldedSetIterable iter X.env x = pure x := by intro _; rfl) :
    PS X (.Assign [.Name x pos'] (.ListComp elt [⟨target, iter, ifs, 0⟩] scope pos) spos) (tAsgC i wi g tt te n js) := by
  intro pins s σ H D I h
  rw [exec_Assign_Name_used _ _ _ _ hsw]
  refine wpAny_bind (wpAny_standAt (wpAny_bind ?_))
  show wpAny _ X.A (do let _ ← comprehension (.ListComp elt [⟨target, iter, ifs, 0⟩] scope pos) scope X.env _ (newList []) false (eval iter X.env) (some (assign (.Name x pos') X.env))) _ _ s
  refine wpAny_bind (wpAny_mono (wpAny_comprehension_free (use := some (assign (.Name x pos') X.env)) (Q := fun _ s' => SP X pins D .next s') rfl hs S.clos S.kind S.names
    (thn (hi pins s σ H _ I h) fun v s1 h1 => thn h1 fun itv s2 h2 => ?_)) (fun _ s' q => wpAny_pure (wpAny_pure q)) fun _ _ e => e)
  obtain ⟨it, fp, tn, J, H2, rfl, I2, T, st2, f2, R⟩ := h2
  refine comp_block hc S gk hg ht he I2 T st2 f2 R fun C0 C s' H' I' hn f q => ?_
  obtain ⟨m, hn⟩ := hn
  show wpAny _ X.A (assign (.Name x pos') X.env (.ref C0)) _ _ s'
  refine wpAny_assign_Name (store_ok2 (v := .ref C0) I' hN hx (.inl hl) rfl (fun s'' I'' ⟨a, sb, ha⟩ => ?_) (.inr hl))
  have hCa : C ≠ a := by
    rcases ha with z | z
    · rw [z]; exact f.2.1
    · exact Ne.symm (f.2.2.2.2.1 _ _ z)
  refine ⟨m, hn.sameBut sb hCa, fun h' sb' => ⟨_, H', ?_, q⟩⟩
  exact I''.turned (t' := s''.toks) (fun b o hb e => (sb'.2 b hb).trans e) f.1 f.2.1 f.2.2.2.1 f.2.2.2.2.1 f.2.2.2.2.2
end
end L2

namespace L2
open PySem PySem.Spec PyProof.Rows

/-! ### isinstance with a built-in type, or with a tuple of them -/
section
variable {X : Cx}
theorem call_isinst : CallR X (.builtin "isinstance") (fun xs H Q => ∃ (x : V) (T : String) (t : Value) (b : Bool), xs = [x, .ty T] ∧ TyOf X.K H x t ∧ PySem.W.kitOne X.K t (.type T) = some b ∧ Q (.bl b) H) := by
  intro pins s σ H xs us Q I r h
  obtain ⟨x, T, t, b, rfl, ty, e, q⟩ := h
  obtain ⟨u, u', rfl, r1, r2⟩ := vals2 r
  cases (show u' = Value.type T from r2)
  exact isinst_ok I r1 ty e fun tk => ⟨.bl b, H, I.tok tk, rfl, q⟩
theorem call_isinstT : CallR X (.builtin "isinstance") (fun xs H Q => ∃ (x : V) (a : Addr) (Ts : List String) (t : Value) (b : Bool), xs = [x, .ref a] ∧ H a = some (.tup (Ts.map V.ty)) ∧ TyOf X.K H x t ∧ (∀ C, t ≠ .ref C) ∧ PySem.W.kitAny X.K t (Ts.map Value.type) = some b ∧ Q (.bl b) H) := by
  intro pins s σ H xs us Q I r h
  obtain ⟨x, a, Ts, t, b, rfl, ha, ty, nc, e, q⟩ := h
  obtain ⟨u, u', rfl, r1, r2⟩ := vals2 r
  cases (show u' = Value.ref a from r2)
  obtain ⟨z, its, rv, o, ho, hc, n, hd⟩ := (show ObjOk X.prog X.w H s.heap a (.tup (Ts.map V.ty)) from I.hok a _ ha)
  have ei : its = Ts.map Value.type := by
    clear ha z ho hd e
    induction Ts generalizing its with
    | nil => cases rv; rfl
    | cons T Ts ih =>
      cases rv with
      | cons h t =>
        rw [List.map_cons, ih _ t]
        exact congrArg (· :: _) h
  subst ei
  obtain ⟨oc, odd, od, osl⟩ := o
  dsimp only at hc hd
  subst hc hd
  have fin : ∀ tk, EP X pins σ Q (.bool b) { s with toks := tk } := fun tk => ⟨.bl b, H, I.tok tk, rfl, q⟩
  cases ty with
  | non => cases (show u = Value.none from r1); exact PySem.W.kia_tup PySem.W.kitx_none I.kIn True.intro ho e (fun z => nomatch z) fin
  | bl y => cases (show u = Value.bool y from r1); exact PySem.W.kia_tup PySem.W.kitx_bool I.kIn True.intro ho e (fun z => nomatch z) fin
  | int i => obtain ⟨t, q⟩ := (show ∃ t, u = Value.int i t from r1); cases q; exact PySem.W.kia_tup PySem.W.kitx_int I.kIn True.intro ho e (fun z => nomatch z) fin
  | str y => obtain ⟨t, q⟩ := (show ∃ t, u = Value.str y t from r1); cases q; exact PySem.W.kia_tup PySem.W.kitx_str I.kIn True.intro ho e (fun z => nomatch z) fin
  | flt y => obtain ⟨t, q⟩ := (show ∃ t, u = Value.float y t from r1); cases q; exact PySem.W.kia_tup PySem.W.kitx_float I.kIn True.intro ho e (fun z => nomatch z) fin
  | @lst c xs ea =>
    cases (show u = Value.ref c from r1)
    obtain ⟨_, _, n, _, h1⟩ := (show ObjOk X.prog X.w H s.heap c (.lst xs) from I.hok c _ ea)
    exact PySem.W.kia_tup PySem.W.kitx_list I.kIn ⟨_, h1, rfl⟩ ho e (fun z => nomatch z) fin
  | @frz c ob xs ea =>
    cases (show u = Value.ref c from r1)
    obtain ⟨_, _, _, n, _, h1⟩ := (show ObjOk X.prog X.w H s.heap c (.frz ob (.lst xs)) from I.hok c _ ea)
    exact PySem.W.kia_tup PySem.W.kitx_list I.kIn ⟨_, h1, rfl⟩ ho e (fun z => nomatch z) fin
  | @tup c xs ea =>
    cases (show u = Value.ref c from r1)
    obtain ⟨_, _, _, p⟩ := (show ObjOk X.prog X.w H s.heap c (.tup xs) from I.hok c _ ea)
    obtain ⟨o, h1, h2, _⟩ := p
    exact PySem.W.kia_tup PySem.W.kitx_tuple I.kIn ⟨o, h1, h2⟩ ho e (fun z => nomatch z) fin
  | @dK c kvs ea =>
    cases (show u = Value.ref c from r1)
    obtain ⟨_, _, vs, _, p⟩ := (show ObjOk X.prog X.w H s.heap c (.dK kvs) from I.hok c _ ea)
    obtain ⟨o, es, ep, h1, h2, _⟩ := p
    exact PySem.W.kia_tup PySem.W.kitx_dict I.kIn ⟨o, h1, h2.1⟩ ho e (fun z => nomatch z) fin
  | @dT c kvs ea =>
    cases (show u = Value.ref c from r1)
    obtain ⟨_, _, xs, _, o, es, ep, h1, h2, _⟩ := (show ObjOk X.prog X.w H s.heap c (.dT kvs) from I.hok c _ ea)
    exact PySem.W.kia_tup PySem.W.kitx_dict I.kIn ⟨o, h1, h2.1⟩ ho e (fun z => nomatch z) fin
  | @ins c C dx fs ea cl ha hn htk hm => exact absurd rfl (nc C)

/-! ### sorted of ints -/
theorem sorted_lay {pins : List (Addr × Obj)} {σ : St} {H : Hp} {s : Shared} {vs : List Value} {out : Array Value} {ns' : List Int} (I : Inv X pins σ H s) (hi : IntsAre out.toList ns') (hl : ns'.length ≤ sizeLine) :
    Inv X pins σ (upd H (s.heap.objs.size + 1) (.lst (ns'.map V.int))) { s with heap := sortedAll s.heap vs out } := by
  obtain ⟨e, he⟩ := sortedAll_at s.heap vs out
  refine I.laid (t' := s.toks) (fun b u q => sortedAll_old q) (Nat.le_succ _) ⟨by rw [List.length_map]; exact hl, out.toList, e, vals_ints hi, ?_⟩
  rw [he]
theorem call_sorted : CallR X (.builtin "sorted") (fun xs H Q => ∃ (a : Addr) (ns : List Int), xs = [.ref a] ∧ SqL X.K H a (ns.map V.int) ∧ ns.length < 64 ∧ ∀ (p : Addr) (ns' : List Int), H p = none → ns'.Perm ns → ns'.Pairwise (· ≤ ·) → Q (.ref p) (upd H p (.lst (ns'.map V.int)))) := by
  intro pins s σ H xs us Q I r h
  obtain ⟨a, ns, rfl, hS, h64, q⟩ := h
  obtain ⟨u, rfl, r1⟩ := vals1 r
  cases (show u = Value.ref a from r1)
  obtain ⟨its, rv, p, hz⟩ := I.list hS
  have hi := intsAre_of rv
  have hl : its.length = ns.length := by rw [← rv.length, List.length_map]
  refine sorted_ints p.isList hi (by omega) fun out ns' a1 a2 a3 => ?_
  have l2 := a2.length_eq
  refine ⟨.ref (s.heap.objs.size + 1), _, sorted_lay I a1 ?_, rfl, q _ ns' (I.hok.fresh (Nat.le_succ _)) a2 a3⟩
  rw [l2]
  exact Nat.le_trans (Nat.le_of_lt h64) (by decide)
/-- sorted(e, reverse=True) -/
def tSortR (K : PySem.W.Frag) (te : TE) : TE := fun σ H Q => te σ H fun x H1 => ∃ (a : Addr) (ns : List Int), x = .ref a ∧ SqL K H1 a (ns.map V.int) ∧ ns.length < 64 ∧ ∀ (p : Addr) (ns' : List Int), H1 p = none → ns'.Perm ns → ns'.Pairwise (· ≥ ·) → Q (.ref p) (upd H1 p (.lst (ns'.map V.int)))
theorem pe_sortR {e : Expr} {te : TE} {p pos kp cp : Pos} {k : Nat} (hg : Gl X "sorted") (hm : X.mg "sorted" = none) (he : PE X e te) (hs : starEach [e] X.env = [(false, eval e X.env)] := by rfl) :
    PE X (.Call (.Name "sorted" p) [e] [⟨some "reverse", .Constant (.bool true) k cp, kp⟩] pos) (tSortR X.K te) := by
  intro pins s σ H Q I h
  refine wpAny_Call_Name_kw (ld_blt I hg hm boot_sorted ?_ (by decide) (by decide))
  refine callWith_kw ?_ (by rw [hs]; rfl) (by rw [hs]; rfl)
  have hA := (pa_cons he pa_nil hs) pos pins s σ H (fun vs H1 => match vs with | [x] => (∃ (a : Addr) (ns : List Int), x = .ref a ∧ SqL X.K H1 a (ns.map V.int) ∧ ns.length < 64 ∧ ∀ (p : Addr) (ns' : List Int), H1 p = none → ns'.Perm ns → ns'.Pairwise (· ≥ ·) → Q (.ref p) (upd H1 p (.lst (ns'.map V.int)))) | _ => False) I h
  refine thn hA fun us s1 ⟨vs, H1, I1, r, q0⟩ => ?_
  match vs, r, q0 with
  | [x], r, ⟨a, ns, e2, hS, h64, q⟩ =>
    subst e2
    obtain ⟨u, rfl, r1⟩ := vals1 r
    cases (show u = Value.ref a from r1)
    refine kws_cons (Constant_bool (kws_nil ?_))
    obtain ⟨its, rv, pl, hz⟩ := I1.list hS
    have hi := intsAre_of rv
    have hl : its.length = ns.length := by rw [← rv.length, List.length_map]
    refine sorted_ints_rev (b := true) pl.isList hi (by omega) fun out ns' a1 a2 a3 => ?_
    have l2 := a2.length_eq
    refine ⟨.ref (s1.heap.objs.size + 1), _, sorted_lay I1 a1 ?_, rfl, q _ ns' (I1.hok.fresh (Nat.le_succ _)) a2 a3⟩
    rw [l2]
    exact Nat.le_trans (Nat.le_of_lt h64) (by decide)
end

/-! ### list(reversed(xs)) -/
theorem lri_len : typeLookup (.type "list_reverseiterator") "__len__" = pure none := by rw [typeLookup_type, builtinLookup_eq_fast]; kernel_rfl
theorem lri_hint : typeLookup (.type "list_reverseiterator") "__length_hint__" = pure (some (.builtin "list_reverseiterator.__length_hint__")) := by rw [typeLookup_type, builtinLookup_eq_fast]; kernel_rfl
theorem sub_lri : isSubtype (.type "list_reverseiterator") (.type "list_reverseiterator") = pure true := by rw [isSubtype_type]; kernel_rfl
section
variable {prog : Program} {w : World} {A : Around} {E : Value → Shared → Prop} {s : Shared} {it l : Addr} {items : Array Value}
theorem hint_lri {Q : Bool → Shared → Prop} (hT : s.TypeIs (.ref it) "list_reverseiterator") (h : Q false s) : wpAny (model prog w) A (Builtin.List.listLengthHint (.ref it)) Q E s := by
  unfold Builtin.List.listLengthHint
  refine wpAny_bind (wpAny_specialOf hT lri_len ?_)
  wp_delta
  refine wpAny_ite_split (fun hab => absurd hab (by decide +kernel)) (fun _ => ?_)
  refine wpAny_ite_split (fun hab => absurd hab (by decide +kernel)) (fun _ => ?_)
  refine wpAny_bind (wpAny_specialOf hT lri_hint ?_)
  generalize hid : ("list_reverseiterator.__length_hint__" : String) = idn
  wp_delta
  have hsp : splitId idn = some ("list_reverseiterator", "__length_hint__") := by subst hid; decide +kernel
  rw [hsp]
  subst hid
  refine wpAny_bind (wpAny_isInstance (T := "list_reverseiterator") (b := true) hT sub_lri ?_)
  refine wpAny_ite_split (fun z => absurd z (by decide)) (fun _ => ?_)
  refine wpAny_ite_split (fun _ => ?_) (fun z => absurd (by decide +kernel) z)
  refine wpAny_ite_split (fun z => absurd z (by decide +kernel)) (fun _ => ?_)
  exact wpAny_pure h

/-- list(it) of a reversed list's iterator -/
theorem list_lri {Q : Value → Shared → Prop} (hh : A.handled = none) (hit : s.heap.IsRevIter it l ((items.size : Int) - 1)) (hl : s.heap.IsList l items) (hne : l ≠ it) (hz : items.size ≤ sizeLine)
    (hQ : ∀ h' tk acc c, (∀ b o, b ≠ it → s.heap.get? b = some o → h'.get? b = some o) → h'.get? s.heap.objs.size = some { cls := .type "list", dict := none, data := .seq acc c, slots := #[] } → acc.toList = items.toList.reverse →
      Q (.ref s.heap.objs.size) { s with heap := h', toks := tk }) : wpAny (model prog w) A (call (.type "list") [.ref it]) Q E s := by
  have lt1 : it < s.heap.objs.size := let ⟨_, e, _⟩ := hit; Heap.lt_size e
  have lt2 : l < s.heap.objs.size := let ⟨_, e, _⟩ := hl; Heap.lt_size e
  generalize hS0 : s.heap.objs.size = S at *
  have nSi : S ≠ it := Nat.ne_of_gt lt1
  have nSl : S ≠ l := Nat.ne_of_gt lt2
  refine callType_codes (Q₁ := fun obj s1 => obj = .ref S ∧ s1 = { s with heap := s.heap.push { cls := .type "list", data := .seq #[] } }) PySem.F.called_list (PySem.F.typeCall_list_1 _) PySem.F.entry_list_init (code_list_new _ ⟨by rw [hS0], rfl⟩) fun obj s1 e1 => ?_
  obtain ⟨rfl, rfl⟩ := e1
  have eS : (s.heap.push { cls := .type "list", data := .seq #[] }).get? S = some { cls := .type "list", data := .seq #[] } := by rw [← hS0]; exact Heap.get?_push_size _ rfl
  refine ⟨⟨_, eS, rfl⟩, PySem.F.args_list_init_2 _ _, ?_⟩
  show wpAny _ _ (do let was ← Builtin.List.listItems (.ref S); Builtin.List.listUpdate (.ref S) (fun _ => #[]); letGo was.toList.reverse; Builtin.List.listExtendWith (.ref S) (.ref it) .none) _ _ _
  refine wpAny_bind ?_
  unfold Builtin.List.listItems
  refine wpAny_bind (wpAny_seqItems eS rfl (wpAny_pure ?_))
  show wpAny _ _ (updateSeq S (fun _ => #[]) >>= fun _ => letGo (#[] : Array Value).toList.reverse >>= fun _ => Builtin.List.listExtendWith (.ref S) (.ref it) .none) _ _ _
  refine wpAny_bind (wpAny_updateSeq eS rfl ?_)
  have eS2 := Heap.get?_update_self (Obj.mapSeq (fun _ => (#[] : Array Value))) eS rfl
  have up : ∀ b o, s.heap.get? b = some o → ((s.heap.push { cls := .type "list", data := .seq #[] }).update S (Obj.mapSeq (fun _ => (#[] : Array Value)))).get? b = some o := fun b o e => by
    have hb : b ≠ S := by
      have := Heap.lt_size e
      rw [hS0] at this
      exact Nat.ne_of_lt this
    rw [Heap.get?_update_other _ _ (Ne.symm hb)]
    exact Heap.get?_push_of_some _ e
  refine wpAny_bind (wpAny_letGo ?_)
  generalize hh2 : (s.heap.push { cls := .type "list", data := .seq #[] }).update S (Obj.mapSeq (fun _ => (#[] : Array Value))) = h2 at *
  have hit2 : h2.IsRevIter it l ((items.size : Int) - 1) := hit.at fun o e => up it o e
  have hl2 : h2.IsList l items := hl.at fun o e => up l o e
  have eS3 : ∃ c0, h2.get? S = some { cls := .type "list", data := .seq #[] c0 } := ⟨_, eS2⟩
  obtain ⟨c0, eS3⟩ := eS3
  unfold Builtin.List.listExtendWith
  refine wpAny_bind (wpAny_typeOf (T := "list_reverseiterator") (Heap.IsRevIter.typeIs (s := { s with heap := h2 }) hit2) ?_)
  have h1 : Builtin.List.listSameRef (.ref S) (.ref it) = false := by simp [Builtin.List.listSameRef, nSi]
  have k1 : (Value.type "list_reverseiterator" == Value.type "list") = false := by decide
  have k2 : (Value.type "list_reverseiterator" == Value.type "tuple") = false := by decide
  simp only [h1, k1, k2, Bool.or_false, Bool.false_eq_true, if_false]
  refine wpAny_bind (wpAny_pyIter_revIter (s := { s with heap := h2 }) hit2 ?_)
  refine wpAny_bind (wpAny_holding (hint_lri (s := { s with heap := h2 }) (Heap.IsRevIter.typeIs (s := { s with heap := h2 }) hit2) ?_))
  refine wpAny_ite_split (fun z => absurd z (by decide +kernel)) (fun _ => ?_)
  have hSf : S ∉ [it, l] := by
    simp only [List.mem_cons, List.not_mem_nil, or_false, not_or]
    exact ⟨nSi, nSl⟩
  refine wpAny_pure ⟨plainId_quiet PySem.F.plain_extend_loop _, ?_⟩
  have W := Walks.listRev (prog := prog) (w := w) (A := A.in1.in1) hh it l hne items
  refine codeAny_extend_loopS W.toS hz S hSf .none items.size 0 _ #[] c0 rfl (Nat.zero_le _) ⟨Nat.zero_le _, by simpa using hit2, hl2⟩ eS3 (ItemsOf.nil _) fun s' acc c' mv eS4 hacc => ?_
  rw [Moved.eq_with mv]
  refine ⟨rfl, hQ s'.heap s'.toks acc c' (fun b o hb e => mv.heap b o (fun hm => ?_) (up b o e)) eS4 ?_⟩
  · rcases List.mem_cons.mp hm with z | z
    · have := Heap.lt_size e
      rw [hS0, z] at this
      exact Nat.lt_irrefl _ this
    · exact hb (List.mem_singleton.mp z)
  · refine List.ext_getElem? fun j => ?_
    by_cases hj : j < items.size
    · have ha : acc[j]? = some (acc[j]'(by rw [hacc.1]; exact hj)) := Array.getElem?_eq_getElem _
      have hp := hacc.2 j _ ha
      rw [List.getElem?_reverse (by simpa using hj), Array.getElem?_toList, Array.getElem?_toList, ha, Array.length_toList]
      exact hp.symm
    · rw [List.getElem?_eq_none (by rw [Array.length_toList, hacc.1]; omega), List.getElem?_eq_none (by rw [List.length_reverse, Array.length_toList]; omega)]
end

/-- an object of ours that stands there is tracked from now on -/
theorem Inv.adopt {X : Cx} {pins : List (Addr × Obj)} {σ : St} {H : Hp} {s : Shared} {p : Addr} {o : HO} (I : Inv X pins σ H s) (f : FpOk X pins H p) (new : ObjOk X.prog X.w (upd H p o) s.heap p o) : Inv X pins σ (upd H p o) s := by
  have ne : ∀ b u, H b = some u → b ≠ p := fun b u e => ne_of_none e f.1
  refine I.step (h' := s.heap) (g' := s.gens) (d' := s.drawn) (t' := s.toks) (ch := [p]) (fun b hb => ?_) (fun b o _ _ _ e _ => e) (fun b o _ _ _ e _ => ⟨o.slots, e⟩) (fun b o hb _ n => ?_) (fun b o _ e => ⟨o, e⟩) (fun b xs e => ?_) (fun b u v e => ?_) (fun b ps e => ⟨#[], ?_⟩) (fun m hm => hm) (fun b u e => ?_) I.bare
  · have e : b = p := by simpa using hb
    subst e
    exact ⟨f.2.2.2.1, f.2.1, f.2.2.2.2.1, f.2.2.2.2.2⟩
  · rw [upd_ne (fun z => hb (by simp [z]))]; exact n
  · rw [upd_ne (ne b _ e)]; exact e
  · rw [upd_ne (ne b _ e)]; exact e
  · rw [upd_ne (ne b _ e), e]; simp
  · by_cases hb : b = p
    · subst hb
      rw [upd_same] at e
      cases e
      exact new
    · rw [upd_ne hb] at e
      exact (I.hok b u e).stay (fun c v _ q => q) (fun c q => by rw [upd_ne (ne c _ q)]; exact q) fun c xs q => by rw [upd_ne (ne c _ q)]; exact q
section
variable {X : Cx}
/-- list(reversed(e)) -/
def tRevL (K : PySem.W.Frag) (te : TE) : TE := fun σ H Q => te σ H fun x H1 => ∃ (a : Addr) (xs : List V), x = .ref a ∧ SqL K H1 a xs ∧ ∀ p : Addr, H1 p = none → Q (.ref p) (upd H1 p (.lst xs.reverse))
theorem pe_revL {e : Expr} {te : TE} {p p2 pos pos2 : Pos} (hc : X.calm = true) (hg : Gl X "list") (hm : X.mg "list" = none) (hg2 : Gl X "reversed") (hm2 : X.mg "reversed" = none) (he : PE X e te) (hs : starEach [e] X.env = [(false, eval e X.env)] := by rfl)
    (hs2 : starEach [.Call (.Name "reversed" p2) [e] [] pos2] X.env = [(false, eval (.Call (.Name "reversed" p2) [e] [] pos2) X.env)] := by rfl) :
    PE X (.Call (.Name "list" p) [.Call (.Name "reversed" p2) [e] [] pos2] [] pos) (tRevL X.K te) := by
  intro pins s σ H Q I h
  refine wpAny_Call_Name_kw (ld_blt I hg hm boot_list ?_ (by decide) (by decide))
  refine PyProof.Rows.callWith_type1 ?_ hs2 rfl
  rw [hs2]
  refine Calls.spliced_cons ?_
  refine wpAny_Call_Name_kw (ld_blt I hg2 hm2 PyProof.Rows.Boot.«reversed» ?_ (by decide) (by decide))
  refine PyProof.Rows.callWith_type1 ?_ hs rfl
  have hA := (pa_cons he pa_nil hs) pos2 pins s σ H (fun vs H1 => match vs with | [x] => (∃ (a : Addr) (xs : List V), x = .ref a ∧ SqL X.K H1 a xs ∧ ∀ p : Addr, H1 p = none → Q (.ref p) (upd H1 p (.lst xs.reverse))) | _ => False) I h
  refine thn hA fun us s1 ⟨vs, H1, I1, r, q0⟩ => ?_
  match vs, r, q0 with
  | [x], r, ⟨a, xs, e2, hS, q⟩ =>
    subst e2
    obtain ⟨u, rfl, r1⟩ := vals1 r
    cases (show u = Value.ref a from r1)
    obtain ⟨its, rv, pl, hz⟩ := I1.list hS
    refine call_reversed_list pl.isList (Calls.spliced_nil ?_)
    generalize hi0 : s1.heap.objs.size = it
    have nit : s1.heap.get? it = none := hi0 ▸ Heap.get?_none_of_le (Nat.le_refl _)
    have hnt : H1 it = none := I1.hok.fresh (Nat.le_of_eq hi0)
    have eit : (s1.heap.push (revObj a ((its.toArray.size : Int) - 1))).get? it = some (revObj a ((its.toArray.size : Int) - 1)) := by rw [← hi0]; exact Heap.get?_push_size _ rfl
    have I2 : Inv X pins σ H1 { s1 with heap := s1.heap.push (revObj a ((its.toArray.size : Int) - 1)) } := I1.kept (t' := s1.toks) fun b o q => Heap.get?_push_of_some _ q
    have hl2 : (s1.heap.push (revObj a ((its.toArray.size : Int) - 1))).IsList a its.toArray := pl.isList.push _
    have hne : a ≠ it := by
      obtain ⟨o, ho, _⟩ := pl.isList
      exact fun z => by rw [z, nit] at ho; cases ho
    have lz : its.length = xs.length := rv.length.symm
    refine list_lri (s := { s1 with heap := s1.heap.push (revObj a ((its.toArray.size : Int) - 1)) }) (I2.ok.hd hc) ⟨_, eit, rfl, rfl⟩ hl2 hne (by rw [List.size_toArray, lz]; exact hz) fun h' tk acc c k eS ea => ?_
    have f := I1.fpNew nit hnt
    generalize hp0 : (s1.heap.push (revObj a ((its.toArray.size : Int) - 1))).objs.size = pn at eS ⊢
    have hpn : pn = it + 1 := by rw [← hp0, Heap.size_push, hi0]
    have hfr : H1 pn = none := I2.hok.fresh (Nat.le_of_eq hp0)
    refine ⟨.ref pn, upd H1 pn (.lst xs.reverse), ?_, rfl, q _ hfr⟩
    have I3 : Inv X pins σ H1 { s1 with heap := h', toks := tk } := I2.turned (t' := tk) (fun b o hb e => k b o hb e) hnt f.2.1 f.2.2.2.1 f.2.2.2.2.1 f.2.2.2.2.2
    have fp : FpOk X pins H1 pn := I2.fpNew (hp0 ▸ Heap.get?_none_of_le (Nat.le_refl _)) hfr
    refine I3.adopt fp ⟨by rw [List.length_reverse]; exact hz, its.reverse, c, ?_, ?_⟩
    · exact rv.reverse
    · show h'.get? pn = _
      rw [eS, ← ea]
end
end L2

namespace L2
open PySem PySem.Spec PyProof.Rows
/-! ### f'..{e!r}..' -/
section
variable {X : Cx}
def tF3 (a b : Str) (te : TE) : TE := fun σ H Q => te σ H fun x H1 => ∃ z : Str, x = .str z ∧ (reprText z).length ≤ 1000 ∧ Q (.str (Str.empty ++ a ++ reprText z ++ b)) H1
theorem pe_f3 {a b : Str} {e : Expr} {te : TE} {k k' : Nat} {pa pb pf pos : Pos} (he : PE X e te) (la : a.length ≤ 1000) (h3 : b.length ≤ 1000) :
    PE X (.JoinedStr [.Constant (.str a) k pa, .FormattedValue e 114 none pf, .Constant (.str b) k' pb] pos) (tF3 a b te) := by
  intro pins s σ H Q I h
  refine wpAny_JoinedStr ?_
  have lw : ∀ n : Nat, n ≤ 3000 → n ≤ sizeLine := fun n hn => Nat.le_trans hn (by decide)
  have l0 : (Str.empty : Str).length = 0 := by decide +kernel
  refine Calls.Constant_str ?_
  refine ⟨a, _, rfl, lw _ (by rw [strLen_append, l0]; omega), ?_⟩
  refine wpAny_FormattedValue_repr (thn (he pins _ σ H _ (I.tok _) h) fun u s1 ⟨x, H1, I1, r1, z, e1, h1, q⟩ => ?_)
  subst e1
  obtain ⟨t, rfl⟩ := (show ∃ t, u = Value.str z t from r1)
  refine pyReprObj_str (hx := lw _ (by omega)) ?_
  refine formatField_str (hsz := lw _ (by omega)) fun t' tk => ?_
  refine ⟨_, t', rfl, lw _ (by rw [strLen_append, strLen_append, l0]; omega), ?_⟩
  refine Calls.Constant_str ⟨b, _, rfl, lw _ (by rw [strLen_append, strLen_append, strLen_append, l0]; omega), ?_⟩
  exact ⟨lw _ (by rw [strLen_append, strLen_append, strLen_append, l0]; omega), .str _, H1, ((I1.tok _).tok _).tok _, ⟨_, rfl⟩, q⟩
end
end L2

namespace FB
open PySem

/-! ### plain data: no bools, no dicts, of bounded depth -/
def okD : Nat → PyData → Bool
  | _, .none => true
  | _, .int _ => true
  | _, .str x => PyData.strOk x
  | k + 1, .list xs => xs.all (okD k)
  | k + 1, .tuple xs => xs.all (okD k)
  | _, _ => false
mutual
def wgt : PyData → Nat
  | .list xs => wgts xs + 1
  | .tuple xs => wgts xs + 1
  | .none => 1
  | .bool _ => 1
  | .int _ => 1
  | .str _ => 1
  | .dict _ => 1
def wgts : List PyData → Nat
  | [] => 0
  | x :: xs => wgt x + wgts xs
end
theorem wgt_pos : ∀ d : PyData, 1 ≤ wgt d
  | .list xs => by simp [wgt]
  | .tuple xs => by simp [wgt]
  | .none => by simp [wgt]
  | .bool _ => by simp [wgt]
  | .int _ => by simp [wgt]
  | .str _ => by simp [wgt]
  | .dict _ => by simp [wgt]
theorem wgts_append : ∀ xs ys : List PyData, wgts (xs ++ ys) = wgts xs + wgts ys
  | [], ys => by simp [wgts]
  | x :: xs, ys => by
    rw [List.cons_append, wgts, wgts, wgts_append xs ys]
    omega
theorem wgts_length : ∀ xs : List PyData, xs.length ≤ wgts xs
  | [] => Nat.zero_le _
  | x :: xs => by
    have h1 := wgt_pos x
    have h2 := wgts_length xs
    rw [wgts, List.length_cons]
    omega
theorem wgts_one (d : PyData) : wgts [d] = wgt d := by simp [wgts]
theorem wgts_map {α : Type} (f : α → PyData) (k : Nat) : ∀ xs : List α, (∀ x ∈ xs, wgt (f x) ≤ k) → wgts (xs.map f) ≤ xs.length * k
  | [], _ => by simp [wgts]
  | x :: xs, h => by
    have h1 := h x (by simp)
    have h2 := wgts_map f k xs fun y hy => h y (by simp [hy])
    rw [List.map_cons, wgts, List.length_cons, Nat.succ_mul]
    omega
theorem okD_lay : ∀ (k : Nat) (d : PyData), okD k d = true → d.canLay0 = true ∧ d.depth ≤ k := by
  intro k
  induction k with
  | zero =>
    intro d h
    cases d <;> simp_all [okD, PyData.canLay0, PyData.depth]
  | succ k ih =>
    have all : ∀ xs : List PyData, xs.all (okD k) = true → PyData.canLayAll0 xs = true ∧ PyData.depthAll xs ≤ k := by
      intro xs
      induction xs with
      | nil => intro _; exact ⟨rfl, Nat.zero_le _⟩
      | cons x xs ihx =>
        intro h
        rw [List.all_cons, Bool.and_eq_true] at h
        have h1 := ih x h.1
        have h2 := ihx h.2
        refine ⟨?_, ?_⟩
        · rw [PyData.canLayAll0, h1.1, h2.1]; rfl
        · rw [PyData.depthAll]; omega
    intro d h
    cases d with
    | list xs =>
      have z := all xs (by simpa [okD] using h)
      exact ⟨by rw [PyData.canLay0]; exact z.1, by rw [PyData.depth]; omega⟩
    | tuple xs =>
      have z := all xs (by simpa [okD] using h)
      exact ⟨by rw [PyData.canLay0]; exact z.1, by rw [PyData.depth]; omega⟩
    | dict kvs => simp [okD] at h
    | bool b => simp [okD] at h
    | none => simp [PyData.canLay0, PyData.depth]
    | int i => simp [PyData.canLay0, PyData.depth]
    | str x => simp_all [okD, PyData.canLay0, PyData.depth]
theorem okD_shaped {k : Nat} {d : PyData} (h : okD k d = true) (hk : k ≤ 64) : SeqAt.shaped d = true := by
  have z := okD_lay k d h
  unfold SeqAt.shaped
  rw [z.1, Bool.true_and]
  exact decide_eq_true (Nat.le_trans z.2 hk)
theorem okD_mono : ∀ (k : Nat) (d : PyData) (j : Nat), k ≤ j → okD k d = true → okD j d = true := by
  intro k
  induction k with
  | zero => intro d j _ h; cases d <;> cases j <;> simp_all [okD]
  | succ k ih =>
    intro d j hj h
    obtain ⟨i, rfl⟩ : ∃ i, j = i + 1 := ⟨j - 1, by omega⟩
    cases d with
    | list xs =>
      rw [okD, List.all_eq_true] at h ⊢
      exact fun x hx => ih x i (by omega) (h x hx)
    | tuple xs =>
      rw [okD, List.all_eq_true] at h ⊢
      exact fun x hx => ih x i (by omega) (h x hx)
    | _ => simp_all [okD]

/-! ### needs, entries, shelves -/
abbrev Nd := Str × Int × Int
abbrev En := Str × Int × List Nd
def ndD (n : Nd) : PyData := .tuple [.str n.1, .int n.2.1, .int n.2.2]
def enD (e : En) : PyData := .tuple [.str e.1, .int e.2.1, .list (e.2.2.map ndD)]
def keyOf (e : En) : Str × Int := (e.1, e.2.1)
/-- a part's name: its letters are letters, and it is short when shown -/
structure PartOk (x : Str) : Prop where
  ok : PyData.strOk x = true
  sh : (reprText x).length ≤ 1000
structure EnOk (e : En) : Prop where
  pt : PartOk e.1
  nd : ∀ n ∈ e.2.2, PartOk n.1
  few : e.2.2.length ≤ 100
theorem ndD_ok {n : Nd} (h : PartOk n.1) : okD 1 (ndD n) = true := by simp [ndD, okD, h.ok]
theorem enD_ok {e : En} (h : EnOk e) : okD 3 (enD e) = true := by
  have z : (e.2.2.map ndD).all (okD 1) = true := by
    rw [List.all_eq_true]
    intro d hd
    obtain ⟨n, hn, rfl⟩ := List.mem_map.mp hd
    exact ndD_ok (h.nd n hn)
  simp [enD, okD, h.pt.ok]
  simpa using z
theorem shD_ok {es : List En} (h : ∀ e ∈ es, EnOk e) : okD 4 (.list (es.map enD)) = true := by
  rw [okD, List.all_eq_true]
  intro d hd
  obtain ⟨e, he, rfl⟩ := List.mem_map.mp hd
  exact enD_ok (h e he)
theorem wgt_nd (n : Nd) : wgt (ndD n) = 4 := by simp [ndD, wgt, wgts]
theorem wgt_en {e : En} (h : EnOk e) : wgt (enD e) ≤ 500 := by
  have z := wgts_map ndD 4 e.2.2 fun n _ => Nat.le_of_eq (wgt_nd n)
  have := h.few
  simp only [enD, wgt, wgts]
  omega
theorem wgt_sh {es : List En} (h : ∀ e ∈ es, EnOk e) (hl : es.length ≤ 100) : wgt (.list (es.map enD)) ≤ 60000 := by
  have z := wgts_map enD 500 es fun e he => wgt_en (h e he)
  rw [wgt]
  have : es.length * 500 ≤ 100 * 500 := Nat.mul_le_mul_right _ hl
  omega

/-! ### what is asked of fitting -/
def meetsB (n : Nd) (e : En) : Bool := decide (e.1 = n.1) && (decide (n.2.1 ≤ e.2.1) && decide (e.2.1 ≤ n.2.2))
def metOf (es : List En) (n : Nd) : List Int := (es.filter (meetsB n)).map fun e => e.2.1
theorem metOf_length (es : List En) (n : Nd) : (metOf es n).length ≤ es.length := by
  unfold metOf
  rw [List.length_map]
  exact List.length_filter_le _ _
theorem metOf_snoc (es : List En) (e : En) (n : Nd) : metOf (es ++ [e]) n = if meetsB n e = true then metOf es n ++ [e.2.1] else metOf es n := by
  unfold metOf
  rw [List.filter_append, List.map_append]
  by_cases h : meetsB n e = true
  · rw [if_pos h, List.filter_cons, if_pos h]; rfl
  · rw [if_neg h, List.filter_cons, if_neg h]; simp
end FB

namespace FB
open PySem L2 PyProof.Rows

/-! ### heaps without some addresses -/
def del (H : Hp) (ps : List Addr) : Hp := fun b => if b ∈ ps then none else H b
theorem del_out {H : Hp} {ps : List Addr} {b : Addr} (h : b ∉ ps) : del H ps b = H b := by unfold del; rw [if_neg h]
theorem del_in {H : Hp} {ps : List Addr} {b : Addr} (h : b ∈ ps) : del H ps b = none := by unfold del; rw [if_pos h]
theorem same_del (H : Hp) (ps : List Addr) : Same (del H ps) H := fun b o e => by
  by_cases h : b ∈ ps
  · rw [del_in h] at e; cases e
  · rw [del_out h] at e; exact e
theorem del_upd {H : Hp} {ps : List Addr} {p : Addr} {o : HO} (h : p ∈ ps) : del (upd H p o) ps = del H ps := by
  funext b
  by_cases hb : b ∈ ps
  · rw [del_in hb, del_in hb]
  · rw [del_out hb, del_out hb, upd_ne (fun z => hb (by rw [z]; exact h))]
theorem Same.del {H H' : Hp} (e : Same H H') (ps : List Addr) : Same (del H ps) (del H' ps) := fun b o q => by
  by_cases h : b ∈ ps
  · rw [del_in h] at q; cases q
  · rw [del_out h] at q ⊢; exact e b o q
theorem same_new {H : Hp} {p : Addr} (h : H p = none) (o : HO) : Same H (upd H p o) := fun b u q => by rw [upd_ne (ne_of_none q h)]; exact q
/-- a change at an address that the elder heap did not have -/
theorem Same.upd {H H' : Hp} (e : Same H H') {p : Addr} {o : HO} (h : H p = none) : Same H (upd H' p o) := fun b u q => by rw [upd_ne (ne_of_none q h)]; exact e b u q
theorem Same.get {H H' : Hp} (e : Same H H') {b : Addr} {o : HO} (h : H b = some o) : H' b = some o := e b o h
theorem Same.sqT {K : PySem.W.Frag} {H H' : Hp} {a : Addr} {xs : List V} (e : Same H H') (h : SqT K H a xs) : SqT K H' a xs := by
  rcases h with (h | ⟨o, h⟩) | h
  · exact .inl (.inl (e _ _ h))
  · exact .inl (.inr ⟨o, e _ _ h⟩)
  · exact .inr h

/-! ### needs, picks, entries, shelves in the heap -/
def NdAt (H : Hp) (v : V) (n : Nd) : Prop := ∃ q, v = .ref q ∧ H q = some (.tup [.str n.1, .int n.2.1, .int n.2.2])
def PkAt (H : Hp) (v : V) (k : Str × Int) : Prop := ∃ q, v = .ref q ∧ H q = some (.tup [.str k.1, .int k.2])
def EnAt (H : Hp) (v : V) (e : En) : Prop := ∃ q a xs, v = .ref q ∧ H q = some (.tup [.str e.1, .int e.2.1, .ref a]) ∧ H a = some (.lst xs) ∧ Paired (NdAt H) xs e.2.2
def ShAt (H : Hp) (a : Addr) (es : List En) : Prop := ∃ xs, H a = some (.lst xs) ∧ Paired (EnAt H) xs es
theorem NdAt.same {H H' : Hp} (e : Same H H') {v : V} {n : Nd} (h : NdAt H v n) : NdAt H' v n := let ⟨q, h1, h2⟩ := h; ⟨q, h1, e _ _ h2⟩
theorem PkAt.same {H H' : Hp} (e : Same H H') {v : V} {k : Str × Int} (h : PkAt H v k) : PkAt H' v k := let ⟨q, h1, h2⟩ := h; ⟨q, h1, e _ _ h2⟩
theorem EnAt.same {H H' : Hp} (e : Same H H') {v : V} {n : En} (h : EnAt H v n) : EnAt H' v n :=
  let ⟨q, a, xs, h1, h2, h3, h4⟩ := h; ⟨q, a, xs, h1, e _ _ h2, e _ _ h3, Paired.mapP h4 fun _ _ z => NdAt.same e z⟩
theorem ShAt.same {H H' : Hp} (e : Same H H') {a : Addr} {es : List En} (h : ShAt H a es) : ShAt H' a es :=
  let ⟨xs, h1, h2⟩ := h; ⟨xs, e _ _ h1, Paired.mapP h2 fun _ _ z => EnAt.same e z⟩
theorem NdAt.rep {H : Hp} {v : V} {n : Nd} (h : NdAt H v n) : Rep H v (ndD n) := by
  obtain ⟨q, rfl, h2⟩ := h
  exact .tup h2 (.cons (.str _) (.cons (.int _) (.cons (.int _) .nil)))
def pkD (k : Str × Int) : PyData := .tuple [.str k.1, .int k.2]
theorem PkAt.rep {H : Hp} {v : V} {k : Str × Int} (h : PkAt H v k) : Rep H v (pkD k) := by
  obtain ⟨q, rfl, h2⟩ := h
  exact .tup h2 (.cons (.str _) (.cons (.int _) .nil))
theorem reps_of {H : Hp} {α : Type} {R : V → α → Prop} {f : α → PyData} (h : ∀ v a, R v a → Rep H v (f a)) : ∀ {vs : List V} {as : List α}, Paired R vs as → Reps H vs (as.map f)
  | _, _, .nil => .nil
  | _, _, .cons r t => .cons (h _ _ r) (reps_of h t)
theorem EnAt.rep {H : Hp} {v : V} {e : En} (h : EnAt H v e) : Rep H v (enD e) := by
  obtain ⟨q, a, xs, rfl, h2, h3, h4⟩ := h
  exact .tup h2 (.cons (.str _) (.cons (.int _) (.cons (.lst h3 (reps_of (fun _ _ z => NdAt.rep z) h4)) .nil)))
theorem ShAt.rep {H : Hp} {a : Addr} {es : List En} (h : ShAt H a es) : Rep H (.ref a) (.list (es.map enD)) := by
  obtain ⟨xs, h1, h2⟩ := h
  exact .lst h1 (reps_of (fun _ _ z => EnAt.rep z) h2)
theorem ints_reps (H : Hp) : ∀ ns : List Int, Reps H (ns.map V.int) (ns.map PyData.int)
  | [] => .nil
  | n :: ns => .cons (.int n) (ints_reps H ns)
theorem Paired.getR {α β : Type} {F : α → β → Prop} : ∀ {as : List α} {bs : List β} {i : Nat} {a : α}, Paired F as bs → as[i]? = some a → ∃ b, bs[i]? = some b ∧ F a b
  | _, _, _, _, .nil, e => by simp at e
  | _, _, 0, _, .cons r _, e => by simp at e; subst e; exact ⟨_, rfl, r⟩
  | _, _, i + 1, a, .cons _ t, e => by
    obtain ⟨b, h1, h2⟩ := Paired.getR (i := i) (a := a) t (by simpa using e)
    exact ⟨b, by simpa using h1, h2⟩

/-! ### places -/
theorem at_any {xs : List V} {i : Int} (h0 : 0 ≤ i) (h1 : i < (xs.length : Int)) : ∃ v, atI xs i = some v ∧ v ∈ xs := by
  have hk : i.toNat < xs.length := by omega
  have ek : i = ((i.toNat : Nat) : Int) := by omega
  have q : atI xs ((i.toNat : Nat) : Int) = some xs[i.toNat] := atI_nat (List.getElem?_eq_getElem hk)
  rw [← ek] at q
  exact ⟨_, q, List.getElem_mem hk⟩
theorem at_ints {ns : List Int} {i : Int} (h0 : 0 ≤ i) (h1 : i < (ns.length : Int)) : ∃ z, atI (ns.map V.int) i = some (.int z) ∧ z ∈ ns := by
  obtain ⟨v, h2, h3⟩ := at_any (xs := ns.map V.int) h0 (by rw [List.length_map]; exact h1)
  obtain ⟨z, h4, rfl⟩ := List.mem_map.mp h3
  exact ⟨z, h2, h4⟩
theorem at_nth {xs : List V} {i : Nat} {v : V} (h : xs[i]? = some v) : atI xs (i : Int) = some v := atI_nat h
theorem small {n : Nat} (h : n ≤ 1000) : n ≤ sizeLine := Nat.le_of_lt (small1000 h)
end FB

namespace L2
open PySem PySem.Spec PyProof.Rows

/-! ### dicts whose keys are None and tuples of ints and texts -/
section
variable {P : Program} {w : World}
/-- in the heap h the value u is the key -/
def IsN (P : Program) (w : World) (h : Heap) : NKey → Value → Prop
  | none, u => u = .none
  | some ks, u => ∃ b, u = .ref b ∧ (tupleKind (mixKind P w)).is h ks b
theorem IsN.inj {h : Heap} {u : Value} : ∀ {x y : NKey}, IsN P w h x u → IsN P w h y u → x = y
  | none, none, _, _ => rfl
  | none, some _, hx, ⟨b, e, _⟩ => by rw [show u = Value.none from hx] at e; cases e
  | some _, none, ⟨b, e, _⟩, hy => by rw [show u = Value.none from hy] at e; cases e
  | some x, some y, ⟨b, e, hb⟩, ⟨c, f, hc⟩ => by rw [e] at f; cases f; rw [(tupleKind (mixKind P w)).inj hb hc]
theorem IsN.keep {h h' : Heap} {k : NKey} {u : Value} {d : Addr} {o : Obj} {es : Array DictEntry} {ep : Nat} (x : IsN P w h k u) (ho : h.get? d = some o) (hd : o.data = .dict es ep) (hs : Heap.SameBut d h h') : IsN P w h' k u := by
  cases k with
  | none => exact x
  | some ks => obtain ⟨b, e, hb⟩ := x; exact ⟨b, e, (tupleKind (mixKind P w)).keeps hb ho hd hs⟩
/-- a tracked key -/
theorem keyN_is {H : Hp} {h : Heap} {k : NKey} {u : Value} (ok : HOk P w H h) (x : KeyN H k u) : IsN P w h k u := by
  cases k with
  | none => exact x
  | some ks => obtain ⟨b, e, hb⟩ := x; exact ⟨b, e, key_of ok hb⟩

variable {A : Around} {E : Value → Shared → Prop} {s : Shared}
theorem n_hash {k : NKey} {u : Value} {Q : Int → Shared → Prop} (hu : A.units < cLine) (hk : IsN P w s.heap k u) (h : ∀ tk, Q (hashN P w k) { s with toks := tk }) : wpAny (model P w) A (pyHash u) Q E s := by
  cases k with
  | none =>
    rw [show u = Value.none from hk]
    exact PySem.W.pyHash_laid .none .none A s Q rfl .none hu h
  | some ks =>
    obtain ⟨b, rfl, hb⟩ := hk
    exact (tupleKind (mixKind P w)).pyHash hu hb (h _)
theorem n_tuple {h : Heap} {ks : List Key} {b : Addr} (x : (tupleKind (mixKind P w)).is h ks b) : ∃ its, h.IsTuple b its := by
  obtain ⟨o, its, n, h1, h2, h3, _⟩ := (show IsTupleKey (mixKind P w) h ks b from x)
  exact ⟨its, o, h1, h2, n, h3⟩
theorem n_eq {x y : NKey} {u v : Value} {Q : Bool → Shared → Prop} (hu : A.units < cLine) (hx : IsN P w s.heap x u) (hy : IsN P w s.heap y v) (h : Q (decide (x = y)) s) : wpAny (model P w) A (eqBool u v) Q E s := by
  cases x with
  | none =>
    rw [show u = Value.none from hx]
    cases y with
    | none =>
      rw [show v = Value.none from hy]
      exact SeqAt.eqBoolOverData P w A E s .none .none .none .none _ _ Q .none .none rfl rfl hu h
    | some ys =>
      obtain ⟨b, rfl, hb⟩ := hy
      obtain ⟨its, ht⟩ := n_tuple hb
      exact SeqAt.EqAt.none_tuple ht hu P w E Q h
  | some xs =>
    obtain ⟨b, rfl, hb⟩ := hx
    cases y with
    | none =>
      rw [show v = Value.none from hy]
      obtain ⟨its, ht⟩ := n_tuple hb
      exact SeqAt.EqAt.tuple_none ht hu P w E Q h
    | some ys =>
      obtain ⟨c, rfl, hc⟩ := hy
      refine (tupleKind (mixKind P w)).eqBool hu hb hc ?_
      by_cases q : xs = ys
      · subst q; simpa using h
      · rw [decide_eq_false q]
        rw [decide_eq_false (fun z => q (Option.some.inj z))] at h
        exact h
theorem n_quiet {k : NKey} {u : Value} {Q : Bool → Shared → Prop} (hk : IsN P w s.heap k u) (h : Q true s) : wpAny (model P w) A (eqIsQuiet 8 u) Q E s := by
  cases k with
  | none => rw [show u = Value.none from hk]; exact wpAny_pure h
  | some ks => obtain ⟨b, rfl, hb⟩ := hk; exact (tupleKind (mixKind P w)).quiet hb h
theorem n_tells {k : NKey} {u : Value} {us : List Value} {Q : Bool → Shared → Prop} (hk : IsN P w s.heap k u) (hus : ∀ v ∈ us, ∃ j, IsN P w s.heap j v) (h : Q false s) : wpAny (model P w) A (tableMayTell u us) Q E s := by
  unfold tableMayTell
  split
  · exact wpAny_pure h
  refine wpAny_bind (n_quiet hk ?_)
  rw [if_neg (by decide)]
  refine wpAny_bind (wpAny_forIn_list _ (fun rest r s' => s' = s ∧ r = (none, ()) ∧ ∀ v ∈ rest, ∃ j, IsN P w s.heap j v) _ ?_ ?_ _ _ ⟨rfl, rfl, hus⟩)
  · rintro v rest r s' ⟨rfl, rfl, all⟩
    obtain ⟨j, hj⟩ := all v (by simp)
    refine wpAny_bind (n_quiet hj ?_)
    rw [if_neg (by decide)]
    exact wpAny_pure ⟨rfl, rfl, fun z hz => all z (by simp [hz])⟩
  · rintro r s' ⟨rfl, rfl, _⟩
    exact wpAny_pure h

/-- the entries es have the keys ks -/
structure EntsN (P : Program) (w : World) (h : Heap) (es : Array DictEntry) (ks : List NKey) : Prop where
  nd : ks.Nodup
  sz : es.size = ks.length
  at_ : ∀ (i : Nat) (k : NKey), ks[i]? = some k → ∃ e, es[i]? = some e ∧ e.hash = hashN P w k ∧ IsN P w h k e.key
theorem EntsN.back {h : Heap} {es : Array DictEntry} {ks : List NKey} (x : EntsN P w h es ks) {i : Nat} {e : DictEntry} (q : es[i]? = some e) : ∃ k, ks[i]? = some k ∧ e.hash = hashN P w k ∧ IsN P w h k e.key := by
  have hi : i < ks.length := by rw [← x.sz]; exact (Array.getElem?_eq_some_iff.mp q).1
  obtain ⟨e', h1, h2, h3⟩ := x.at_ i ks[i] (List.getElem?_eq_getElem hi)
  rw [q] at h1
  cases h1
  exact ⟨_, List.getElem?_eq_getElem hi, h2, h3⟩
theorem EntsN.one {h : Heap} {es : Array DictEntry} {ks : List NKey} (x : EntsN P w h es ks) {i j : Nat} {k : NKey} (hi : ks[i]? = some k) (hj : ks[j]? = some k) : i = j :=
  (List.getElem?_inj (List.getElem?_eq_some_iff.mp hi).1 x.nd).mp (hi.trans hj.symm)

variable {d : Addr} {o : Obj} {es : Array DictEntry} {ep : Nat} {ks : List NKey} {k : NKey} {u : Value} {Q : Option Nat → Shared → Prop}
/-- keys that lie in no object, place by place -/
theorem n_plain (hu : A.units < cLine) (hk : IsN P w s.heap k u) (ho : s.heap.get? d = some o) (hd : o.data = .dict es ep) (X : EntsN P w s.heap es ks) (l : List Nat) (hl : ∀ i ∈ l, ∃ e, es[i]? = some e ∧ (e.hash == hashN P w k) = true)
    (h0 : (∀ j ∈ l, ks[j]? ≠ some k) → Q none s) (h1 : ∀ j ∈ l, ks[j]? = some k → Q (some j) s) : wpAny (model P w) A (dictWalkPlain d u (hashN P w k) es l) Q E s := by
  unfold dictWalkPlain
  refine wpAny_bind (wpAny_forIn_list _ (fun rest b s' => s' = s ∧ b = (none, ()) ∧ (∀ i ∈ rest, i ∈ l) ∧ ((∀ j ∈ rest, ks[j]? ≠ some k) → Q none s)) _ ?_ ?_ _ _ ⟨rfl, rfl, fun _ z => z, h0⟩)
  · rintro i rest b s' ⟨rfl, rfl, sub, no⟩
    obtain ⟨e, he, hh⟩ := hl i (sub i (by simp))
    obtain ⟨j, hj, _, ej⟩ := X.back he
    simp only [he]
    rw [if_pos hh]
    refine wpAny_bind (wpAny_dictEpoch ho hd (wpAny_bind (n_eq hu ej hk (wpAny_bind (wpAny_dictEpoch ho hd ?_)))))
    rw [if_neg (by simp)]
    by_cases q : j = k
    · rw [decide_eq_true q, if_pos rfl]
      exact wpAny_bind (wpAny_rule (wpAny_pure (wpAny_pure (h1 i (sub i (by simp)) (q ▸ hj)))))
    · rw [decide_eq_false q, if_neg (by decide)]
      refine wpAny_bind (wpAny_rule (wpAny_pure ⟨rfl, rfl, fun z hz => sub z (by simp [hz]), fun all => no fun z hz => ?_⟩))
      rcases List.mem_cons.mp hz with y | y
      · subst y; rw [hj]; exact fun y => q (Option.some.inj y)
      · exact all z y
  · rintro b s' ⟨rfl, rfl, _, no⟩
    exact wpAny_pure (no fun _ z => nomatch z)

/-- in general, place by place -/
theorem n_find (hu : A.units < cLine) (hk : IsN P w s.heap k u) (ho : s.heap.get? d = some o) (hd : o.data = .dict es ep) (X : EntsN P w s.heap es ks) (h0 : k ∉ ks → Q none s) (h1 : ∀ j, ks[j]? = some k → Q (some j) s) :
    wpAny (model P w) A (dictFind d u (hashN P w k)) Q E s := by
  generalize hpl : placesWithHash es.size (fun i => es[i]?.map (·.hash)) (hashN P w k) = pl
  have hin : ∀ i, i ∈ pl → ∃ e, es[i]? = some e ∧ (e.hash == hashN P w k) = true := fun i hi => by
    rw [← hpl, placesWithHash, List.mem_filter] at hi
    cases he : es[i]? with
    | none => rw [he] at hi; simp at hi
    | some e => rw [he] at hi; exact ⟨e, rfl, by simpa using hi.2⟩
  have hall : ∀ j, ks[j]? = some k → j ∈ pl := fun j hj => by
    obtain ⟨e, he, hh, _⟩ := X.at_ j k hj
    rw [← hpl, placesWithHash, List.mem_filter, List.mem_range]
    exact ⟨(Array.getElem?_eq_some_iff.mp he).1, by rw [he]; simp [hh]⟩
  have hnd : pl.Nodup := by rw [← hpl, placesWithHash]; exact List.Pairwise.filter _ List.nodup_range
  have hno : (∀ j ∈ pl, ks[j]? ≠ some k) → Q none s := fun all => h0 fun hm => by
    obtain ⟨j, hj⟩ := List.mem_iff_getElem?.mp hm
    exact all j (hall j hj) hj
  have hst : ∀ v ∈ pl.filterMap (fun i => es[i]?.map (·.key)), ∃ j, IsN P w s.heap j v := fun v hv => by
    obtain ⟨i, hi, hv⟩ := List.mem_filterMap.mp hv
    obtain ⟨e, he, _⟩ := hin i hi
    rw [he] at hv
    obtain ⟨j, _, _, hj⟩ := X.back he
    cases hv
    exact ⟨j, hj⟩
  have hsh : u = .none ∨ ∃ b, u = .ref b := by
    cases k with
    | none => exact .inl hk
    | some x => obtain ⟨b, e, _⟩ := hk; exact .inr ⟨b, e⟩
  unfold dictFind
  try with_reducible refine wpAny_holding ?_
  refine wpAny_bind (wpAny_dictEntries ho hd ?_)
  rcases hsh with rfl | ⟨b, rfl⟩
  · dsimp only
    rw [hpl]
    by_cases hv : ((Value.none :: pl.filterMap fun i => es[i]?.map (·.key)).all carriedByValue) = true
    · rw [if_pos hv]
      exact n_plain hu hk ho hd X pl hin hno fun j _ hj => h1 j hj
    rw [if_neg hv]
    by_cases hone : ((pl.filterMap fun i => es[i]?.map (·.key)) == [Value.none]) = true
    · rw [if_pos hone]
      refine wpAny_bind (wpAny_pure ?_)
      rw [if_neg (by simp)]
      refine wpAny_bind (wpAny_forIn_list _ (fun rest b s' => s' = s ∧ (∀ i ∈ rest, i ∈ pl) ∧ rest.Nodup ∧ ((b = (none, none) ∧ ((∀ j ∈ rest, ks[j]? ≠ some k) → Q none s)) ∨ ∃ j, b = (none, some j) ∧ ks[j]? = some k ∧ j ∉ rest)) _ ?_ ?_ _ _ ⟨rfl, fun _ z => z, hnd, .inl ⟨rfl, hno⟩⟩)
      · rintro i rest r s' ⟨rfl, sub, nd, st⟩
        obtain ⟨e, he, hh⟩ := hin i (sub i (by simp))
        obtain ⟨j, hj, _, ej⟩ := X.back he
        rw [List.nodup_cons] at nd
        simp only [he]
        rw [if_pos hh]
        refine wpAny_bind (wpAny_dictEpoch ho hd (wpAny_bind (n_eq hu ej hk (wpAny_bind (wpAny_dictEpoch ho hd ?_)))))
        rw [if_neg (by simp)]
        by_cases q : j = k
        · rw [decide_eq_true q, if_pos rfl]
          subst q
          rcases st with ⟨rfl, no⟩ | ⟨j', rfl, hj', nj⟩
          · rw [if_neg (by simp)]
            refine wpAny_bind (wpAny_rule ?_)
            split
            · exact wpAny_pure (wpAny_pure (h1 i hj))
            · exact wpAny_pure ⟨rfl, fun z hz => sub z (by simp [hz]), nd.2, .inr ⟨i, rfl, hj, nd.1⟩⟩
          · exact absurd (X.one hj hj') (fun z => nj (by simp [z]))
        · rw [decide_eq_false q, if_neg (by decide)]
          refine wpAny_bind (wpAny_rule ?_)
          rw [if_neg (by simp)]
          refine wpAny_pure ⟨rfl, fun z hz => sub z (by simp [hz]), nd.2, ?_⟩
          rcases st with ⟨rfl, no⟩ | ⟨j', rfl, hj', nj⟩
          · refine .inl ⟨rfl, fun all => no fun z hz => ?_⟩
            rcases List.mem_cons.mp hz with y | y
            · subst y; rw [hj]; exact fun y => q (Option.some.inj y)
            · exact all z y
          · exact .inr ⟨j', rfl, hj', fun z => nj (by simp [z])⟩
      · rintro r s' ⟨rfl, _, _, st⟩
        rcases st with ⟨rfl, no⟩ | ⟨j', rfl, hj', _⟩
        · exact wpAny_pure (no fun _ z => nomatch z)
        · exact wpAny_pure (h1 j' hj')
    · rw [if_neg hone]
      refine wpAny_bind (n_tells hk hst ?_)
      rw [if_neg (by simp)]
      refine wpAny_bind (wpAny_forIn_list _ (fun rest b s' => s' = s ∧ (∀ i ∈ rest, i ∈ pl) ∧ rest.Nodup ∧ ((b = (none, none) ∧ ((∀ j ∈ rest, ks[j]? ≠ some k) → Q none s)) ∨ ∃ j, b = (none, some j) ∧ ks[j]? = some k ∧ j ∉ rest)) _ ?_ ?_ _ _ ⟨rfl, fun _ z => z, hnd, .inl ⟨rfl, hno⟩⟩)
      · rintro i rest r s' ⟨rfl, sub, nd, st⟩
        obtain ⟨e, he, hh⟩ := hin i (sub i (by simp))
        obtain ⟨j, hj, _, ej⟩ := X.back he
        rw [List.nodup_cons] at nd
        simp only [he]
        rw [if_pos hh]
        refine wpAny_bind (wpAny_dictEpoch ho hd (wpAny_bind (n_eq hu ej hk (wpAny_bind (wpAny_dictEpoch ho hd ?_)))))
        rw [if_neg (by simp)]
        by_cases q : j = k
        · rw [decide_eq_true q, if_pos rfl]
          subst q
          rcases st with ⟨rfl, no⟩ | ⟨j', rfl, hj', nj⟩
          · rw [if_neg (by simp)]
            refine wpAny_bind (wpAny_rule ?_)
            split
            · exact wpAny_pure (wpAny_pure (h1 i hj))
            · exact wpAny_pure ⟨rfl, fun z hz => sub z (by simp [hz]), nd.2, .inr ⟨i, rfl, hj, nd.1⟩⟩
          · exact absurd (X.one hj hj') (fun z => nj (by simp [z]))
        · rw [decide_eq_false q, if_neg (by decide)]
          refine wpAny_bind (wpAny_rule ?_)
          rw [if_neg (by simp)]
          refine wpAny_pure ⟨rfl, fun z hz => sub z (by simp [hz]), nd.2, ?_⟩
          rcases st with ⟨rfl, no⟩ | ⟨j', rfl, hj', nj⟩
          · refine .inl ⟨rfl, fun all => no fun z hz => ?_⟩
            rcases List.mem_cons.mp hz with y | y
            · subst y; rw [hj]; exact fun y => q (Option.some.inj y)
            · exact all z y
          · exact .inr ⟨j', rfl, hj', fun z => nj (by simp [z])⟩
      · rintro r s' ⟨rfl, _, _, st⟩
        rcases st with ⟨rfl, no⟩ | ⟨j', rfl, hj', _⟩
        · exact wpAny_pure (no fun _ z => nomatch z)
        · exact wpAny_pure (h1 j' hj')
  · have hv : ¬ ((Value.ref b :: pl.filterMap fun i => es[i]?.map (·.key)).all carriedByValue) = true := by simp [carriedByValue]
    have hany : ¬ (es.any fun e => e.key == Value.ref b && e.hash != hashN P w k) = true := by
      rw [← Array.any_toList, List.any_eq_true]
      rintro ⟨e, hm, hc⟩
      obtain ⟨i, hi⟩ := List.mem_iff_getElem?.mp hm
      rw [Array.getElem?_toList] at hi
      obtain ⟨j, _, hh, hj⟩ := X.back hi
      rw [Bool.and_eq_true, beq_iff_eq, bne_iff_ne] at hc
      rw [hc.1] at hj
      exact hc.2 (by rw [hh, hj.inj hk])
    dsimp only
    rw [hpl, if_neg hv, if_neg hany]
    by_cases hone : ((pl.filterMap fun i => es[i]?.map (·.key)) == [Value.ref b]) = true
    · rw [if_pos hone]
      refine wpAny_bind (wpAny_pure ?_)
      rw [if_neg (by simp)]
      refine wpAny_bind (wpAny_forIn_list _ (fun rest b s' => s' = s ∧ (∀ i ∈ rest, i ∈ pl) ∧ rest.Nodup ∧ ((b = (none, none) ∧ ((∀ j ∈ rest, ks[j]? ≠ some k) → Q none s)) ∨ ∃ j, b = (none, some j) ∧ ks[j]? = some k ∧ j ∉ rest)) _ ?_ ?_ _ _ ⟨rfl, fun _ z => z, hnd, .inl ⟨rfl, hno⟩⟩)
      · rintro i rest r s' ⟨rfl, sub, nd, st⟩
        obtain ⟨e, he, hh⟩ := hin i (sub i (by simp))
        obtain ⟨j, hj, _, ej⟩ := X.back he
        rw [List.nodup_cons] at nd
        simp only [he]
        rw [if_pos hh]
        refine wpAny_bind (wpAny_dictEpoch ho hd (wpAny_bind (n_eq hu ej hk (wpAny_bind (wpAny_dictEpoch ho hd ?_)))))
        rw [if_neg (by simp)]
        by_cases q : j = k
        · rw [decide_eq_true q, if_pos rfl]
          subst q
          rcases st with ⟨rfl, no⟩ | ⟨j', rfl, hj', nj⟩
          · rw [if_neg (by simp)]
            refine wpAny_bind (wpAny_rule ?_)
            split
            · exact wpAny_pure (wpAny_pure (h1 i hj))
            · exact wpAny_pure ⟨rfl, fun z hz => sub z (by simp [hz]), nd.2, .inr ⟨i, rfl, hj, nd.1⟩⟩
          · exact absurd (X.one hj hj') (fun z => nj (by simp [z]))
        · rw [decide_eq_false q, if_neg (by decide)]
          refine wpAny_bind (wpAny_rule ?_)
          rw [if_neg (by simp)]
          refine wpAny_pure ⟨rfl, fun z hz => sub z (by simp [hz]), nd.2, ?_⟩
          rcases st with ⟨rfl, no⟩ | ⟨j', rfl, hj', nj⟩
          · refine .inl ⟨rfl, fun all => no fun z hz => ?_⟩
            rcases List.mem_cons.mp hz with y | y
            · subst y; rw [hj]; exact fun y => q (Option.some.inj y)
            · exact all z y
          · exact .inr ⟨j', rfl, hj', fun z => nj (by simp [z])⟩
      · rintro r s' ⟨rfl, _, _, st⟩
        rcases st with ⟨rfl, no⟩ | ⟨j', rfl, hj', _⟩
        · exact wpAny_pure (no fun _ z => nomatch z)
        · exact wpAny_pure (h1 j' hj')
    · rw [if_neg hone]
      refine wpAny_bind (n_tells hk hst ?_)
      rw [if_neg (by simp)]
      refine wpAny_bind (wpAny_forIn_list _ (fun rest b s' => s' = s ∧ (∀ i ∈ rest, i ∈ pl) ∧ rest.Nodup ∧ ((b = (none, none) ∧ ((∀ j ∈ rest, ks[j]? ≠ some k) → Q none s)) ∨ ∃ j, b = (none, some j) ∧ ks[j]? = some k ∧ j ∉ rest)) _ ?_ ?_ _ _ ⟨rfl, fun _ z => z, hnd, .inl ⟨rfl, hno⟩⟩)
      · rintro i rest r s' ⟨rfl, sub, nd, st⟩
        obtain ⟨e, he, hh⟩ := hin i (sub i (by simp))
        obtain ⟨j, hj, _, ej⟩ := X.back he
        rw [List.nodup_cons] at nd
        simp only [he]
        rw [if_pos hh]
        refine wpAny_bind (wpAny_dictEpoch ho hd (wpAny_bind (n_eq hu ej hk (wpAny_bind (wpAny_dictEpoch ho hd ?_)))))
        rw [if_neg (by simp)]
        by_cases q : j = k
        · rw [decide_eq_true q, if_pos rfl]
          subst q
          rcases st with ⟨rfl, no⟩ | ⟨j', rfl, hj', nj⟩
          · rw [if_neg (by simp)]
            refine wpAny_bind (wpAny_rule ?_)
            split
            · exact wpAny_pure (wpAny_pure (h1 i hj))
            · exact wpAny_pure ⟨rfl, fun z hz => sub z (by simp [hz]), nd.2, .inr ⟨i, rfl, hj, nd.1⟩⟩
          · exact absurd (X.one hj hj') (fun z => nj (by simp [z]))
        · rw [decide_eq_false q, if_neg (by decide)]
          refine wpAny_bind (wpAny_rule ?_)
          rw [if_neg (by simp)]
          refine wpAny_pure ⟨rfl, fun z hz => sub z (by simp [hz]), nd.2, ?_⟩
          rcases st with ⟨rfl, no⟩ | ⟨j', rfl, hj', nj⟩
          · refine .inl ⟨rfl, fun all => no fun z hz => ?_⟩
            rcases List.mem_cons.mp hz with y | y
            · subst y; rw [hj]; exact fun y => q (Option.some.inj y)
            · exact all z y
          · exact .inr ⟨j', rfl, hj', fun z => nj (by simp [z])⟩
      · rintro r s' ⟨rfl, _, _, st⟩
        rcases st with ⟨rfl, no⟩ | ⟨j', rfl, hj', _⟩
        · exact wpAny_pure (no fun _ z => nomatch z)
        · exact wpAny_pure (h1 j' hj')
end

/-! ### its entries as a list of key, the key's value, the value -/
def getN (xs : List (NKey × Value × Value)) (k : NKey) : Option Value := (xs.find? fun x => decide (x.1 = k)).map (·.2.2)
def repN (k : NKey) (v : Value) (x : NKey × Value × Value) : NKey × Value × Value := if x.1 = k then (x.1, x.2.1, v) else x
def putN (xs : List (NKey × Value × Value)) (k : NKey) (u v : Value) : List (NKey × Value × Value) := if (getN xs k).isSome = true then xs.map (repN k v) else xs ++ [(k, u, v)]
def DictN (P : Program) (w : World) (h : Heap) (d : Addr) (xs : List (NKey × Value × Value)) : Prop :=
  ∃ o es ep, h.get? d = some o ∧ o.ExactDict ∧ o.data = .dict es ep ∧ es.toList = xs.map (entN P w) ∧ (∀ x ∈ xs, IsN P w h x.1 x.2.1) ∧ (xs.map (·.1)).Nodup
theorem getN_none {xs : List (NKey × Value × Value)} {k : NKey} (h : k ∉ xs.map (·.1)) : getN xs k = none := by
  unfold getN
  rw [List.find?_eq_none.mpr fun x hx hk => h (List.mem_map.mpr ⟨x, hx, of_decide_eq_true hk⟩)]
  rfl
theorem getN_at {k : NKey} {p : Value × Value} : ∀ {xs : List (NKey × Value × Value)} {j : Nat}, (xs.map (·.1)).Nodup → xs[j]? = some (k, p) → getN xs k = some p.2
  | [], j, _, h => by simp at h
  | x :: xs, 0, _, h => by
    have e : x = (k, p) := by simpa using h
    subst e
    simp [getN]
  | x :: xs, j + 1, hn, h => by
    rw [List.map_cons, List.nodup_cons] at hn
    have h' : xs[j]? = some (k, p) := by simpa using h
    have ne : ¬ x.1 = k := fun e => hn.1 (e ▸ List.mem_map.mpr ⟨(k, p), List.mem_of_getElem? h', rfl⟩)
    have := getN_at hn.2 h'
    simpa [getN, List.find?_cons, ne] using this
theorem repN_key (k : NKey) (v : Value) (x : NKey × Value × Value) : (repN k v x).1 = x.1 := by unfold repN; split <;> rfl
section
variable {P : Program} {w : World} {A : Around} {E : Value → Shared → Prop} {s : Shared} {d : Addr} {xs : List (NKey × Value × Value)} {k : NKey} {u : Value}
theorem DictN.typeIs (D : DictN P w s.heap d xs) : s.TypeIs (.ref d) "dict" := let ⟨o, _, _, ho, hc, _⟩ := D; ⟨o, ho, hc.1⟩
theorem ents_of {h : Heap} {es : Array DictEntry} (he : es.toList = xs.map (entN P w)) (hi : ∀ x ∈ xs, IsN P w h x.1 x.2.1) (hn : (xs.map (·.1)).Nodup) : EntsN P w h es (xs.map (·.1)) := by
  refine ⟨hn, by rw [← Array.length_toList, he, List.length_map, List.length_map], fun i k hk => ?_⟩
  rw [List.getElem?_map] at hk
  obtain ⟨x, hx, rfl⟩ := Option.map_eq_some_iff.mp hk
  exact ⟨entN P w x, by rw [← Array.getElem?_toList, he, List.getElem?_map, hx]; rfl, rfl, hi x (List.mem_of_getElem? hx)⟩
theorem n_dget {Q : Option Value → Shared → Prop} (hu : A.units < cLine) (hk : IsN P w s.heap k u) (D : DictN P w s.heap d xs) (h : ∀ tk, Q (getN xs k) { s with toks := tk }) : wpAny (model P w) A (dictGet d u) Q E s := by
  obtain ⟨o, es, ep, ho, _, hd, he, hi, hn⟩ := D
  unfold dictGet
  try with_reducible refine wpAny_holding ?_
  refine wpAny_bind (n_hash hu hk fun tk => wpAny_bind (n_find (s := { s with toks := tk }) hu hk ho hd (ents_of he hi hn) (fun hno => ?_) (fun j hj => ?_)))
  · rw [getN_none hno] at h
    exact wpAny_pure (h tk)
  · rw [List.getElem?_map] at hj
    obtain ⟨x, hx, e⟩ := Option.map_eq_some_iff.mp hj
    obtain ⟨x1, x2⟩ := x
    obtain rfl : k = x1 := e.symm
    rw [getN_at hn hx] at h
    refine wpAny_bind (wpAny_dictEntries (s := { s with toks := tk }) ho hd (wpAny_pure ?_))
    rw [← Array.getElem?_toList, he, List.getElem?_map, hx]
    exact h tk
theorem n_dset {v : Value} {Q : Unit → Shared → Prop} (hu : A.units < cLine) (hk : IsN P w s.heap k u) (D : DictN P w s.heap d xs) (hz : xs.length ≤ sizeLine)
    (h : ∀ h' tk, DictN P w h' d (putN xs k u v) → Heap.SameBut d s.heap h' → Q () { s with heap := h', toks := tk }) : wpAny (model P w) A (dictSet d u v) Q E s := by
  obtain ⟨o, es, ep, ho, hc, hd, he, hi, hn⟩ := D
  have hsz : es.size = xs.length := by rw [← Array.length_toList, he, List.length_map]
  unfold dictSet
  try with_reducible refine wpAny_holding ?_
  refine wpAny_bind (n_hash hu hk fun tk => ?_)
  unfold dictSetHashed
  try with_reducible refine wpAny_holding ?_
  refine wpAny_bind (n_find (s := { s with toks := tk }) hu hk ho hd (ents_of he hi hn) (fun hno => ?_) (fun j hj => ?_))
  · have hp : putN xs k u v = xs ++ [(k, u, v)] := by unfold putN; rw [getN_none hno, if_neg (by decide)]
    refine wpAny_bind (wpAny_rule (wpAny_updateDictKeys (hz := by omega) (s := { s with toks := tk }) ho hd (h _ tk ?_ (Heap.SameBut.update ..))))
    refine ⟨_, _, ep + 1, Heap.get?_update_self _ ho (Obj.isFreed_of_dict (Obj.data_mapDictKeys hd _)), hc.mapDictKeys _, Obj.data_mapDictKeys hd _, ?_, fun x hx => ?_, ?_⟩
    · rw [hp]; simp [he, entN]
    · rw [hp] at hx
      rcases List.mem_append.mp hx with z | z
      · exact (hi x z).keep ho hd (Heap.SameBut.update ..)
      · rw [List.mem_singleton.mp z]; exact hk.keep ho hd (Heap.SameBut.update ..)
    · rw [hp, List.map_append, List.nodup_append]
      refine ⟨hn, by simp, fun a ha b hb z => hno ?_⟩
      rw [List.map_cons, List.map_nil, List.mem_singleton] at hb
      rw [z, hb] at ha
      exact ha
  · rw [List.getElem?_map] at hj
    obtain ⟨x, hx, e⟩ := Option.map_eq_some_iff.mp hj
    obtain ⟨x1, x2⟩ := x
    obtain rfl : k = x1 := e.symm
    have hp : putN xs k u v = xs.map (repN k v) := by unfold putN; rw [getN_at hn hx, if_pos (show (some x2.2).isSome = true from rfl)]
    refine wpAny_bind (wpAny_rule (wpAny_bind (wpAny_updateDict (s := { s with toks := tk }) ho hd (wpAny_point (h _ tk ?_ (Heap.SameBut.update ..))))))
    refine ⟨_, _, ep, Heap.get?_update_self _ ho (Obj.isFreed_of_dict (Obj.data_mapDict hd _)), hc.mapDict _, Obj.data_mapDict hd _, ?_, fun x hx => ?_, ?_⟩
    · rw [hp, Array.toList_modify, he, List.map_map]
      refine List.ext_getElem? fun m => ?_
      rw [List.getElem?_modify, List.getElem?_map, List.getElem?_map]
      cases hm : xs[m]? with
      | none => rfl
      | some y =>
        by_cases hjm : j = m
        · subst hjm
          rw [hx] at hm
          cases hm
          simp [entN, repN]
        · have ne : ¬ y.1 = k := fun z => hjm ((List.getElem?_inj (by rw [List.length_map]; exact (List.getElem?_eq_some_iff.mp hx).1) hn).mp (by rw [List.getElem?_map, List.getElem?_map, hx, hm]; exact congrArg some z.symm))
          simp [repN, ne, hjm]
    · rw [hp] at hx
      obtain ⟨y, hy, rfl⟩ := List.mem_map.mp hx
      have q := (hi y hy).keep ho hd (Heap.SameBut.update s.heap d (Obj.mapDict (fun l => l.modify j fun e => { e with val := v })))
      unfold repN
      split
      · exact q
      · exact q
    · rw [hp, List.map_map, show ((fun x : NKey × Value × Value => x.1) ∘ repN k v) = (·.1) from funext fun x => repN_key k v x]
      exact hn

/-! ### item, membership, store, by what dictGet and dictSet do -/
theorem item_by {Q : Value → Shared → Prop} (hT : s.TypeIs (.ref d) "dict") (h : wpAny (model P w) A.in1 (dictGet d u) (fun r s' => ∃ v, r = some v ∧ Q v s') E s) : wpAny (model P w) A (getItem (.ref d) u) Q E s := by
  unfold getItem
  try with_reducible refine wpAny_holding ?_
  refine wpAny_bind (wpAny_sequenceKey hT (by decide) (wpAny_bind (wpAny_callSpecial?_slot (name := Str.ofString "__getitem__") hT slot_dict_getitem (wpAny_call_entry slot_dict_getitem hT entry_dict_getitem ?_ (args_dict_getitem _ _)))))
  show wpAny _ _ (dictGet d u >>= _) _ _ s
  refine wpAny_bind (wpAny_mono h (fun r s' ⟨v, e, q⟩ => ?_) fun _ _ z => z)
  subst e
  exact wpAny_pure ⟨v, rfl, wpAny_pure q⟩
theorem in_by {Q : Bool → Shared → Prop} (hT : s.TypeIs (.ref d) "dict") (hd : (d == sysModules) = false) (h : wpAny (model P w) A.in1 (dictGet d u) (fun r s' => Q r.isSome s') E s) : wpAny (model P w) A (contains (.ref d) u) Q E s := by
  unfold contains
  try with_reducible refine wpAny_holding ?_
  refine wpAny_bind (wpAny_specialOf hT slot_dict_contains.lookup ?_)
  show wpAny _ _ (if (some (Value.builtin "dict.__contains__") == some Value.none) = true then _ else _) _ _ s
  rw [if_neg (by rw [beq_builtin_none]; exact Bool.false_ne_true)]
  refine wpAny_bind (wpAny_callSpecialUnlessNone?_slot (name := Str.ofString "__contains__") hT slot_dict_contains (wpAny_call_entry slot_dict_contains hT entry_dict_contains ?_ (args_dict_contains _ _)))
  show wpAny _ _ (dictGet d u >>= _) _ _ s
  refine wpAny_bind (wpAny_mono h (fun r s' q => ?_) fun _ _ z => z)
  cases r with
  | some v => exact wpAny_pure ⟨_, rfl, wpAny_truthy_bool q⟩
  | none => exact wpAny_bind (wpAny_pendingKey_other hd (wpAny_pure ⟨_, rfl, wpAny_truthy_bool q⟩))
theorem store_by {v : Value} {Q : Unit → Shared → Prop} (hT : s.TypeIs (.ref d) "dict") (h : wpAny (model P w) A.in1 (dictSet d u v) Q E s) : wpAny (model P w) A (setItem (.ref d) u v) Q E s := by
  unfold setItem
  try with_reducible refine wpAny_holding ?_
  refine wpAny_bind (wpAny_sequenceKey hT (by decide) (wpAny_bind (wpAny_callSpecial?_slot (name := Str.ofString "__setitem__") hT slot_dict_setitem (wpAny_call_entry slot_dict_setitem hT entry_dict_setitem ?_ (args_dict_setitem _ _ _)))))
  refine wpAny_bind (wpAny_notOrdered_dict hT ?_)
  show wpAny _ _ (dictSet d u v >>= _) _ _ s
  exact wpAny_bind (wpAny_mono h (fun _ s' q => wpAny_pure ⟨.none, rfl, wpAny_pure q⟩) fun _ _ z => z)
end

/-! ### a tracked dict of this kind -/
theorem KNv.val {H : Hp} {kvs : List (NKey × V)} {xs : List (NKey × Value × Value)} (r : KNv H kvs xs) (k : NKey) : RelO (valV kvs k) (getN xs k) := by
  induction r with
  | nil => exact True.intro
  | @cons p q ps qs h t ih =>
    obtain ⟨h1, _, h2⟩ := h
    by_cases e : p.1 = k
    · have b : getN (q :: qs) k = some q.2.2 := by simp [getN, List.find?_cons, h1.symm.trans e]
      rw [valV_pos e, b]; exact h2
    · have e' : ¬ q.1 = k := fun z => e (h1.trans z)
      have b : getN (q :: qs) k = getN qs k := by simp [getN, List.find?_cons, e']
      rw [valV_neg e, b]; exact ih
theorem KNv.rep {H : Hp} {kvs : List (NKey × V)} {xs : List (NKey × Value × Value)} (r : KNv H kvs xs) (k : NKey) {y : V} {v : Value} (ry : RelV y v) : KNv H (kvs.map fun kv => if kv.1 = k then (kv.1, y) else kv) (xs.map (repN k v)) := by
  induction r with
  | nil => exact .nil
  | @cons p q ps qs h t ih =>
    obtain ⟨h1, h2, h3⟩ := h
    rw [List.map_cons, List.map_cons]
    refine .cons ?_ ih
    unfold repN
    by_cases e : p.1 = k
    · rw [if_pos e, if_pos (h1.symm.trans e)]; exact ⟨h1, h2, ry⟩
    · rw [if_neg e, if_neg (fun z => e (h1.trans z))]; exact ⟨h1, h2, h3⟩
theorem KNv.put {H : Hp} {kvs : List (NKey × V)} {xs : List (NKey × Value × Value)} (r : KNv H kvs xs) (k : NKey) {u : Value} {y : V} {v : Value} (hb : KeyN H k u) (ry : RelV y v) : KNv H (putK kvs k y) (putN xs k u v) := by
  unfold putK putN
  rw [valV_any, (r.val k).isSome_eq]
  by_cases q : (getN xs k).isSome = true
  · rw [if_pos q, if_pos q]; exact r.rep k ry
  · rw [if_neg q, if_neg q]; exact Paired.snoc r ⟨rfl, hb, ry⟩
theorem KeyN.keeps {H H' : Hp} {k : NKey} {u : Value} (x : KeyN H k u) (ht : ∀ b ys, H b = some (.tup ys) → H' b = some (.tup ys)) : KeyN H' k u := by
  cases k with
  | none => exact x
  | some ks => obtain ⟨b, e, hb⟩ := x; exact ⟨b, e, ht _ _ hb⟩
/-- the value y is the key -/
def KeyV (H : Hp) : NKey → V → Prop
  | none, y => y = .non
  | some ks, y => ∃ b, y = .ref b ∧ H b = some (.tup (ks.map kV))
theorem KeyV.rel {H : Hp} {k : NKey} {y : V} {u : Value} (x : KeyV H k y) (r : RelV y u) : KeyN H k u := by
  cases k with
  | none => rw [show y = V.non from x] at r; exact r
  | some ks => obtain ⟨b, rfl, hb⟩ := x; exact ⟨b, r, hb⟩
section
variable {P : Program} {w : World} {H : Hp} {h : Heap} {a : Addr} {kvs : List (NKey × V)}
theorem dn_rd (ok : HOk P w H h) (e : Rd H a (.dN kvs)) : kvs.length ≤ sizeLine ∧ (a == sysModules) = false ∧ ∃ xs, KNv H kvs xs ∧ DictN P w h a xs := by
  obtain ⟨z, y, xs, r, o, es, ep, h1, h2, h3, h4, h5⟩ := (show ObjOk P w H h a (.dN kvs) from rd_of ok e)
  have all : ∀ {l : List (NKey × V)} {m : List (NKey × Value × Value)}, KNv H l m → ∀ x ∈ m, IsN P w h x.1 x.2.1 := by
    intro l m q
    induction q with
    | nil => intro x hx; exact nomatch hx
    | @cons p q ps qs hq t ih =>
      intro x hx
      rcases List.mem_cons.mp hx with e | hx
      · subst e
        rw [← hq.1]
        exact keyN_is ok hq.2.1
      · exact ih x hx
  exact ⟨z, y, xs, r, o, es, ep, h1, h2, h3, h4, all r, h5⟩
end
def DGetN (H : Hp) (a : Addr) (y : V) (r : Option V) : Prop := ∃ kvs k, Rd H a (.dN kvs) ∧ KeyV H k y ∧ r = valV kvs k
def DPutN (H : Hp) (a : Addr) (y v : V) (H' : Hp) : Prop := ∃ kvs k, H a = some (.dN kvs) ∧ KeyV H k y ∧ kvs.length < sizeLine ∧ H' = upd H a (.dN (putK kvs k v))
theorem DGetN.of {H : Hp} {a : Addr} {kvs : List (NKey × V)} {k : NKey} {y : V} (e : H a = some (.dN kvs)) (hk : KeyV H k y) : DGetN H a y (valV kvs k) := ⟨kvs, k, .inl e, hk, rfl⟩
theorem DPutN.of {H : Hp} {a : Addr} {kvs : List (NKey × V)} {k : NKey} {y v : V} (e : H a = some (.dN kvs)) (hk : KeyV H k y) (hl : kvs.length < sizeLine) : DPutN H a y v (upd H a (.dN (putK kvs k v))) := ⟨kvs, k, e, hk, hl, rfl⟩
section
variable {X : Cx} {pins : List (Addr × Obj)} {σ : St} {H : Hp} {s : Shared} {a : Addr} {y v : V} {u r : Value} {o : Option V} {A : Around} {E : Value → Shared → Prop}
theorem dn_get {Q : Option Value → Shared → Prop} (hu : A.units < cLine) (I : Inv X pins σ H s) (g : DGetN H a y o) (ry : RelV y u) (h : ∀ o' s', Inv X pins σ H s' → RelO o o' → Q o' s') : wpAny (model X.prog X.w) A (dictGet a u) Q E s := by
  obtain ⟨kvs, k, e, hk, rfl⟩ := g
  obtain ⟨z, hd, xs, rel, dd⟩ := dn_rd I.hok e
  exact n_dget hu (keyN_is I.hok (hk.rel ry)) dd fun tk => h _ _ (I.tok tk) (rel.val k)
theorem dn_type (I : Inv X pins σ H s) (g : DGetN H a y o) : s.TypeIs (.ref a) "dict" ∧ (a == sysModules) = false := by
  obtain ⟨kvs, k, e, hk, rfl⟩ := g
  obtain ⟨z, hd, xs, rel, dd⟩ := dn_rd I.hok e
  exact ⟨dd.typeIs, hd⟩
theorem dn_getItem {Q : Value → Shared → Prop} (hu : A.units + 1 < cLine) (I : Inv X pins σ H s) (g : DGetN H a y (some v)) (ry : RelV y u) (h : ∀ w' s', Inv X pins σ H s' → RelV v w' → Q w' s') : wpAny (model X.prog X.w) A (getItem (.ref a) u) Q E s := by
  refine item_by (dn_type I g).1 (dn_get hu I g ry fun o' s' I' ro => ?_)
  obtain ⟨w', e, rw'⟩ := RelO.some_of ro
  exact ⟨w', e, h w' s' I' rw'⟩
theorem dn_in {Q : Bool → Shared → Prop} (hu : A.units + 1 < cLine) (I : Inv X pins σ H s) (g : DGetN H a y o) (ry : RelV y u) (h : ∀ s', Inv X pins σ H s' → Q o.isSome s') : wpAny (model X.prog X.w) A (contains (.ref a) u) Q E s := by
  obtain ⟨t, hd⟩ := dn_type I g
  refine in_by t hd (dn_get hu I g ry fun o' s' I' ro => ?_)
  rw [← ro.isSome_eq]
  exact h s' I'
theorem dn_setItem {H' : Hp} {Q : Unit → Shared → Prop} (hu : A.units + 1 < cLine) (I : Inv X pins σ H s) (g : DPutN H a y v H') (ry : RelV y u) (rv : RelV v r) (h : ∀ s', Inv X pins σ H' s' → Q () s') : wpAny (model X.prog X.w) A (setItem (.ref a) u r) Q E s := by
  obtain ⟨kvs, k, e, hk, hl, rfl⟩ := g
  obtain ⟨z, hd, xs, rel, dd⟩ := dn_rd I.hok (.inl e)
  have hz : xs.length ≤ sizeLine := by rw [← Paired.length rel]; exact z
  have hp : (putK kvs k v).length ≤ sizeLine := by have := length_putK kvs k v; omega
  refine store_by dd.typeIs (n_dset hu (keyN_is I.hok (hk.rel ry)) dd hz fun h' tk dd' hs => h _ ?_)
  obtain ⟨ob, es, ep, h1, h2, h3, h4, _, h5⟩ := dd'
  have keep : ∀ c ys, H c = some (.tup ys) → upd H a (.dN (putK kvs k v)) c = some (.tup ys) := fun c ys ec => by
    rw [upd_ne (ne_of ec e (fun z => nomatch z))]
    exact ec
  exact d_write I (by rw [e]; exact True.intro) hs ⟨ob, h1⟩ ⟨hp, hd, _, Paired.mapP (rel.put k (hk.rel ry) rv) fun _ _ q => ⟨q.1, q.2.1.keeps keep, q.2.2⟩, ob, es, ep, h1, h2, h3, h4, h5⟩
end
def tDGetN (td ty : TE) : TE := fun σ H Q => td σ H fun x H1 => ty σ H1 fun y H2 => ∃ a v, x = .ref a ∧ DGetN H2 a y (some v) ∧ Q v H2
def tDInN (neg : Bool) (ty td : TE) : TE := fun σ H Q => ty σ H fun y H1 => td σ H1 fun x H2 => ∃ a o, x = .ref a ∧ DGetN H2 a y o ∧ Q (.bl (if neg then !o.isSome else o.isSome)) H2
def sDPutN (td ty tv : TE) : TS := fun D σ H => tv σ H fun v H1 => td σ H1 fun x H2 => ty σ H2 fun y H3 => ∃ a H4, x = .ref a ∧ DPutN H3 a y v H4 ∧ D.nx σ H4
section
variable {X : Cx} {o i e value : Expr} {pos pos' tpos : Pos} {td ty tv : TE}
theorem pe_dgetN (hu : X.A.units + 1 < cLine) (ho : PE X o td) (hi : PE X i ty) (hs : NoSl i) : PE X (.Subscript o i pos) (tDGetN td ty) := by
  intro pins s σ H Q I h
  refine subD_of PySem.F.slot_dict_getitem.lookup hs (thn (ho pins s σ H _ I h) fun u s1 ⟨x, H1, I1, rx, q1⟩ => thn (hi pins s1 σ H1 _ I1 q1) fun iv s2 ⟨y, H2, I2, ry, a, v, ex, g, q2⟩ => ?_)
  subst ex
  obtain rfl : u = Value.ref a := rx
  exact ⟨(dn_type I2 g).1, dn_getItem hu I2 g ry fun w' s3 I3 rw' => ⟨v, H2, I3, rw', q2⟩⟩
theorem pc_dinN (hu : X.A.units + 1 < cLine) (hi : PE X i ty) (ho : PE X o td) : PC X .In i o (tDInN false ty td) := by
  intro pins s σ H Q I h
  refine thn (hi pins s σ H _ I h) fun iv s1 ⟨y, H1, I1, ry, q1⟩ => thn (ho pins s1 σ H1 _ I1 q1) fun u s2 ⟨x, H2, I2, rx, a, ov, ex, g, q2⟩ => ?_
  subst ex
  obtain rfl : u = Value.ref a := rx
  exact wpAny_bind (dn_in hu I2 g ry fun s3 I3 => wpAny_pure ⟨.bl ov.isSome, H2, I3, rfl, q2⟩)
theorem pc_dnotinN (hu : X.A.units + 1 < cLine) (hi : PE X i ty) (ho : PE X o td) : PC X .NotIn i o (tDInN true ty td) := by
  intro pins s σ H Q I h
  refine thn (hi pins s σ H _ I h) fun iv s1 ⟨y, H1, I1, ry, q1⟩ => thn (ho pins s1 σ H1 _ I1 q1) fun u s2 ⟨x, H2, I2, rx, a, ov, ex, g, q2⟩ => ?_
  subst ex
  obtain rfl : u = Value.ref a := rx
  exact wpAny_bind (dn_in hu I2 g ry fun s3 I3 => wpAny_pure ⟨.bl (!ov.isSome), H2, I3, rfl, q2⟩)
theorem ps_dputN (hu : X.A.units + 1 < cLine) (ho : PE X o td) (hi : PE X i ty) (hv : PE X value tv) (hs : swapsWith value (some (.Subscript o i pos')) pos.line X.env = pure false) : PS X (.Assign [.Subscript o i pos'] value pos) (sDPutN td ty tv) := by
  intro pins s σ H D I h
  refine wpAny_Assign_Subscript (thn (hv pins s σ H _ I h) fun r s1 ⟨v, H1, I1, rv, q1⟩ => thn (ho pins s1 σ H1 _ I1 q1) fun u s2 ⟨x, H2, I2, rx, q2⟩ => thn (hi pins s2 σ H2 _ I2 q2) fun iv s3 ⟨y, H3, I3, ry, a, H4, ex, g, q3⟩ => ?_) hs
  subst ex
  obtain rfl : u = Value.ref a := rx
  exact dn_setItem hu I3 g ry rv fun s4 I4 => ⟨σ, H4, I4, q3⟩
end

/-! ### {} and {None: e} -/
def tDNewN : TE := fun _ H Q => ∀ p, H p = none → Q (.ref p) (upd H p (.dN []))
theorem dn_empty {P : Program} {w : World} {H : Hp} (h : Heap) (hb : sysModules < h.objs.size) : ObjOk P w H (h.push { cls := .type "dict", data := .dict #[] }) h.objs.size (.dN []) :=
  ⟨Nat.zero_le _, beq_eq_false_iff_ne.mpr (Ne.symm (Nat.ne_of_lt hb)), [], .nil, _, #[], 0, Heap.get?_push_size _ rfl, ⟨rfl, rfl, rfl⟩, rfl, rfl, List.nodup_nil⟩
theorem pe_dnewN {X : Cx} {pos : Pos} : PE X (.Dict [] [] pos) tDNewN := fun pins s σ H Q I h =>
  wpAny_Dict_empty ⟨.ref s.heap.objs.size, _, I.laid (a := s.heap.objs.size) (o := .dN []) (t' := s.toks) (fun _ _ q => Heap.get?_push_of_some _ q) (Nat.le_refl _) (dn_empty s.heap I.big), rfl, h _ (I.hok.fresh (Nat.le_refl _))⟩
def oneKind (P : Program) (w : World) : PySem.KeyKind P w Unit where
  is := fun _ v => match v with | .none => true | _ => false
  hash := fun _ => PySem.W.hashW w.params .none
  inj := fun _ _ _ _ _ => rfl
  byValue := fun _ v h => by cases v <;> first | rfl | (simp at h)
  pyHash := fun {A E s k v Q} hv h => by
    cases v <;> first | (simp at hv; done) | skip
    exact PySem.W.pyHash_slot (T := "NoneType") rfl PySem.F.slot_NoneType_hash PySem.F.entry_NoneType_hash (PySem.F.args_NoneType_hash_1 _) (beq_builtin_none _) (.inl rfl) (wpAny_bind (wpAny_pure (wpAny_bind (wpAny_mkInt (wpAny_pure ⟨_, _, rfl, h⟩)))))
  eqBool := fun {A E s a b u v Q} hu hv h => by
    cases u <;> first | (simp at hu; done) | skip
    cases v <;> first | (simp at hv; done) | skip
    unfold eqBool
    try with_reducible refine wpAny_holding ?_
    show wpAny _ _ (if (Value.none == Value.none) = true then _ else _) Q E s
    rw [if_pos (show (Value.none == Value.none) = true by simp)]
    exact wpAny_bind (wpAny_rule (wpAny_pure (by simpa using h)))
  «strs» := fun k x t v h => by simp at h
/-- {None: e}; the new dict stands empty while e is made -/
def tDispN (tv : TE) : TE := fun σ H Q => ∀ p, H p = none → tv σ (upd H p (.dK [])) fun v H2 => H2 p = some (.dK []) ∧ Q (.ref p) (upd H2 p (.dN [(none, v)]))
def oneQ (F : V → Hp → Prop) : List (V × V) → Hp → Prop
  | [(.non, y)], H => F y H
  | _, _ => False
theorem oneQ_inv {F : V → Hp → Prop} {ps : List (V × V)} {H : Hp} (h : oneQ F ps H) : ∃ y, ps = [(V.non, y)] ∧ F y H := by
  match ps, h with
  | [(.non, y)], h => exact ⟨y, rfl, h⟩
theorem pe_dispN {X : Cx} {pos : Pos} {j : Nat} {kpos : Pos} {v : Expr} {tv : TE} (hv : PE X v tv) : PE X (.Dict [some (.Constant .none j kpos)] [v] pos) (tDispN tv) := by
  intro pins s σ H Q I q
  have hn := I.hok.fresh (Nat.le_refl s.heap.objs.size)
  have I1 := I.laid (a := s.heap.objs.size) (o := .dK []) (h' := s.heap.push { cls := .type "dict", data := .dict #[] }) (t' := s.toks) (fun _ _ q => Heap.get?_push_of_some _ q) (Nat.le_refl _) (dk_empty s.heap I.big)
  have hP : PPs X pos [some (.Constant .none j kpos)] [v] [(tC .non, tv)] := pps_cons pe_non hv pps_nil
  generalize hp : s.heap.objs.size = p at *
  have q1 := q p hn
  have hq : tPairs [(tC .non, tv)] σ (upd H p (.dK [])) (oneQ fun y H2 => H2 p = some (.dK []) ∧ Q (.ref p) (upd H2 p (.dN [(none, y)]))) := q1
  have w1 := hP pins _ σ _ _ I1 hq
  refine wpAny_Dict_walk (knd := oneKind X.prog X.w) rfl rfl (by simp) (by show 1 ≤ 15; decide) (thn w1 fun ws s2 r => ?_)
  obtain ⟨ps, H2, I2, rel, q0⟩ := r
  obtain ⟨y, rfl, e, q2⟩ := oneQ_inv q0
  cases rel with
  | @cons _ b _ _ h1 t1 =>
    cases t1
    obtain ⟨b1, b2⟩ := b
    cases (show b1 = Value.none from h1.1)
    obtain ⟨z, hd, vs0, r0, o, es, ep, g1, g2, g3, g4, g5, g6⟩ := dk_of I2.hok e
    cases r0
    have hes : es = #[] := by
      have := g5.length
      rw [List.length_nil, Array.length_toList] at this
      exact Array.eq_empty_of_size_eq_zero this
    subst hes
    rw [hp]
    refine ⟨[((), b2)], ⟨rfl, rfl, True.intro⟩, ⟨o, #[], ep, g1, g2, g3, fun _ he => by simp at he, .nil, List.nodup_nil⟩, fun h' dd' hs => ⟨.ref p, upd H2 p (.dN [(none, y)]), ?_, rfl, q2⟩⟩
    obtain ⟨o', es', ep', f1, f2, f3, f4, f5, f6⟩ := dd'
    have f5' : Pairs (oneKind X.prog X.w) es'.toList [((), b2)] := f5
    refine d_write I2 (by rw [e]; exact True.intro) hs ⟨o', f1⟩ ⟨by show 1 ≤ sizeLine; decide, hd, [(none, .none, b2)], .cons ⟨rfl, rfl, h1.2⟩ .nil, o', es', ep', f1, f2, f3, ?_, by simp⟩
    generalize hl : es'.toList = l at f5'
    cases f5' with
    | @cons e0 _ es0 _ k1 k2 k3 =>
      cases k3
      obtain ⟨k', kk, kh⟩ := f4 e0 (Array.mem_toList_iff.mp (by rw [hl]; simp))
      obtain ⟨eh, ek, ev⟩ := e0
      have ek' : ek = Value.none := by
        cases ek <;> first | rfl | (simp [oneKind] at k1)
      subst ek'
      cases (show ev = b2 from k2)
      have kh' : eh = PySem.W.hashW X.w.params .none := kh
      rw [kh']
      rfl
end L2

namespace L2
open PySem PySem.Spec PyProof.Rows

/-! ### d.setdefault(k, x), the keys ints and texts -/
section
variable {X : Cx} {pins : List (Addr × Obj)} {σ : St} {H : Hp} {s : Shared} {a : Addr} {kvs : List (Key × V)} {k : Key} {u r : Value} {z : V} {A : Around} {E : Value → Shared → Prop}
theorem d_setd {Q : Value → Shared → Prop} (I : Inv X pins σ H s) (e : H a = some (.dK kvs)) (ry : RelV (kV k) u) (rz : RelV z r) (hl : kvs.length < sizeLine) (h1 : ∀ v w' s', valV kvs k = some v → Inv X pins σ H s' → RelV v w' → Q w' s')
    (h2 : valV kvs k = none → ∀ s', Inv X pins σ (upd H a (.dK (putK kvs k z))) s' → Q r s') : wpAny (model X.prog X.w) A (call (.builtin "dict.setdefault") [.ref a, u, r]) Q E s := by
  obtain ⟨zl, hd, vs, rel, dd⟩ := dk_of I.hok e
  refine call_meetsIn PySem.F.slot_dict_setdefault dd.typeIs PySem.F.entry_dict_setdefault (PySem.F.args_dict_setdefault_3 _ _ _) (kt_meets_setdefault (mixKind X.prog X.w) a (kV_is ry) hd r)
    ⟨vs, dd, by rw [← rel.length]; exact zl, fun v hv => ?_, fun hn h' dd' hs => ?_⟩
  · have q := rel.val k
    rw [hv] at q
    cases l : valV kvs k with
    | none => rw [l] at q; exact q.elim
    | some x => rw [l] at q; exact h1 x v _ l (I.tok _) q
  · have q := rel.val k
    rw [hn] at q
    have l : valV kvs k = none := by
      cases l : valV kvs k with
      | none => rfl
      | some x => rw [l] at q; exact q.elim
    have hp : (putK kvs k z).length ≤ sizeLine := by have := length_putK kvs k z; omega
    have he : ∃ q, h'.get? a = some q := let ⟨q, _, _, hq, _⟩ := dd'; ⟨q, hq⟩
    exact h2 l _ (d_write I (by rw [e]; exact True.intro) hs he (dk_new hp hd (rel.put k rz) dd'))
end
def tDSetd (td ty tx : TE) : TE := fun σ H Q => td σ H fun x H1 => ∃ a, x = .ref a ∧ IsD H1 a ∧ ty σ H1 fun y H2 => tx σ H2 fun z H3 => ∃ kvs k, H3 a = some (.dK kvs) ∧ y = kV k ∧ kvs.length < sizeLine ∧
  (∀ v, valV kvs k = some v → Q v H3) ∧ (valV kvs k = none → Q z (upd H3 a (.dK (putK kvs k z))))
theorem pe_dsetd {X : Cx} {o e f : Expr} {apos cpos : Pos} {td ty tx : TE} (ho : PE X o td) (he : PE X e ty) (hf : PE X f tx) (m : M2 X o "setdefault" apos e f cpos) : PE X (.Call (.Attribute o "setdefault" apos) [e, f] [] cpos) (tDSetd td ty tx) := by
  intro pins s σ H Q I h
  refine wpAny_Call_method m.base m.few m.line PySem.F.plainAttrs_dict PySem.F.slot_dict_setdefault PySem.F.type_dict_setdefault (thn (ho pins s σ H _ I h) fun u s1 ⟨x, H1, I1, rx, a, ex, d, q1⟩ => ?_)
  subst ex
  obtain rfl : u = Value.ref a := rx
  obtain ⟨t1, t2, _⟩ := isD_at I1 d
  refine ⟨t1, t2, ?_⟩
  rw [m.trees]
  refine Calls.callWith_builtin rfl (Calls.evalArgs_plain (Calls.spliced_cons (thn (he pins s1 σ H1 _ I1 q1) fun iv s2 ⟨y, H2, I2, ry, q2⟩ =>
    Calls.spliced_cons (thn (hf pins s2 σ H2 _ I2 q2) fun fv s3 ⟨z, H3, I3, rz, kvs, k, ea, ey, hl, q3, q4⟩ => Calls.spliced_nil ?_))))
  subst ey
  exact d_setd I3 ea ry rz hl (fun v w' s4 l I4 rv => ⟨v, H3, I4, rv, q3 v l⟩) fun l s4 I4 => ⟨z, _, I4, rz, q4 l⟩

/-! ### list(d): the keys -/
theorem paired_of {α β : Type} {F : α → β → Prop} : ∀ {as : List α} {bs : List β}, as.length = bs.length → (∀ (i : Nat) x y, as[i]? = some x → bs[i]? = some y → F x y) → Paired F as bs
  | [], [], _, _ => .nil
  | a :: as, b :: bs, hl, h => .cons (h 0 a b rfl rfl) (paired_of (by simpa using hl) fun i x y hx hy => h (i + 1) x y (by simpa using hx) (by simpa using hy))
  | [], _ :: _, hl, _ => by simp at hl
  | _ :: _, [], hl, _ => by simp at hl
theorem kV_rel {P : Program} {w : World} {k : Key} {u : Value} (h : (mixKind P w).is k u = true) : RelV (kV k) u := by
  rcases keyIs_shape h with ⟨i, t, rfl, rfl⟩ | ⟨x, t, rfl, rfl⟩
  · exact ⟨t, rfl⟩
  · exact ⟨t, rfl⟩
theorem call_listD {X : Cx} (hc : X.calm = true) : CallR X (.type "list") (fun xs H Q => ∃ p kvs, xs = [.ref p] ∧ H p = some (.dK kvs) ∧ ∀ l, H l = none → Q (.ref l) (upd H l (.lst (kvs.map fun kv => kV kv.1)))) := by
  intro pins s σ H xs us Q I r h
  obtain ⟨p, kvs, rfl, e, q⟩ := h
  obtain ⟨u, rfl, r1⟩ := vals1 r
  cases (show u = Value.ref p from r1)
  obtain ⟨z, hd, vs, rel, dd⟩ := dk_of I.hok e
  obtain ⟨ep, hat⟩ := dd.dictAt
  have lz := rel.length
  refine PySem.W.kdl_call (PySem.W.kdl_dict (knd := mixKind X.prog X.w) (kvs := vs) (ep := ep) hd) (I.ok.hd hc) hat (by rw [← lz]; exact z) fun h' tk acc c hk hS hacc => ?_
  have hn := I.hok.fresh (Nat.le_refl s.heap.objs.size)
  refine ⟨.ref s.heap.objs.size, _, I.laid (a := s.heap.objs.size) (o := .lst (kvs.map fun kv => kV kv.1)) (t' := tk) (fun b o q => hk b o q) (Nat.le_refl _) ?_, rfl, q _ hn⟩
  refine ⟨by rw [List.length_map]; exact z, acc.toList, c, ?_, by rw [hS]⟩
  refine paired_of (by rw [List.length_map, lz, Array.length_toList]; exact hacc.1.symm) fun i x y hx hy => ?_
  rw [Array.getElem?_toList] at hy
  obtain ⟨k, v, h1, h2⟩ := hacc.2 i y hy
  rw [List.getElem?_map] at hx
  have hkk : kvs[i]?.map (·.1) = vs[i]?.map (·.1) := by rw [← List.getElem?_map, ← List.getElem?_map, rel.keys]
  rw [h1] at hkk
  cases hi : kvs[i]? with
  | none => rw [hi] at hx; cases hx
  | some kv =>
    rw [hi] at hx hkk
    cases hx
    have : kv.1 = k := by simpa using hkk
    show RelV (kV kv.1) y
    rw [this]
    exact kV_rel h2

/-! ### a comprehension that reads two names from around, cells of the frame's -/
theorem CompS.two {X : Cx} {N' : List Str} {scope : Scope} {y y' : Str} {c c' : Addr} {n j j' : Nat} (h1 : closureFor scope X.env = pure [(y, c), (y', c')]) (h2 : X.env.cells.lookup y = some c) (h2' : X.env.cells.lookup y' = some c') (hne : y' ≠ y) (hc : ∀ z ∈ scope.names, z.2 ≠ .cell)
    (hk : scope.kind = .function) (hn : ∀ z ∈ scope.names, z.2 = .local → scope.names.lookup z.1 = some .local) (ho : ∀ z ∈ scope.names, z.2 = .free → z.1 = y ∨ z.1 = y') (hN : N'[n]? = some y) (hN' : N'[n + 1]? = some y') (hl : N'.length = n + 2)
    (hj : X.N[j]? = some y) (hj' : X.N[j']? = some y') (hy : X.env.kindOf y = some .cell) (hy' : X.env.kindOf y' = some .cell) (hr : (relabel scope X.env).names.lookup y = some .cell) (hr' : (relabel scope X.env).names.lookup y' = some .cell) :
    CompS X N' scope [(y, c), (y', c')] n [j, j'] where
  clos := h1
  cell := hc
  kind := hk
  names := hn
  sub := fun z d e => by
    by_cases q : z = y
    · subst q; rw [List.lookup_cons, beq_self_eq_true] at e; rw [h2]; exact e
    · have b : (z == y) = false := beq_false_of_ne q
      by_cases q' : z = y'
      · subst q'; rw [List.lookup_cons, b, List.lookup_cons, beq_self_eq_true] at e; rw [h2']; exact e
      · have b' : (z == y') = false := beq_false_of_ne q'
        rw [List.lookup_cons, b, List.lookup_cons, b'] at e; simp at e
  has := fun z h => by
    have mem : ∃ k, (k = NameKind.cell ∨ k = NameKind.free) ∧ (z, k) ∈ (relabel scope X.env).names := by
      rcases h with h | h
      · exact ⟨_, .inl rfl, PySem.mem_of_lookup h⟩
      · exact ⟨_, .inr rfl, PySem.mem_of_lookup h⟩
    obtain ⟨k, hk2, hm⟩ := mem
    obtain ⟨⟨a, ka⟩, ha, e⟩ := List.mem_map.mp (show (z, k) ∈ scope.names.map _ from hm)
    have hz : z = y ∨ z = y' := by
      by_cases hfree : ka = .free
      · have e2 : z = a := by
          dsimp only at e
          split at e
          · exact (Prod.mk.inj e).1.symm
          · exact (Prod.mk.inj e).1.symm
        rw [e2]
        exact ho _ ha hfree
      · have b : (ka == NameKind.free) = false := by simpa using hfree
        simp only [b, Bool.false_and, Bool.false_eq_true, if_false] at e
        have e3 := (Prod.mk.inj e).2
        rcases hk2 with q | q
        · exact absurd (e3.trans q) (hc _ ha)
        · exact absurd (e3.trans q) hfree
    rcases hz with q | q
    · subst q; exact ⟨c, by rw [List.lookup_cons, beq_self_eq_true]⟩
    · subst q
      have b : (z == y) = false := beq_false_of_ne hne
      exact ⟨c', by rw [List.lookup_cons, b, List.lookup_cons, beq_self_eq_true]⟩
  len := by simpa using hl
  frees := fun k i e => by
    match k, e with
    | 0, e =>
      have e' : j = i := by simpa using e
      subst e'
      exact ⟨y, hN, hj, .inl hy, .inl hr, by rw [h2, List.lookup_cons, beq_self_eq_true]⟩
    | 1, e =>
      have e' : j' = i := by simpa using e
      subst e'
      have b : (y' == y) = false := beq_false_of_ne hne
      exact ⟨y', hN', hj', .inl hy', .inl hr', by rw [h2', List.lookup_cons, b, List.lookup_cons, beq_self_eq_true]⟩
    | k + 2, e => simp at e
end L2

namespace FB
open PySem L2 PyProof.Rows

/-! ### versions by part -/
def versOf (es : List En) (x : Str) : List Int := (es.filter fun e => decide (e.1 = x)).map fun e => e.2.1
theorem versOf_snoc (es : List En) (e : En) (x : Str) : versOf (es ++ [e]) x = if e.1 = x then versOf es x ++ [e.2.1] else versOf es x := by
  unfold versOf
  rw [List.filter_append, List.map_append]
  by_cases h : e.1 = x
  · rw [if_pos h, List.filter_cons, if_pos (decide_eq_true h)]; rfl
  · rw [if_neg h, List.filter_cons, if_neg (by simpa using h)]; simp
theorem versOf_length (es : List En) (x : Str) : (versOf es x).length ≤ es.length := by
  unfold versOf
  rw [List.length_map]
  exact List.length_filter_le _ _
def inB (n : Nd) (z : Int) : Bool := decide (n.2.1 ≤ z) && decide (z ≤ n.2.2)
theorem metOf_vers (es : List En) (n : Nd) : metOf es n = (versOf es n.1).filter (inB n) := by
  induction es with
  | nil => rfl
  | cons e es ih =>
    unfold metOf versOf at ih ⊢
    rw [List.filter_cons, List.filter_cons]
    by_cases h : e.1 = n.1
    · rw [if_pos (decide_eq_true h), List.map_cons, List.filter_cons]
      have hm : meetsB n e = inB n e.2.1 := by unfold meetsB inB; rw [decide_eq_true h, Bool.true_and]
      rw [hm]
      by_cases hb : inB n e.2.1 = true
      · rw [if_pos hb, if_pos hb, List.map_cons, ih]
      · rw [if_neg hb, if_neg hb, ih]
    · have hm : ¬ meetsB n e = true := by unfold meetsB; rw [decide_eq_false h]; simp
      rw [if_neg hm, if_neg (by simpa using h), ih]
theorem perm_met {es : List En} {n : Nd} {ms : List Int} (h : ms.Perm (versOf es n.1)) : (ms.filter (inB n)).Perm (metOf es n) := by
  rw [metOf_vers]
  exact h.filter _

/-! ### a board in the heap -/
def dkey (k : Str × Int) : List L2.Key := [Sum.inr k.1, Sum.inl k.2]
theorem dkey_inj {k j : Str × Int} (h : dkey k = dkey j) : k = j := by
  obtain ⟨a, b⟩ := k
  obtain ⟨c, d⟩ := j
  unfold dkey at h
  injection h with h1 h2
  injection h2 with h3 h4
  injection h1 with h1
  injection h3 with h3
  exact Prod.ext h1 h3
theorem nv : ¬ (("needs" : Str) = "versions") := by decide +kernel
def bflds (dn dv : Addr) : List (Str × V) := putF "versions" (.ref dv) (putF "needs" (.ref dn) [])
theorem bflds_needs (dn dv : Addr) : (bflds dn dv).lookup ("needs" : Str) = some (.ref dn) := by
  unfold bflds
  rw [lookup_putF, if_neg nv, lookup_putF, if_pos rfl]
theorem bflds_vers (dn dv : Addr) : (bflds dn dv).lookup ("versions" : Str) = some (.ref dv) := by
  unfold bflds
  rw [lookup_putF, if_pos rfl]
theorem bflds_no (dn dv : Addr) {m : Str} (h1 : ¬ m = "versions") (h2 : ¬ m = "needs") : (bflds dn dv).lookup m = none := by
  unfold bflds
  rw [lookup_putF, if_neg h1, lookup_putF, if_neg h2]
  all_goals rfl
/-- an entry's pair in the dict of needs -/
def NeKv (H : Hp) (kv : NKey × V) (e : En) : Prop := kv.1 = some (dkey (keyOf e)) ∧ ∃ a zs, kv.2 = .ref a ∧ H a = some (.lst zs) ∧ Paired (NdAt H) zs e.2.2
/-- the versions of each part; d: the parts whose list is in order -/
def VersI (H : Hp) (vk : List (Key × V)) (es : List En) (d : Str → Prop) : Prop :=
  ∀ x : Str, (valV vk (Sum.inr x) = none ∧ versOf es x = []) ∨ ∃ l ms, valV vk (Sum.inr x) = some (.ref l) ∧ H l = some (.lst (List.map V.int ms)) ∧ ms.Perm (versOf es x) ∧ (d x → ms.Pairwise (· ≥ ·))
structure BoardAt (C : Addr) (H : Hp) (p st : Addr) (es : List En) : Prop where
  ex : ∃ dx dn dv nks vk, H p = some (.ins C dx (bflds dn dv)) ∧ H dn = some (.dN ((none, .ref st) :: nks)) ∧ Paired (NeKv H) nks es ∧ H dv = some (.dK vk) ∧ VersI H vk es fun _ => True
theorem NeKv.same {H H' : Hp} (e : Same H H') {kv : NKey × V} {n : En} (h : NeKv H kv n) : NeKv H' kv n :=
  let ⟨h1, a, zs, h2, h3, h4⟩ := h; ⟨h1, a, zs, h2, e _ _ h3, Paired.mapP h4 fun _ _ z => NdAt.same e z⟩
theorem VersI.same {H H' : Hp} (e : Same H H') {vk : List (Key × V)} {es : List En} {d : Str → Prop} (h : VersI H vk es d) : VersI H' vk es d := fun x => by
  rcases h x with z | ⟨l, ms, h1, h2, h3, h4⟩
  · exact .inl z
  · exact .inr ⟨l, ms, h1, e _ _ h2, h3, h4⟩
theorem BoardAt.same {C : Addr} {H H' : Hp} (e : Same H H') {p st : Addr} {es : List En} (h : BoardAt C H p st es) : BoardAt C H' p st es := by
  obtain ⟨dx, dn, dv, nks, vk, h1, h2, h3, h4, h5⟩ := h.ex
  exact ⟨dx, dn, dv, nks, vk, e _ _ h1, e _ _ h2, Paired.mapP h3 fun _ _ z => NeKv.same e z, e _ _ h4, h5.same e⟩
/-- a pair is found by its key -/
theorem val_nks {H : Hp} : ∀ {nks : List (NKey × V)} {es : List En}, Paired (NeKv H) nks es → ∀ k : Str × Int, (k ∉ es.map keyOf ∧ valV nks (some (dkey k)) = none) ∨ ∃ e ∈ es, keyOf e = k ∧ ∃ a zs, valV nks (some (dkey k)) = some (.ref a) ∧ H a = some (.lst zs) ∧ Paired (NdAt H) zs e.2.2
  | _, _, .nil, k => .inl ⟨by simp, rfl⟩
  | _, _, .cons (a := kv) (b := e) r t, k => by
    obtain ⟨h1, a, zs, h2, h3, h4⟩ := r
    by_cases hk : keyOf e = k
    · refine .inr ⟨e, by simp, hk, a, zs, ?_, h3, h4⟩
      rw [valV_pos (by rw [h1, hk]), h2]
    · have hn : ¬ kv.1 = some (dkey k) := by
        rw [h1]
        exact fun z => hk (dkey_inj (Option.some.inj z))
      rw [valV_neg hn]
      rcases val_nks t k with ⟨z1, z2⟩ | ⟨e', he', z⟩
      · refine .inl ⟨?_, z2⟩
        rw [List.map_cons, List.mem_cons]
        exact fun y => y.elim (fun q => hk q.symm) z1
      · exact .inr ⟨e', by simp [he'], z⟩
end FB

namespace L2
open PySem PySem.Spec PyProof.Rows

/-! ### for i, x in enumerate(xs) -/
section
variable {X : Cx} {pins : List (Addr × Obj)} {σ : St} {H : Hp} {s : Shared} {h' : Heap}
/-- several untracked records of ours have turned -/
theorem Inv.turneds {t' : Nat} {ch : List Addr} (I : Inv X pins σ H s) (hf : ∀ b ∈ ch, FpOk X pins H b) (k : ∀ b o, b ∉ ch → s.heap.get? b = some o → h'.get? b = some o) : Inv X pins σ H { s with heap := h', toks := t' } := by
  refine I.step (g' := s.gens) (d' := s.drawn) (ch := ch) (fun b hb => ?_) (fun b o _ _ hc e _ => k b o hc e) (fun b o _ _ hc e _ => ⟨o.slots, k b o hc e⟩) (fun _ _ _ _ n => n)
    (fun b o hc e => ⟨o, k b o hc e⟩) (fun _ _ e => e) (fun _ _ _ e => e) (fun b ps e => ⟨#[], by rw [e]; simp⟩) (fun m hm => ?_) (fun b u e => ?_) I.bare
  · obtain ⟨f0, f1, f2, f3, f4, f5⟩ := hf b hb
    exact ⟨f3, f1, f4, f5⟩
  · obtain ⟨o, es, ep, ho, r⟩ := hm
    exact ⟨o, es, ep, k _ o (fun z => (hf _ z).2.1 rfl) ho, r⟩
  · have out : ∀ c v, H c = some v → c ∉ ch := fun c v q z => by rw [(hf c z).1] at q; cases q
    refine (I.hok b u e).stay (fun c v hc q => k c v ?_ q) (fun _ q => q) fun _ _ q => q
    rcases hc with z | z
    · rw [z]; exact out b u e
    · exact out c _ z
end
/-- the pairs of place and item of the list at a -/
def Ite (K : PySem.W.Frag) (a : Addr) : It :=
  ⟨fun i H => ∃ xs x, SqL K H a xs ∧ xs[i]? = some x, fun i H x H' => ∃ t y, H t = none ∧ x = .ref t ∧ H' = upd H t (.tup [.int i, y]) ∧ ∀ xs, SqL K H a xs → xs[i]? = some y, fun i H => ∃ xs, SqL K H a xs ∧ xs.length ≤ i⟩
theorem turn_enum {P : Program} {w : World} {K : PySem.W.Frag} {elts : List Expr} {k : Nat} {pos : Pos} (a e it : Addr) (hei : e ≠ it) : Turn P w K (.Tuple elts k pos) (Ite K a) [e, it] e (fun i h => (∃ old, IsEnum h e it i old) ∧ h.IsListIter it a i) where
  mem := by simp
  obj := fun i h st b hb => by
    obtain ⟨⟨old, he⟩, o, e1, c, d⟩ := st
    rcases List.mem_cons.mp hb with z | z
    · subst z
      exact ⟨_, he, fun v z => by
        have z' : Data.fields _ = Data.cell v := z
        cases z'⟩
    · rw [List.mem_singleton.mp z]
      exact ⟨o, e1, fun v z => by rw [d] at z; cases z⟩
  keep := fun i h h' st kk => ⟨let ⟨old, he⟩ := st.1; ⟨old, kk e (by simp) _ he⟩, st.2.at fun o z => kk it (by simp) o z⟩
  item := by
    intro X hP hw hK hc i pins s σ H E I hf st hg
    subst hP hw hK
    obtain ⟨xs, x, hq, hx⟩ := hg
    obtain ⟨its, rv, p, hz⟩ := I.list hq
    obtain ⟨u, hu, ru⟩ := rv.get hx
    obtain ⟨⟨old, he⟩, hit⟩ := st
    have hl : s.heap.IsList a its.toArray := p.isList
    have hae : a ≠ e := fun z => by
      obtain ⟨o, h1, h2, _⟩ := hl
      rw [z, he] at h1
      cases h1
      exact absurd h2 (show ¬ (Value.type "enumerate" = Value.type "list") by decide)
    have hai : a ≠ it := fun z => by
      obtain ⟨o, h1, h2, _⟩ := hl
      obtain ⟨o', g1, g2, _⟩ := hit
      rw [z, g1] at h1
      cases h1
      rw [g2] at h2
      exact absurd h2 (by decide)
    have hi : i < its.toArray.size := by
      have := (List.getElem?_eq_some_iff.mp hu).1
      simpa using this
    have W := WalksT.enumerate (prog := X.prog) (w := X.w) (A := X.A) (I.ok.hd hc) e it a hei hae hai its.toArray
    refine W.item i s _ _ hi ⟨⟨old, he⟩, hit, hl⟩ fun T vals h' tk hP hT htup hM kk => ⟨.ref T, rfl, W.go elts k pos i T _ _ _ hM fun h'' st' kk' => ?_⟩
    have hTn : s.heap.get? T = none := Heap.get?_none_of_le hT
    have hHT : H T = none := I.hok.fresh hT
    have nTf : T ∉ [e, it] := W.apart i T _ hM
    have I1 : Inv X pins σ H { s with heap := h'', toks := tk } := I.turneds (ch := [e, it]) hf fun b o hb z => kk' b o hb (kk b o hb z)
    obtain ⟨o, ho, hc1, n, hd1⟩ := htup
    have hT2 := kk' T o nTf ho
    obtain ⟨t, y, hy, rfl⟩ := hP
    have hyu : y = u := by
      have : its.toArray[i]? = some u := by simpa using hu
      rw [this] at hy
      exact (Option.some.inj hy).symm
    subst hyu
    refine ⟨.ref T, upd H T (.tup [.int i, x]), I1.adopt (I.fpNew hTn hHT) ⟨by show 2 ≤ sizeLine; decide, [.int i t, y], .cons ⟨t, rfl⟩ (.cons ru .nil), o, hT2, hc1, n, hd1⟩, rfl,
      ⟨T, x, hHT, rfl, rfl, fun ys hy => by rw [I.list_inj hy hq]; exact hx⟩, ⟨st'.1, st'.2.1⟩, fun b hb => ?_⟩
    rw [upd_ne (show b ≠ T from fun z => nTf (by rw [← z]; exact hb))]
    exact (hf b hb).1
  done := by
    intro X hP hw hK hc i pins s σ H E I hf st hg
    subst hP hw hK
    obtain ⟨xs, hq, hx⟩ := hg
    obtain ⟨its, rv, p, hz⟩ := I.list hq
    obtain ⟨⟨old, he⟩, hit⟩ := st
    have hl := rv.length
    obtain ⟨f0, f1, f2, f3, f4, f5⟩ := hf it (by simp)
    exact wpAny_pyNext_enum_end (I.ok.hd hc) he hit p.isList (by simp; omega) fun h' eb => ⟨rfl, I.turned (t' := s.toks) (fun b o hb e => eb b o hb e) f0 f1 f3 f4 f5⟩
  self := fun _ _ _ _ _ st h => let ⟨_, he⟩ := st.1; wpAny_pyIter_enum he h
def iEnum (K : PySem.W.Frag) (tl : TE) : TI := fun σ H R => tl σ H fun x H1 => ∃ a xs, x = .ref a ∧ H1 a = some (.lst xs) ∧ R (Ite K a) H1
theorem pi_enum {X : Cx} {elts : List Expr} {k : Nat} {tpos p pos : Pos} {l : Expr} {tl : TE} (hg : Gl X "enumerate") (hm : X.mg "enumerate" = none) (hl : PE X l tl) (hs : starEach [l] X.env = [(false, eval l X.env)] := by rfl) :
    PI X (.Tuple elts k tpos) (.Call (.Name "enumerate" p) [l] [] pos) (iEnum X.K tl) := by
  intro pins s σ H R I h
  refine wpAny_Call_Name_kw (ld_blt I hg hm PyProof.Rows.boot_enumerate ?_ (by decide) (by decide))
  refine PyProof.Rows.callWith_type1 ?_ hs rfl
  have hA := (pa_cons hl pa_nil hs) pos pins s σ H (fun vs H1 => match vs with | [x] => (∃ a xs, x = .ref a ∧ H1 a = some (.lst xs) ∧ R (Ite X.K a) H1) | _ => False) I h
  refine thn hA fun us s1 ⟨vs, H1, I1, r, q0⟩ => ?_
  match vs, r, q0 with
  | [x], r, ⟨a, xs, e2, hS, q⟩ =>
    subst e2
    obtain ⟨u, rfl, r1⟩ := vals1 r
    cases (show u = Value.ref a from r1)
    obtain ⟨hz, its, n, rv, hob⟩ := (show ObjOk X.prog X.w H1 s1.heap a (.lst xs) from I1.hok a _ hS)
    refine call_enumerate_1 hob fun h' he hit hsz kk => ?_
    refine wpAny_pyIter_enum (s := { s1 with heap := h' }) he ?_
    have e0 : s1.heap.get? s1.heap.objs.size = none := Heap.get?_none_of_le (Nat.le_refl _)
    have e1 : s1.heap.get? (s1.heap.objs.size + 1) = none := Heap.get?_none_of_le (Nat.le_succ _)
    refine ⟨s1.heap.objs.size + 1, [s1.heap.objs.size + 1, s1.heap.objs.size], _, _, H1, rfl, I1.kept (t' := s1.toks) kk, turn_enum a _ _ (Nat.succ_ne_self _), ⟨⟨_, he⟩, hit⟩, fun b hb => ?_, q⟩
    rcases List.mem_cons.mp hb with z | z
    · subst z; exact I1.fpNew e1 (I1.hok.fresh (Nat.le_succ _))
    · rw [List.mem_singleton.mp z]; exact I1.fpNew e0 (I1.hok.fresh (Nat.le_refl _))
theorem for_enum {K : PySem.W.Frag} {a : Addr} {xs : List V} {g : TG} {tb : TS} {D : Ends} {σ : St} {H : Hp} (Pv : Nat → St → Hp → Prop) (h0 : Pv 0 σ H) (hl : ∀ i σ H, i ≤ xs.length → Pv i σ H → SqL K H a xs)
    (hs : ∀ i x σ H t, xs[i]? = some x → Pv i σ H → H t = none → g (.ref t) σ (upd H t (.tup [.int (i : Nat), x])) fun σ2 H2 => tb { D with nx := Pv (i + 1), ct := Pv (i + 1), bk := D.nx } σ2 H2) (hd : ∀ σ H, Pv xs.length σ H → D.nx σ H) :
    ∃ W : Nat → Nat → St → Hp → Prop, (∃ m, W 0 m σ H) ∧ ∀ i m σ H, W i m σ H →
      ((Ite K a).stop i H ∧ D.nx σ H) ∨ ((Ite K a).go i H ∧ ∃ N : St → Hp → Prop, (∀ σ' H', N σ' H' → ∃ m', m' < m ∧ W (i + 1) m' σ' H') ∧ ∀ x H', (Ite K a).yld i H x H' → g x σ H' fun σ2 H2 => tb { D with nx := N, ct := N, bk := D.nx } σ2 H2) := by
  refine ⟨fun i m σ H => m = xs.length - i ∧ i ≤ xs.length ∧ Pv i σ H, ⟨xs.length, by simp, Nat.zero_le _, h0⟩, ?_⟩
  rintro i m σ H ⟨rfl, hi, p⟩
  have q := hl i σ H hi p
  rcases Nat.lt_or_ge i xs.length with hlt | hge
  · refine .inr ⟨⟨xs, xs[i], q, by simp [hlt]⟩, Pv (i + 1), fun σ' H' p' => ⟨xs.length - (i + 1), by omega, rfl, hlt, p'⟩, fun x H' y => ?_⟩
    obtain ⟨t, z, ht, rfl, rfl, y⟩ := y
    exact hs i z σ _ t (y xs q) p ht
  · obtain rfl : i = xs.length := Nat.le_antisymm hi hge
    exact .inl ⟨⟨xs, q, Nat.le_refl _⟩, hd σ H p⟩

/-! ### f(..), f a name of the frame's -/
section
variable {X : Cx} {k : Nat} {x : Str} {p pos : Pos} {e : Expr} {es : List Expr} {t : TA} {i : Nat}
def tCallV (P : Program) (w : World) (K : PySem.W.Frag) (mg : Str → Option Value) (base : Heap) (k i : Nat) (t : TA) : TE := fun σ H Q => ∃ g gd ps sp, σ[i]? = some (some (.ref g)) ∧ FnOk P w K mg base CX0 k g gd ps sp ∧ PySem.W.keepIn K (.ref g) = true ∧ Binds K gd ps [] ∧ t σ H fun vs H1 => sp vs H1 Q E0
theorem pe_callV (hN : X.N[i]? = some x) (hv : Vis X.env.scope x) (hr : Room k X.A) (ha : PA X (e :: es) t) (hd : (x == ("__debug__" : Str)) = false := by decide) (hcd : (x == ("__classdict__" : Str)) = false := by decide)
    (he : starEach (e :: es) X.env = (false, eval e X.env) :: starEach es X.env := by rfl) (hpl : (backTo pos (starEach es X.env)).any (·.1) = false := by rfl) : PE X (.Call (.Name x p) (e :: es) [] pos) (tCallV X.prog X.w X.K X.mg X.base k i t) := by
  intro pins s σ H Q I h
  obtain ⟨g, gd, ps, sp, e1, F, hk, hb, q⟩ := h
  refine wpAny_Call_Name_kw (thn (pe_var hN hv hd hcd pins s σ H (fun v H1 => v = .ref g ∧ H1 = H) I ⟨_, e1, rfl, rfl⟩) fun u s1 ⟨v, H1, I1, r, ev, eH⟩ => ?_)
  subst ev eH
  cases (show u = Value.ref g from r)
  refine PySem.W.callWith_K (h₀ := X.base) I.ok.mod.kin hk (thn (ha pos pins s1 σ H1 _ I1 q) fun us s2 ⟨vs, H2, I2, r2, q2⟩ => ⟨I2.kIn, ?_⟩) he hpl
  exact run_fn (ds := []) (dvs := []) (E := E0) F hr hb .nil pass0 I2 r2 (by rw [List.append_nil]; exact q2)
end
end L2

namespace L2
open PySem PySem.Spec PyProof.Rows

/-! ### dict(xs), xs a list of pairs -/
theorem list_keys_miss : typeLookup (.type "list") "keys" = pure none := by rw [typeLookup_type, builtinLookup_eq_fast]; kernel_rfl
theorem keys_miss {prog : Program} {w : World} {A : Around} {E : Value → Shared → Prop} {s : Shared} {a : Addr} {xs : Array Value} {k : Nat} {Q : Option Value → Shared → Prop}
    (hx : s.heap.get? a = some { cls := .type "list", data := .seq xs k }) (hA : A.handled = none) (h : ∀ h' tk, (∀ b o, s.heap.get? b = some o → h'.get? b = some o) → Q none { s with heap := h', toks := tk }) :
    wpAny (model prog w) A (getAttr? (.ref a) "keys") Q E s := by
  obtain ⟨hp, g, d, tk, os⟩ := s
  have hT : ∀ tk', (⟨hp, g, d, tk', os⟩ : Shared).TypeIs (.ref a) "list" := fun _ => ⟨_, hx, rfl⟩
  have f1 := sub_AttributeError
  have f3 := PySem.F.slot_list_getattribute.lookup
  have f4 := PySem.F.slot_list_getattribute.bind (.ref a)
  have f5 := am_list_getattr_none
  unfold getAttr? getAttrBy? getAttrBy
  repeat (any_goals (first | assumption | exact hT _ | ((with_reducible show wpAny _ _ (call (Value.builtin "list.__getattribute__") _ _) _ _ _); refine call_meets PySem.F.slot_list_getattribute (hT _) am_entry_list_getattribute (PySem.F.args_list_getattribute_2 _ _) (meets_getattribute_miss_list a xs k #[] "keys" _ list_keys_miss (by decide +kernel) (by decide +kernel)) ⟨hx, hA, fun h' tk' e hx' => ?_⟩) | wp_step))
  obtain ⟨t', u', he⟩ := hx'.there
  show wpAny _ _ (getattributeRaised _ _ _ _ _ _ _) _ _ _
  unfold getattributeRaised
  repeat (any_goals (first | assumption | wp_step))
  exact h _ _ hx'.keeps

theorem entry_upd_loop : entryFor table "dict.update.loop" = some Builtin.«dict.update.loop» := entryFor_of_tree (by kernel_rfl)
theorem plain_upd_loop : plainId "dict.update.loop" = true := by decide +kernel
/-- the items are pairs of these keys and values -/
def PairIts (P : Program) (w : World) (h : Heap) (S it : Addr) (items : Array Value) (ks : List (Key × Value)) : Prop :=
  ∀ j, j < items.size → ∃ q k u v, items[j]? = some (.ref q) ∧ q ≠ S ∧ q ≠ it ∧ h.IsTuple q #[u, v] ∧ (mixKind P w).is k u = true ∧ ks[j]? = some (k, v)
section
variable {P : Program} {w : World} {A : Around} {R : Result → Shared → Prop} {S it l : Addr} {items : Array Value} {ks : List (Key × Value)}
theorem upd_loop (hh : A.handled = none) (hSi : S ≠ it) (hli : l ≠ it) (hlS : l ≠ S) (hks : ks.length = items.size) : ∀ (n i : Nat) (s : Shared) (kvs : List (Key × Value)), items.size - i = n → i ≤ items.size → s.heap.IsListIter it l i → s.heap.IsList l items → s.heap.DictOf (mixKind P w) S kvs →
    kvs.length + (items.size - i) ≤ sizeLine → PairIts P w s.heap S it items ks →
    (∀ h' tk, h'.DictOf (mixKind P w) S (merged kvs (ks.drop i)) → (∀ b o, b ≠ S → b ≠ it → s.heap.get? b = some o → h'.get? b = some o) → R (.ok (.ret .none)) { s with heap := h', toks := tk }) →
    codeAny (model P w) A (.builtin "dict.update.loop" ⟨[.ref S, .ref it, rawInt i, .none], []⟩) R s := by
  intro n
  induction n with
  | zero =>
    intro i s kvs hn hi hit hl hd hz hp h
    have hin : i = items.size := by omega
    refine codeAny_builtin entry_upd_loop ?_
    rw [Around.under_plainId plain_upd_loop _]
    show wpAny _ A.in1 (pyNext (.ref it) >>= _) _ _ s
    refine wpAny_bind (wpAny_pyNext_list_end hh hit hl (by rw [hin]; exact Array.getElem?_eq_none (Nat.le_refl _)) fun h' eb => ?_)
    refine wpAny_bind (wpAny_pure (wpAny_pure (h h' s.toks ?_ fun b o hb hb2 e => eb b o hb2 e)))
    rw [List.drop_eq_nil_of_le (by omega)]
    obtain ⟨o, es, ep, e1, r⟩ := hd
    exact ⟨o, es, ep, eb S o hSi e1, r⟩
  | succ n ih =>
    intro i s kvs hn hi hit hl hd hz hp h
    have hlt : i < items.size := by omega
    obtain ⟨q, k, u, v, hx, hqS, hqi, hq, hk, hki⟩ := hp i hlt
    refine codeAny_builtin entry_upd_loop ?_
    rw [Around.under_plainId plain_upd_loop _]
    show wpAny _ A.in1 (pyNext (.ref it) >>= _) _ _ s
    refine wpAny_bind (wpAny_pyNext_list_item hit hl hx fun h1 hit1 hs1 => ?_)
    have up1 : ∀ b o, b ≠ it → s.heap.get? b = some o → h1.get? b = some o := fun b o hb e => (hs1.2 b hb).trans e
    obtain ⟨oq, hoq, hcq, nq, hdq⟩ := id hq
    have hd1 : h1.DictOf (mixKind P w) S kvs := by
      obtain ⟨o, es, ep, e1, r⟩ := hd
      exact ⟨o, es, ep, up1 S o hSi e1, r⟩
    have hT : (⟨h1, s.gens, s.drawn, s.toks, s.os⟩ : Shared).TypeIs (.ref q) "tuple" := ⟨_, up1 q oq hqi hoq, hcq⟩
    refine wpAny_bind (wpAny_holding (wpAny_bind (wpAny_tryCatch ?_)))
    unfold Builtin.Dict.pairItems
    refine wpAny_bind (wpAny_typeOf hT ?_)
    rw [if_pos (by decide)]
    refine wpAny_bind (wpAny_seqItems (up1 q oq hqi hoq) hdq (wpAny_pure ?_))
    show wpAny _ _ (holding [u, v] (dictSet S u v)) _ _ _
    refine wpAny_holding (wpAny_dictSet_pairs (hsz := by omega) hk hd1 fun h2 hd2 hs2 => ?_)
    have up2 : ∀ b o, b ≠ S → h1.get? b = some o → h2.get? b = some o := fun b o hb e => (hs2.2 b hb).trans e
    refine wpAny_pure ⟨plainId_quiet plain_upd_loop _, ?_⟩
    have hc : rawInt ((i : Int) + 1) = rawInt ((i + 1 : Nat) : Int) := by push_cast; rfl
    rw [hc]
    have hdr : ks.drop i = (k, v) :: ks.drop (i + 1) := by
      obtain ⟨hl', e'⟩ := List.getElem?_eq_some_iff.mp hki
      rw [List.drop_eq_getElem_cons hl', e']
    refine ih (i + 1) _ (stored kvs k v) (by omega) hlt (hit1.at fun o e => up2 it o (Ne.symm hSi) e) (hl.at fun o e => up2 l o hlS (up1 l o hli e)) hd2 ?_ (fun j hj => ?_) fun h' tk hd' hk' => ?_
    · have : (stored kvs k v).length ≤ kvs.length + 1 := by
        unfold stored
        split
        · rw [List.length_map]; omega
        · rw [List.length_append]; exact Nat.le_refl _
      omega
    · obtain ⟨q', k', u', v', z1, z2, z3, ⟨o', z4, z5⟩, z6⟩ := hp j hj
      exact ⟨q', k', u', v', z1, z2, z3, ⟨o', up2 q' o' z2 (up1 q' o' z3 z4), z5⟩, z6⟩
    · refine h h' tk ?_ fun b o hb hb2 e => hk' b o hb hb2 (up2 b o hb (up1 b o hb2 e))
      rw [hdr]
      exact hd'
end
/-- a pair in the heap -/
def PairAt (H : Hp) (v : V) (kv : Key × V) : Prop := ∃ q, v = .ref q ∧ H q = some (.tup [kV kv.1, kv.2])
theorem call_dictP {X : Cx} (hc : X.calm = true) : CallR X (.type "dict") (fun xs H Q => ∃ l ys kvs, xs = [.ref l] ∧ H l = some (.lst ys) ∧ Paired (PairAt H) ys kvs ∧ kvs.length ≤ 1000 ∧ ∀ p, H p = none → Q (.ref p) (upd H p (.dK (mergeK [] kvs)))) := by
  intro pins s σ H xs us Q I r h
  obtain ⟨l, ys, kvs, rfl, e, hp, hz, q⟩ := h
  obtain ⟨u, rfl, r1⟩ := vals1 r
  cases (show u = Value.ref l from r1)
  obtain ⟨hzl, its, n, rv, hob⟩ := (show ObjOk X.prog X.w H s.heap l (.lst ys) from I.hok l _ e)
  have hlen : ys.length = kvs.length := Paired.length hp
  have hlen2 : ys.length = its.length := rv.length
  generalize hS : s.heap.objs.size = S
  have nS : s.heap.get? S = none := hS ▸ Heap.get?_none_of_le (Nat.le_refl _)
  -- the raw pairs
  have raw : ∃ rs : List (Key × Value), KV kvs rs ∧ rs.length = its.length ∧ ∀ j, j < its.length → ∃ q k u v, its[j]? = some (.ref q) ∧ s.heap.IsTuple q #[u, v] ∧ (mixKind X.prog X.w).is k u = true ∧ rs[j]? = some (k, v) := by
    clear e hob hzl r1 r q hlen hlen2
    induction rv generalizing kvs with
    | nil => cases hp; exact ⟨[], .nil, rfl, fun j hj => by simp at hj⟩
    | @cons y u ys us hy t ih =>
      cases hp with
      | @cons _ kv _ kvs' h1 h2 =>
        obtain ⟨rs, g1, g2, g3⟩ := ih kvs' h2 (by rw [List.length_cons] at hz; omega)
        obtain ⟨qa, rfl, hq⟩ := h1
        cases (show u = Value.ref qa from hy)
        obtain ⟨_, tv, rt, o, h3, h4, m, h5⟩ := (show ObjOk X.prog X.w H s.heap qa (.tup [kV kv.1, kv.2]) from I.hok qa _ hq)
        cases rt with
        | @cons _ u1 _ _ ru1 rt2 =>
          cases rt2 with
          | @cons _ u2 _ _ ru2 rt3 =>
            cases rt3
            refine ⟨(kv.1, u2) :: rs, .cons ⟨rfl, ru2⟩ g1, by simp [g2], fun j hj => ?_⟩
            cases j with
            | zero => exact ⟨qa, kv.1, u1, u2, rfl, ⟨o, h3, h4, m, h5⟩, kV_is ru1, rfl⟩
            | succ j =>
              obtain ⟨q', k', u', v', z1, z2, z3, z4⟩ := g3 j (by simpa using hj)
              exact ⟨q', k', u', v', by simpa using z1, z2, z3, by simpa using z4⟩
  obtain ⟨rs, hkv, hrl, hraw⟩ := raw
  refine callType_codes (Q₁ := fun obj s1 => obj = .ref S ∧ s1 = { s with heap := s.heap.push { cls := .type "dict", data := .dict #[] } }) PySem.F.kt_called_dict (PySem.F.kt_typeCall_dict_1 _) PySem.F.entry_dict_init (kt_code_dict_new _ ⟨by rw [hS], rfl⟩) ?_
  rintro obj s1 ⟨rfl, rfl⟩
  have hnew : (s.heap.push { cls := .type "dict", data := .dict #[] }).DictOf (mixKind X.prog X.w) S [] := hS ▸ Heap.DictOf.new s.heap
  refine ⟨hnew.typeIs, PySem.F.args_dict_init_2 _ _, ?_⟩
  unfold Builtin.«dict.__init__»
  refine wpAny_bind ?_
  unfold Builtin.Dict.selfAndRest
  refine wpAny_bind (wpAny_notOrdered_dict hnew.typeIs (wpAny_pure ?_))
  show wpAny _ _ (Builtin.Dict.updateFrom "dict.__init__" S (.ref l) [] .none) _ _ _
  unfold Builtin.Dict.updateFrom
  have hob1 := Heap.get?_push_of_some (h := s.heap) { cls := .type "dict", data := .dict #[] } hob
  refine wpAny_bind (wpAny_typeOf ⟨_, hob1, rfl⟩ ?_)
  rw [if_pos (by decide)]
  refine wpAny_bind (keys_miss hob1 (I.ok.hd hc) fun h1 tk1 k1 => ?_)
  rw [if_pos (by decide)]
  have hob2 := k1 _ _ hob1
  refine wpAny_bind (wpAny_rule (wpAny_bind (wpAny_pyIter_list (s := { s with heap := h1, toks := tk1 }) ⟨_, hob2, rfl, n, rfl⟩ (wpAny_pure ⟨plainId_quiet plain_upd_loop _, ?_⟩))))
  dsimp only
  generalize hit0 : h1.objs.size = it
  have nit : h1.get? it = none := hit0 ▸ Heap.get?_none_of_le (Nat.le_refl _)
  have up0 : ∀ b o, s.heap.get? b = some o → h1.get? b = some o := fun b o z => k1 b o (Heap.get?_push_of_some _ z)
  have eS : h1.get? S = some { cls := .type "dict", data := .dict #[] } := k1 S _ (by rw [← hS]; exact Heap.get?_push_size _ rfl)
  have up : ∀ b o, h1.get? b = some o → (h1.push { cls := .type "list_iterator", data := .fields #[.ref l, .int 0 0] }).get? b = some o := fun b o z => Heap.get?_push_of_some _ z
  have notit : ∀ b o, h1.get? b = some o → b ≠ it := fun b o z y => by rw [y, nit] at z; cases z
  have notS : ∀ b o, s.heap.get? b = some o → b ≠ S := fun b o z y => by rw [y, nS] at z; cases z
  have hd1 : (h1.push { cls := .type "list_iterator", data := .fields #[.ref l, .int 0 0] }).DictOf (mixKind X.prog X.w) S [] := ⟨_, #[], 0, up _ _ eS, ⟨rfl, rfl, rfl⟩, rfl, fun _ he => by simp at he, .nil, List.nodup_nil⟩
  refine upd_loop (A := X.A.in1) (l := l) (items := its.toArray) (ks := rs) (I.ok.hd hc) (notit S _ eS) (notit l _ hob2) (notS l _ hob) (by rw [hrl, List.size_toArray]) its.length 0 _ [] (by simp) (Nat.zero_le _)
    ⟨_, by rw [← hit0]; exact Heap.get?_push_size _ rfl, rfl, rfl⟩ ⟨_, up _ _ hob2, rfl, n, rfl⟩ hd1 (by rw [List.length_nil, List.size_toArray]; omega) (fun j hj => ?_) fun h' tk hd' hk' => ?_
  · obtain ⟨q', k', u', v', z1, ⟨o', z2, z3⟩, z4, z5⟩ := hraw j (by simpa using hj)
    exact ⟨q', k', u', v', by simpa using z1, notS q' o' z2, notit q' o' (up0 _ _ z2), ⟨o', up _ _ (up0 _ _ z2), z3⟩, z4, z5⟩
  · rw [List.drop_zero] at hd'
    have hnS : H S = none := I.hok.fresh (Nat.le_of_eq hS)
    have hm : (mergeK [] kvs).length ≤ sizeLine := by
      have h1 := length_mergeK kvs []
      rw [List.length_nil] at h1
      rw [sizeLine_eq]; omega
    refine ⟨rfl, .ref S, upd H S (.dK (mergeK [] kvs)), I.laid (a := S) (o := .dK (mergeK [] kvs)) (h' := h') (t' := tk) (fun b o z => hk' b o (notS b o z) (notit b o (up0 b o z)) (up b o (up0 b o z))) (Nat.le_of_eq hS) (dk_new hm ?_ (hkv.merge .nil) hd'), rfl, q S hnS⟩
    exact beq_eq_false_iff_ne.mpr (Ne.symm (Nat.ne_of_lt (hS ▸ I.big)))

/-! ### f'..{e!r}' -/
def tF2 (a : Str) (te : TE) : TE := fun σ H Q => te σ H fun x H1 => ∃ z : Str, x = .str z ∧ (reprText z).length ≤ 1000 ∧ Q (.str (Str.empty ++ a ++ reprText z)) H1
theorem pe_f2 {X : Cx} {a : Str} {e : Expr} {te : TE} {k : Nat} {pa pf pos : Pos} (he : PE X e te) (la : a.length ≤ 1000) :
    PE X (.JoinedStr [.Constant (.str a) k pa, .FormattedValue e 114 none pf] pos) (tF2 a te) := by
  intro pins s σ H Q I h
  refine wpAny_JoinedStr ?_
  have lw : ∀ n : Nat, n ≤ 3000 → n ≤ sizeLine := fun n hn => Nat.le_trans hn (by decide)
  have l0 : (Str.empty : Str).length = 0 := by decide +kernel
  refine Calls.Constant_str ⟨a, _, rfl, lw _ (by rw [strLen_append, l0]; omega), ?_⟩
  refine wpAny_FormattedValue_repr (thn (he pins _ σ H _ (I.tok _) h) fun u s1 ⟨x, H1, I1, r1, z, e1, h1, q⟩ => ?_)
  subst e1
  obtain ⟨t, rfl⟩ := (show ∃ t, u = Value.str z t from r1)
  refine pyReprObj_str (hx := lw _ (by omega)) (formatField_str (hsz := lw _ (by omega)) fun t' tk => ?_)
  refine ⟨_, t', rfl, lw _ (by rw [strLen_append, strLen_append, l0]; omega), ?_⟩
  exact ⟨lw _ (by rw [strLen_append, strLen_append, l0]; omega), .str _, H1, (I1.tok _).tok _, ⟨_, rfl⟩, q⟩
end L2

namespace FB
open PySem L2 PyProof.Rows

/-! ### picks, starts -/
abbrev Pk := Str × Int
def PksAt (H : Hp) (a : Addr) (ps : List Pk) : Prop := ∃ xs, H a = some (.lst xs) ∧ Paired (PkAt H) xs ps
def NdsAt (H : Hp) (a : Addr) (ns : List Nd) : Prop := ∃ zs, H a = some (.lst zs) ∧ Paired (NdAt H) zs ns
theorem PksAt.same {H H' : Hp} (e : Same H H') {a : Addr} {ps : List Pk} (h : PksAt H a ps) : PksAt H' a ps := let ⟨xs, h1, h2⟩ := h; ⟨xs, e _ _ h1, Paired.mapP h2 fun _ _ z => PkAt.same e z⟩
theorem NdsAt.same {H H' : Hp} (e : Same H H') {a : Addr} {ns : List Nd} (h : NdsAt H a ns) : NdsAt H' a ns := let ⟨xs, h1, h2⟩ := h; ⟨xs, e _ _ h1, Paired.mapP h2 fun _ _ z => NdAt.same e z⟩
/-- versions by part, as a dict holds them -/
def pkv (ps : List Pk) : List (Key × V) := ps.map fun k => (Sum.inr k.1, V.int k.2)
def verOf (ps : List Pk) (x : Str) : Option Int := (ps.find? fun k => decide (k.1 = x)).map (·.2)
theorem valV_pkv (x : Str) : ∀ ps : List Pk, valV (pkv ps) (Sum.inr x : Key) = (verOf ps x).map V.int
  | [] => rfl
  | k :: ps => by
    have ih := valV_pkv x ps
    unfold pkv verOf at *
    rw [List.map_cons]
    by_cases h : k.1 = x
    · rw [valV_pos (by rw [h]), List.find?_cons, decide_eq_true h]; rfl
    · rw [valV_neg (fun z => h (Sum.inr.inj z)), ih, List.find?_cons, decide_eq_false h]
theorem merge_pkv : ∀ (ps qs : List Pk), ((qs ++ ps).map (·.1)).Nodup → mergeK (pkv qs) (pkv ps) = pkv (qs ++ ps)
  | [], qs, _ => by rw [List.append_nil]; rfl
  | k :: ps, qs, h => by
    have hv : valV (pkv qs) (Sum.inr k.1 : Key) = none := by
      rw [valV_pkv]
      have : verOf qs k.1 = none := by
        unfold verOf
        rw [List.find?_eq_none.mpr]
        · rfl
        · intro x hx hc
          rw [List.map_append, List.nodup_append] at h
          exact h.2.2 x.1 (List.mem_map_of_mem hx) k.1 (by simp) (of_decide_eq_true hc)
      rw [this]; rfl
    show mergeK (putK (pkv qs) (Sum.inr k.1) (V.int k.2)) (pkv ps) = _
    rw [putK_new _ hv]
    have e : pkv qs ++ [((Sum.inr k.1 : Key), V.int k.2)] = pkv (qs ++ [k]) := by unfold pkv; rw [List.map_append]; rfl
    rw [e, merge_pkv ps (qs ++ [k]) (by rw [List.append_assoc]; exact h), List.append_assoc]
    rfl
theorem pair_of {H : Hp} {v : V} {k : Pk} (h : PkAt H v k) : PairAt H v (Sum.inr k.1, V.int k.2) := h
theorem pairs_of {H : Hp} : ∀ {xs : List V} {ps : List Pk}, Paired (PkAt H) xs ps → Paired (PairAt H) xs (pkv ps)
  | _, _, .nil => .nil
  | _, _, .cons h t => .cons (pair_of h) (pairs_of t)
/-- does a need clash with picks; is it open -/
def clwB (ps : List Pk) (n : Nd) : Bool := match verOf ps n.1 with
  | none => false
  | some z => !(inB n z)
def lackB (ps : List Pk) (n : Nd) : Bool := (verOf ps n.1).isNone

/-! ### the first need of some kind -/
def needsOf (es : List En) (k : Pk) : List Nd := match es.find? fun e => decide (keyOf e = k) with
  | some e => e.2.2
  | none => []
/-- the needs in their order: by who, by place -/
def rows (es : List En) (st : List Nd) (ps : List Pk) : List (List Nd) := st :: ps.map (needsOf es)
structure IsFirst (p : Nd → Bool) (L : List (List Nd)) (i j : Nat) : Prop where
  at_ : ∃ ns n, L[i]? = some ns ∧ ns[j]? = some n ∧ p n = true ∧ ∀ m ∈ ns.take j, p m = false
  be : ∀ i' ns, i' < i → L[i']? = some ns → ∀ m ∈ ns, p m = false
def NoneOf (p : Nd → Bool) (L : List (List Nd)) : Prop := ∀ ns ∈ L, ∀ m ∈ ns, p m = false
theorem IsFirst.one {p : Nd → Bool} {L : List (List Nd)} {i j i' j' : Nat} (h : IsFirst p L i j) (h' : IsFirst p L i' j') : i = i' ∧ j = j' := by
  obtain ⟨ns, n, a1, a2, a3, a4⟩ := h.at_
  obtain ⟨ns', n', b1, b2, b3, b4⟩ := h'.at_
  have e : i = i' := by
    rcases Nat.lt_trichotomy i i' with z | z | z
    · have := h'.be i ns z a1 n (List.mem_of_getElem? a2)
      rw [a3] at this; cases this
    · exact z
    · have := h.be i' ns' z b1 n' (List.mem_of_getElem? b2)
      rw [b3] at this; cases this
  subst e
  rw [a1] at b1
  cases b1
  refine ⟨rfl, ?_⟩
  have tk : ∀ {j j' : Nat} {x : Nd}, ns[j]? = some x → j < j' → x ∈ ns.take j' := fun {j j' x} hx hlt => by
    refine List.mem_of_getElem? (i := j) ?_
    rw [List.getElem?_take, if_pos hlt]
    exact hx
  rcases Nat.lt_trichotomy j j' with z | z | z
  · have := b4 n (tk a2 z)
    rw [a3] at this; cases this
  · exact z
  · have := a4 n' (tk b2 z)
    rw [b3] at this; cases this
theorem IsFirst.not {p : Nd → Bool} {L : List (List Nd)} {i j : Nat} (h : IsFirst p L i j) (h' : NoneOf p L) : False := by
  obtain ⟨ns, n, a1, a2, a3, _⟩ := h.at_
  have := h' ns (List.mem_of_getElem? a1) n (List.mem_of_getElem? a2)
  rw [a3] at this; cases this
theorem needs_found {es : List En} (hn : (es.map keyOf).Nodup) {e : En} (he : e ∈ es) : needsOf es (keyOf e) = e.2.2 := by
  unfold needsOf
  have : es.find? (fun x => decide (keyOf x = keyOf e)) = some e := by
    induction es with
    | nil => cases he
    | cons a es ih =>
      rw [List.map_cons, List.nodup_cons] at hn
      rw [List.find?_cons]
      rcases List.mem_cons.mp he with z | z
      · subst z; rw [decide_eq_true rfl]
      · have : ¬ keyOf a = keyOf e := fun y => hn.1 (y ▸ List.mem_map_of_mem z)
        rw [decide_eq_false this]
        exact ih hn.2 z
  rw [this]
/-- a board's dict: None, or a pick that is on the shelf -/
theorem BoardAt.start {C : Addr} {H : Hp} {p st : Addr} {es : List En} (B : BoardAt C H p st es) : ∃ dx dn dv, H p = some (.ins C dx (bflds dn dv)) ∧ DGetN H dn .non (some (.ref st)) ∧
    ∀ (v : V) (k : Pk), PkAt H v k → (k ∉ es.map keyOf ∧ DGetN H dn v none) ∨ (k ∈ es.map keyOf ∧ ∃ e ∈ es, keyOf e = k ∧ ∃ a zs, DGetN H dn v (some (.ref a)) ∧ H a = some (.lst zs) ∧ Paired (NdAt H) zs e.2.2) := by
  obtain ⟨dx, dn, dv, nks, vk, h1, h2, h3, h4, h5⟩ := B.ex
  refine ⟨dx, dn, dv, h1, ⟨_, none, .inl h2, rfl, by rw [valV_pos rfl]⟩, fun v k hv => ?_⟩
  obtain ⟨q, rfl, hq⟩ := hv
  have hk : KeyV H (some (dkey k)) (.ref q) := ⟨q, rfl, hq⟩
  have hne : ¬ ((none : NKey) = some (dkey k)) := by intro z; cases z
  rcases val_nks h3 k with ⟨z1, z2⟩ | ⟨e, he, hke, a, zs, z1, z2, z3⟩
  · exact .inl ⟨z1, _, _, .inl h2, hk, by rw [valV_neg hne, z2]⟩
  · exact .inr ⟨hke ▸ List.mem_map_of_mem he, e, he, hke, a, zs, ⟨_, _, .inl h2, hk, by rw [valV_neg hne, z1]⟩, z2, z3⟩
end FB

namespace FB
open PySem L2 PyProof.Rows

/-! ### the walk from the start's needs on, the last one first -/
inductive Wk (es : List En) (ps : List Pk) : List Nd → List Str → List Str → Prop
  | done {nm : List Str} : Wk es ps [] nm nm
  | old {ah : List Nd} {n : Nd} {nm fin : List Str} : n.1 ∈ nm → Wk es ps ah nm fin → Wk es ps (ah ++ [n]) nm fin
  | new {ah : List Nd} {n : Nd} {nm fin : List Str} {z : Int} : n.1 ∉ nm → verOf ps n.1 = some z → Wk es ps (ah ++ needsOf es (n.1, z)) (nm ++ [n.1]) fin → Wk es ps (ah ++ [n]) nm fin
theorem Wk.one {es : List En} {ps : List Pk} {ah : List Nd} {nm fin fin' : List Str} (h : Wk es ps ah nm fin) : Wk es ps ah nm fin' → fin = fin' := by
  induction h with
  | done =>
    intro h'
    generalize hl : ([] : List Nd) = l at h'
    cases h' with
    | done => rfl
    | old _ _ => simp at hl
    | new _ _ _ => simp at hl
  | @old ah n nm fin hn _ ih =>
    intro h'
    generalize hl : ah ++ [n] = l at h'
    cases h' with
    | done => simp at hl
    | @old ah' n' _ _ hn' h2 =>
      obtain ⟨e1, e2⟩ := List.append_inj' hl rfl
      cases e2; subst e1
      exact ih h2
    | @new ah' n' _ _ z hn' hv h2 =>
      obtain ⟨e1, e2⟩ := List.append_inj' hl rfl
      cases e2
      exact absurd hn hn'
  | @new ah n nm fin z hn hv _ ih =>
    intro h'
    generalize hl : ah ++ [n] = l at h'
    cases h' with
    | done => simp at hl
    | @old ah' n' _ _ hn' h2 =>
      obtain ⟨e1, e2⟩ := List.append_inj' hl rfl
      cases e2
      exact absurd hn' hn
    | @new ah' n' _ _ z' hn' hv' h2 =>
      obtain ⟨e1, e2⟩ := List.append_inj' hl rfl
      cases e2; subst e1
      rw [hv] at hv'
      cases hv'
      exact ih h2
/-- no need of the start's or the picks' is wrong -/
def AllMet (es : List En) (sn : List Nd) (ps : List Pk) : Prop := NoneOf (clwB ps) (rows es sn ps) ∧ NoneOf (lackB ps) (rows es sn ps)
def okN (ps : List Pk) (n : Nd) : Prop := clwB ps n = false ∧ lackB ps n = false
/-- what fits says -/
def FitP (es : List En) (sn : List Nd) (ps : List Pk) (b : Bool) : Prop := (¬ AllMet es sn ps ∧ b = false) ∨ (AllMet es sn ps ∧ ∃ fin, Wk es ps sn [] fin ∧ b = decide (fin.length = ps.length))
/-- what the law's own walk says -/
def FitL (es : List En) (sn : List Nd) (ps : List Pk) (b : Bool) : Prop := (¬ AllMet es sn ps ∧ b = false) ∨ ∃ fin, Wk es ps sn [] fin ∧ fin.Nodup ∧ (∀ x ∈ fin, x ∈ ps.map (·.1)) ∧ (∀ n ∈ sn, okN ps n) ∧ (∀ k ∈ ps, k.1 ∈ fin → ∀ n ∈ needsOf es k, okN ps n) ∧ b = decide (fin.length = ps.length)
theorem sub_len : ∀ {l m : List Str}, l.Nodup → (∀ x ∈ l, x ∈ m) → l.length ≤ m.length
  | [], _, _, _ => Nat.zero_le _
  | x :: l, m, hn, hs => by
    rw [List.nodup_cons] at hn
    have hx := hs x (by simp)
    have ih := sub_len (l := l) (m := m.erase x) hn.2 fun y hy => by
      have hne : y ≠ x := fun e => hn.1 (e ▸ hy)
      exact (List.mem_erase_of_ne hne).mpr (hs y (by simp [hy]))
    have hlen : (m.erase x).length = m.length - 1 := List.length_erase_of_mem hx
    have : 0 < m.length := List.length_pos_of_mem hx
    rw [List.length_cons]
    omega
theorem all_in {l m : List Str} (hl : l.Nodup) (hs : ∀ x ∈ l, x ∈ m) (he : l.length = m.length) : ∀ x ∈ m, x ∈ l := fun x hx => by
  refine Classical.byContradiction fun hno => ?_
  have := sub_len (l := x :: l) (m := m) (List.nodup_cons.mpr ⟨hno, hl⟩) fun y hy => by
    rcases List.mem_cons.mp hy with z | z
    · subst z; exact hx
    · exact hs y z
  rw [List.length_cons] at this
  omega
theorem fit_same {es : List En} {sn : List Nd} {ps : List Pk} {b b' : Bool} (h : FitP es sn ps b) (h' : FitL es sn ps b') : b = b' := by
  rcases h with ⟨hbad, rfl⟩ | ⟨hall, fin, hw, rfl⟩
  · rcases h' with ⟨_, rfl⟩ | ⟨fin, hw, hnd, hsub, hs, hk, rfl⟩
    · rfl
    · rcases Decidable.em (fin.length = ps.length) with e | e
      · refine absurd ?_ hbad
        have hin := all_in hnd hsub (by rw [List.length_map]; exact e)
        have hrow : ∀ ns ∈ rows es sn ps, ∀ m ∈ ns, okN ps m := fun ns hns m hm => by
          rcases List.mem_cons.mp hns with z | z
          · subst z; exact hs m hm
          · obtain ⟨k, hk1, rfl⟩ := List.mem_map.mp z
            exact hk k hk1 (hin k.1 (List.mem_map_of_mem hk1)) m hm
        exact ⟨fun ns hns m hm => (hrow ns hns m hm).1, fun ns hns m hm => (hrow ns hns m hm).2⟩
      · rw [decide_eq_false e]
  · rcases h' with ⟨hbad, _⟩ | ⟨fin', hw', _, _, _, _, rfl⟩
    · exact absurd hall hbad
    · rw [hw.one hw']
theorem ver_in {ps : List Pk} {x : Str} {z : Int} (h : verOf ps x = some z) : (x, z) ∈ ps := by
  unfold verOf at h
  obtain ⟨k, hk, rfl⟩ := Option.map_eq_some_iff.mp h
  have h1 := List.mem_of_find?_eq_some hk
  have h2 := List.find?_some hk
  have h3 : k.1 = x := of_decide_eq_true h2
  rw [← h3]
  exact h1
theorem in_ver {ps : List Pk} (hn : (ps.map (·.1)).Nodup) {k : Pk} (h : k ∈ ps) : verOf ps k.1 = some k.2 := by
  unfold verOf
  induction ps with
  | nil => cases h
  | cons a ps ih =>
    rw [List.map_cons, List.nodup_cons] at hn
    rw [List.find?_cons]
    rcases List.mem_cons.mp h with z | z
    · subst z; rw [decide_eq_true rfl]; rfl
    · have : ¬ a.1 = k.1 := fun y => hn.1 (y ▸ List.mem_map_of_mem z)
      rw [decide_eq_false this]
      exact ih hn.2 z
/-- picks whose part has no name yet -/
def leftP (ps : List Pk) (nm : List Str) : Nat := (ps.filter fun k => decide (k.1 ∉ nm)).length
theorem leftP_le (ps : List Pk) (nm : List Str) : leftP ps nm ≤ ps.length := List.length_filter_le _ _
theorem leftP_mono {x : Str} {nm : List Str} : ∀ ps : List Pk, leftP ps (nm ++ [x]) ≤ leftP ps nm
  | [] => Nat.le_refl _
  | k :: ps => by
    have ih := leftP_mono (x := x) (nm := nm) ps
    unfold leftP at *
    rw [List.filter_cons, List.filter_cons]
    by_cases h : k.1 ∈ nm ++ [x]
    · rw [if_neg (fun z => absurd h (of_decide_eq_true z))]
      split
      · rw [List.length_cons]; omega
      · exact ih
    · have h' : k.1 ∉ nm := fun z => h (List.mem_append_left _ z)
      rw [if_pos (decide_eq_true h), if_pos (decide_eq_true h'), List.length_cons, List.length_cons]
      omega
theorem leftP_less {x : Str} {nm : List Str} (hx : x ∉ nm) : ∀ {ps : List Pk}, x ∈ ps.map (·.1) → leftP ps (nm ++ [x]) + 1 ≤ leftP ps nm
  | [], h => by simp at h
  | k :: ps, h => by
    rw [List.map_cons, List.mem_cons] at h
    by_cases hk : k.1 = x
    · have m := leftP_mono (x := x) (nm := nm) ps
      unfold leftP at *
      rw [List.filter_cons, List.filter_cons, if_neg (fun z => absurd (show k.1 ∈ nm ++ [x] by rw [hk]; simp) (of_decide_eq_true z)), if_pos (by rw [hk]; exact decide_eq_true hx), List.length_cons]
      omega
    · have ih := leftP_less hx (ps := ps) (h.resolve_left fun z => hk z.symm)
      unfold leftP at *
      rw [List.filter_cons, List.filter_cons]
      by_cases h2 : k.1 ∈ nm ++ [x]
      · rw [if_neg (fun z => absurd h2 (of_decide_eq_true z))]
        split
        · rw [List.length_cons]; omega
        · exact ih
      · have h' : k.1 ∉ nm := fun z => h2 (List.mem_append_left _ z)
        rw [if_pos (decide_eq_true h2), if_pos (decide_eq_true h'), List.length_cons, List.length_cons]
        omega
/-- a dict of marks -/
def mkv (nm : List Str) : List (Key × V) := nm.map fun x => (Sum.inr x, V.bl true)
theorem valV_mkv (x : Str) : ∀ nm : List Str, (valV (mkv nm) (Sum.inr x : Key)).isSome = decide (x ∈ nm)
  | [] => by simp [mkv, valV]
  | y :: nm => by
    have ih := valV_mkv x nm
    unfold mkv at *
    rw [List.map_cons]
    by_cases h : y = x
    · rw [valV_pos (by rw [h]), h]; simp
    · rw [valV_neg (fun z => h (Sum.inr.inj z)), ih]
      have : (x ∈ y :: nm) ↔ x ∈ nm := by
        rw [List.mem_cons]
        exact ⟨fun z => z.resolve_left fun q => h q.symm, .inr⟩
      simp only [this]
theorem put_mkv {x : Str} {nm : List Str} (h : x ∉ nm) : putK (mkv nm) (Sum.inr x) (V.bl true) = mkv (nm ++ [x]) := by
  have hv : valV (mkv nm) (Sum.inr x : Key) = none := by
    have z := valV_mkv x nm
    rw [decide_eq_false h] at z
    cases y : valV (mkv nm) (Sum.inr x : Key) with
    | none => rfl
    | some u => rw [y] at z; cases z
  rw [putK_new _ hv]
  unfold mkv
  rw [List.map_append]
  rfl
theorem needs_few {es : List En} (hok : ∀ e ∈ es, EnOk e) (k : Pk) : (needsOf es k).length ≤ 100 := by
  unfold needsOf
  split
  next e h => exact (hok e (List.mem_of_find?_eq_some h)).few
  next => exact Nat.zero_le _
theorem needs_parts {es : List En} (hok : ∀ e ∈ es, EnOk e) (k : Pk) : ∀ n ∈ needsOf es k, PartOk n.1 := by
  unfold needsOf
  split
  next e h => exact (hok e (List.mem_of_find?_eq_some h)).nd
  next => intro n hn; cases hn
end FB

namespace FB
open PySem L2 PyProof.Rows

/-! ### the text by places -/
def top (i : Nat) : Stmt := PySem.Challenge.pw_fitboard_k04_fitting_picks.main.body.getD i (.Pass ⟨0, 0, 0, 0⟩)
abbrev sClashes : Stmt := top 7
abbrev sInit : Stmt := inClass (top 8) 0
abbrev sFits : Stmt := top 10
abbrev sChecked : Stmt := top 11
abbrev sCheckP : Stmt := top 12
abbrev sClw : Stmt := top 13
abbrev sLack : Stmt := top 14
abbrev sFirst : Stmt := top 15
abbrev sNamed : Stmt := top 16
abbrev sAt : Stmt := top 18
abbrev sVer : Stmt := top 19
abbrev sNeed : Stmt := top 20
abbrev sShelf : Stmt := top 21
abbrev sStartBy : Stmt := top 22
abbrev sCopy : Stmt := top 23
abbrev sNeedsIn : Stmt := top 24
abbrev sLMeets : Stmt := top 25
abbrev sNewest : Stmt := top 26
abbrev sLFits : Stmt := top 27
abbrev sAsked : Stmt := top 28
abbrev sPicksBy : Stmt := top 29
abbrev sStays : Stmt := top 30
abbrev sMixed : Stmt := top 31
abbrev sLaw : Stmt := top 32
end FB

namespace FB
open PySem L2 PyProof.Rows
seal PSs PS PE PT PA

/-! ### what the text has of the board's class C and of its refusal CT -/
structure TB (K : PySem.W.Frag) (mg : Str → Option Value) (C : Addr) : Prop where
  cl : Cls K C
  nN : NoAttr K C "needs"
  nV : NoAttr K C "versions"
  mC : mg "Board" = some (.ref C)
  list : mg "list" = none
  sorted : mg "sorted" = none

theorem dec_str_iff {x y : Str} : decide (V.str x = V.str y) = decide (x = y) := by
  by_cases h : x = y
  · rw [decide_eq_true h, decide_eq_true (congrArg V.str h)]
  · rw [decide_eq_false h, decide_eq_false (fun z => h (V.str.inj z))]
def clashB (n : Nd) (k : Str × Int) : Bool := decide (k.1 = n.1) && !(inB n k.2)
def spClashes : Sp := fun vs H Q _ => ∃ (v pk : V) (n : Nd) (k : Str × Int), vs = [v, pk] ∧ NdAt H v n ∧ PkAt H pk k ∧ Q (.bl (clashB n k)) H
/-- p: the new board; a: the shelf; st: the start -/
def spInit (C CT : Addr) : Sp := fun vs H Q E => ∃ (p dx a st : Addr) (es : List En), vs = [.ref p, .ref a, .ref st] ∧ H p = some (.ins C dx []) ∧ ShAt H a es ∧ (∀ e ∈ es, EnOk e) ∧ es.length < 64 ∧
  ((es.map keyOf).Nodup → ∀ H', Same (del H [p]) H' → BoardAt C H' p st es → Q .non H') ∧ (¬ (es.map keyOf).Nodup → ∀ H', Same (del H [p]) H' → E (.ref CT) none H')
def spMeeting (C : Addr) : Sp := fun vs H Q _ => ∃ (p st : Addr) (es : List En) (v : V) (n : Nd), vs = [.ref p, v] ∧ BoardAt C H p st es ∧ NdAt H v n ∧ es.length < 64 ∧
  ∀ l (ms : List Int) H', Same H H' → H l = none → H' l = some (.lst (ms.map V.int)) → ms.Perm (metOf es n) → ms.Pairwise (· ≥ ·) → Q (.ref l) H'

section
variable {P : Program} {w : World} {K : PySem.W.Frag} {mg : Str → Option Value} {base : Heap} {f : Addr} {fd : FuncData}
theorem scCl : FnScope ["need", "pick"] ["need", "pick"] (defScope sClashes) := ⟨rfl, rfl, rfl, by decide +kernel, rfl, by decide +kernel, by decide +kernel⟩
theorem ok_clashes (F : Fun K "clashes" "clashes" sClashes f fd) : FnOk P w K mg base CX0 1 f fd ["need", "pick"] spClashes := by
  refine F.ok scCl (fun vs H Q E h => ?_) (fun cdv A outer s H vs Q E hr h => ?_)
  · obtain ⟨v, pk, n, k, rfl, _⟩ := h
    rfl
  obtain ⟨v, pk, n, k, rfl, ⟨q0, rfl, hq⟩, ⟨q1, rfl, hp⟩, q⟩ := h
  refine ⟨_, pss_one (ps_ret (pe_and (pe_cmpR op_eq (pe_ix ix_tup (pv 1) pe_int (fun _ _ => rfl)) (pe_ix ix_tup (pv 0) pe_int (fun _ _ => rfl)) (nomark _))
    (pe_one (pe_not (pe_chain op_le op_le (pe_ix ix_tup (pv 0) pe_int (fun _ _ => rfl)) (pe_ix ix_tup (pv 1) pe_int (fun _ _ => rfl)) (pe_ix ix_tup (pv 0) pe_int (fun _ _ => rfl))))))), ?_⟩
  unfold clashB inB at q
  refine ⟨_, rfl, q1, _, _, _, rfl, rfl, SqT.of hp, rfl, _, rfl, q0, _, _, _, rfl, rfl, SqT.of hq, rfl, rfl, _, rfl, ?_⟩
  rw [dec_str_iff]
  refine ite2 (fun c => ?_) (fun c => ?_)
  · rw [c, Bool.true_and] at q
    refine ⟨_, rfl, q0, _, _, _, rfl, rfl, SqT.of hq, rfl, _, rfl, q1, _, _, _, rfl, rfl, SqT.of hp, rfl, _, _, rfl, rfl, _, rfl, ?_⟩
    refine ite2 (fun c => ?_) (fun c => ?_)
    · refine ⟨_, rfl, q0, _, _, _, rfl, rfl, SqT.of hq, rfl, _, _, rfl, rfl, _, rfl, ?_⟩
      rw [c, Bool.true_and] at q
      exact q
    · rw [Bool.eq_false_iff.mpr c, Bool.false_and] at q
      exact ⟨_, rfl, q⟩
  · rw [Bool.eq_false_iff.mpr c, Bool.false_and] at q
    exact q
end
end FB

namespace FB
open PySem L2 PyProof.Rows
seal PSs PS PE PT PA

theorem nodup_take {α : Type} {l : List α} {i : Nat} {x : α} (h : (l.take i).Nodup) (e : l[i]? = some x) : (l.take (i + 1)).Nodup ↔ ¬ x ∈ l.take i := by
  have ht : l.take (i + 1) = l.take i ++ [x] := by rw [List.take_succ, e]; rfl
  rw [ht, List.nodup_append]
  constructor
  · intro z m
    exact z.2.2 x m x (by simp) rfl
  · intro z
    refine ⟨h, by simp, fun a ha b hb e => z ?_⟩
    rw [List.mem_singleton.mp hb] at e
    rw [← e]; exact ha
theorem nodup_of_take {α : Type} {l : List α} (i : Nat) (h : l.Nodup) : (l.take i).Nodup := h.sublist (List.take_sublist _ _)
theorem keys_put {κ : Type} [DecidableEq κ] {kvs : List (κ × V)} {k : κ} {v : V} (h : (valV kvs k).isSome = true) : (putK kvs k v).map (·.1) = kvs.map (·.1) := by
  unfold putK
  rw [valV_any, if_pos h, List.map_map]
  refine List.map_congr_left fun kv _ => ?_
  show (if kv.1 = k then (kv.1, v) else kv).1 = kv.1
  split <;> rfl

/-- the shelf stands apart from the new board -/
theorem ShAt.apart {H : Hp} {p C dx a : Addr} {fs : List (Str × V)} {es : List En} (hp : H p = some (.ins C dx fs)) (h : ShAt H a es) : ShAt (del H [p]) a es := by
  have out : ∀ b o, H b = some o → o ≠ .ins C dx fs → del H [p] b = some o := fun b o e ne => by
    rw [del_out (by simpa using ne_of e hp ne)]
    exact e
  obtain ⟨xs, h1, h2⟩ := h
  refine ⟨xs, out _ _ h1 (by intro z; cases z), Paired.mapP h2 fun v e z => ?_⟩
  obtain ⟨q, na, zs, e1, e2, e3, e4⟩ := z
  refine ⟨q, na, zs, e1, out _ _ e2 (by intro z; cases z), out _ _ e3 (by intro z; cases z), Paired.mapP e4 fun v n z => ?_⟩
  obtain ⟨q, g1, g2⟩ := z
  exact ⟨q, g1, out _ _ g2 (by intro z; cases z)⟩

/-- the versions of the first entries, in the shelf's order -/
structure VersR (Hd H : Hp) (vk : List (Key × V)) (es : List En) : Prop where
  at_ : ∀ x : Str, (valV vk (Sum.inr x) = none ∧ versOf es x = []) ∨ ∃ l, valV vk (Sum.inr x) = some (.ref l) ∧ Hd l = none ∧ H l = some (.lst ((versOf es x).map V.int))
  inj : ∀ (x y : Str) (l : Addr), valV vk (Sum.inr x) = some (.ref l) → valV vk (Sum.inr y) = some (.ref l) → x = y
  keys : ∀ kv ∈ vk, ∃ x : Str, kv.1 = Sum.inr x
  len : vk.length ≤ es.length
theorem VersR.same {Hd H H' : Hp} {vk : List (Key × V)} {es : List En} (R : VersR Hd H vk es) (s : Same H H') : VersR Hd H' vk es :=
  ⟨fun x => (R.at_ x).imp id fun ⟨l, h1, h2, h3⟩ => ⟨l, h1, h2, s _ _ h3⟩, R.inj, R.keys, R.len⟩
/-- the dict's own object is no list -/
theorem VersR.dict {Hd H H' : Hp} {vk : List (Key × V)} {es : List En} (R : VersR Hd H vk es) (s : ∀ b xs, H b = some (.lst xs) → H' b = some (.lst xs)) : VersR Hd H' vk es :=
  ⟨fun x => (R.at_ x).imp id fun ⟨l, h1, h2, h3⟩ => ⟨l, h1, h2, s _ _ h3⟩, R.inj, R.keys, R.len⟩
/-- one more version, its part's list is there -/
theorem VersR.more {Hd H : Hp} {vk : List (Key × V)} {es : List En} {e : En} {l : Addr} (R : VersR Hd H vk es) (h : valV vk (Sum.inr e.1) = some (.ref l)) :
    Hd l = none ∧ H l = some (.lst ((versOf es e.1).map V.int)) ∧ VersR Hd (upd H l (.lst ((versOf es e.1).map V.int ++ [.int e.2.1]))) vk (es ++ [e]) := by
  have h0 : Hd l = none ∧ H l = some (.lst ((versOf es e.1).map V.int)) := by
    rcases R.at_ e.1 with ⟨z, _⟩ | ⟨l', h1, h2, h3⟩
    · rw [h] at z; cases z
    · rw [h] at h1; cases h1; exact ⟨h2, h3⟩
  refine ⟨h0.1, h0.2, fun x => ?_, R.inj, R.keys, by rw [List.length_append]; exact Nat.le_trans R.len (Nat.le_add_right _ _)⟩
  rw [versOf_snoc]
  by_cases hx : e.1 = x
  · subst hx
    refine .inr ⟨l, h, h0.1, ?_⟩
    rw [upd_same, if_pos rfl, List.map_append]
    rfl
  · rw [if_neg hx]
    rcases R.at_ x with z | ⟨l', h1, h2, h3⟩
    · exact .inl z
    · refine .inr ⟨l', h1, h2, ?_⟩
      rw [upd_ne (fun z => hx (R.inj _ _ l h (by rw [← z]; exact h1)))]
      exact h3
/-- one more version, the first of its part -/
theorem VersR.first {Hd H : Hp} {vk : List (Key × V)} {es : List En} {e : En} {l : Addr} (R : VersR Hd H vk es) (h : valV vk (Sum.inr e.1) = none) (hl : H l = some (.lst [])) (hd : Hd l = none) (nl : ∀ x : Str, valV vk (Sum.inr x) ≠ some (.ref l)) :
    VersR Hd (upd H l (.lst [.int e.2.1])) (putK vk (Sum.inr e.1) (.ref l)) (es ++ [e]) := by
  refine ⟨fun x => ?_, fun x y l' hx hy => ?_, fun kv hkv => ?_, ?_⟩
  · rw [versOf_snoc, valV_put]
    by_cases hx : e.1 = x
    · subst hx
      refine .inr ⟨l, by rw [if_pos rfl], hd, ?_⟩
      have h0 : versOf es e.1 = [] := by
        rcases R.at_ e.1 with ⟨_, z⟩ | ⟨l', h1, _⟩
        · exact z
        · rw [h] at h1; cases h1
      rw [upd_same, if_pos rfl, h0]
      rfl
    · rw [if_neg (fun z => hx (Sum.inr.inj z).symm), if_neg hx]
      rcases R.at_ x with z | ⟨l', h1, h2, h3⟩
      · exact .inl z
      · refine .inr ⟨l', h1, h2, ?_⟩
        rw [upd_ne (fun z => nl x (by rw [← z]; exact h1))]
        exact h3
  · rw [valV_put] at hx hy
    by_cases ex : (Sum.inr x : Key) = Sum.inr e.1
    · by_cases ey : (Sum.inr y : Key) = Sum.inr e.1
      · exact (Sum.inr.inj ex).trans (Sum.inr.inj ey).symm
      · rw [if_pos ex] at hx
        rw [if_neg ey] at hy
        cases hx
        exact absurd hy (nl y)
    · rw [if_neg ex] at hx
      by_cases ey : (Sum.inr y : Key) = Sum.inr e.1
      · rw [if_pos ey] at hy
        cases hy
        exact absurd hx (nl x)
      · rw [if_neg ey] at hy
        exact R.inj x y l' hx hy
  · rw [putK_new _ h] at hkv
    rcases List.mem_append.mp hkv with z | z
    · exact R.keys kv z
    · rw [List.mem_singleton.mp z]; exact ⟨_, rfl⟩
  · rw [putK_new _ h, List.length_append, List.length_append]
    exact Nat.add_le_add_right R.len _

structure InI (C : Addr) (Hd : Hp) (es : List En) (p a st dx dn dv : Addr) (i : Nat) (σ : L2.St) (H2 : Hp) : Prop where
  ex : ∃ nks vk o3 o4 o5, σ = [some (.ref p), some (.ref a), some (.ref st), o3, o4, o5] ∧ H2 p = some (.ins C dx (bflds dn dv)) ∧ H2 dn = some (.dN ((none, .ref st) :: nks)) ∧ Paired (NeKv Hd) nks (es.take i) ∧ H2 dv = some (.dK vk) ∧ VersR Hd H2 vk (es.take i)
  sm : Same Hd H2
  nd : ((es.map keyOf).take i).Nodup
structure InJ (C : Addr) (Hd : Hp) (es : List En) (p a st dx dn dv : Addr) (nks : List (NKey × V)) (ks : List Key) (j : Nat) (σ : L2.St) (H2 : Hp) : Prop where
  ex : ∃ vk o3 o4 o5, σ = [some (.ref p), some (.ref a), some (.ref st), o3, o4, o5] ∧ H2 p = some (.ins C dx (bflds dn dv)) ∧ H2 dn = some (.dN ((none, .ref st) :: nks)) ∧ H2 dv = some (.dK vk) ∧ vk.map (·.1) = ks ∧ VersI H2 vk es fun x => (Sum.inr x : Key) ∈ ks.take j
  sm : Same Hd H2

section
variable {P : Program} {w : World} {K : PySem.W.Frag} {mg : Str → Option Value} {base : Heap} {f : Addr} {fd : FuncData}
theorem scIn : FnScope ["self", "shelf", "start", "part", "version", "needs"] ["self", "shelf", "start"] (defScope sInit) := ⟨rfl, rfl, rfl, by decide +kernel, rfl, by decide +kernel, by decide +kernel⟩
theorem ok_init {C CT : Addr} (F : Fun K "__init__" "Board.__init__" sInit f fd) (T : TB K mg C) (mT : mg "TwiceThere" = some (.ref CT)) (xC : PySem.W.excIn K CT [.type "ValueError", .type "Exception", .type "BaseException", .type "object"] "ValueError.__new__" = true) :
    FnOk P w K mg base (CXE P w) 1 f fd ["self", "shelf", "start"] (spInit C CT) := by
  refine F.okX scIn (fun vs H Q E h => ?_) (fun cdv A outer s H vs Q E hr h => ?_)
  · obtain ⟨p, dx, a, st, es, rfl, _⟩ := h
    rfl
  obtain ⟨p, dx, a, st, es, rfl, hp, hsh, hok, hl, q1, q2⟩ := h
  have hu := hu_of hr
  refine ⟨_, (pss_cons (ps_fld (pv 0) (pe_dispN (pv 2)) rfl)
    (pss_cons (ps_fld (pv 0) pe_dnewK rfl)
    (pss_cons (ps_for (flies_own rfl rfl) rfl (pi_list (pv 1)) (pg_tup rfl (pgs_cons (pg_name (i := 3) scIn.nd rfl (Or.inl rfl)) (pgs_cons (pg_name (i := 4) scIn.nd rfl (Or.inl rfl)) (pgs_cons (pg_name (i := 5) scIn.nd rfl (Or.inl rfl)) pgs_nil))))
      (pss_cons (ps_if (pt_cmp (pc_dinN hu (pe_tup (pa_cons (pv 3) (pa_cons (pv 4) pa_nil))) (pe_fld (pv 0) rfl)))
        (pss_one (ps_raise rfl rfl mT xC PySem.F.excBase_ValueError (pa_cons (pe_f3 (pv 3) (by decide +kernel) (by decide +kernel)) pa_nil))) pss_nil)
      (pss_cons (ps_dputN hu (pe_fld (pv 0) rfl) (pe_tup (pa_cons (pv 3) (pa_cons (pv 4) pa_nil))) (pv 5) rfl)
      (pss_one (ps_expr (pe_bm PySem.F.plainAttrs_list PySem.F.slot_list_append PySem.F.type_list_append mt_append (pe_dsetd (pe_fld (pv 0) rfl) (pv 3) (pe_lst pa_nil) ⟨rfl, rfl, rfl, rfl⟩) (pa_cons (pv 4) pa_nil)))))))
    (pss_one (ps_for (flies_own rfl rfl) rfl (pi_list (pe_callTy (call_listD rfl) rfl T.list boot_list (pa_cons (pe_fld (pv 0) rfl) pa_nil))) (pg_name (i := 3) scIn.nd rfl (Or.inl rfl))
      (pss_one (ps_dput hu (pe_fld (pv 0) rfl) (pv 3) (pe_sortR rfl T.sorted (pe_dget hu (pe_fld (pv 0) rfl) (pv 3) (fun _ _ => rfl))) rfl))))))), ?_⟩
  have hsd := ShAt.apart hp hsh
  generalize hHd : del H [p] = Hd at *
  have sd : Same Hd H := hHd ▸ same_del H [p]
  have hpd : Hd p = none := by rw [← hHd]; exact del_in (by simp)
  obtain ⟨xs, hx, hxp⟩ := hsd
  have lx : xs.length = es.length := Paired.length hxp
  -- self.needs = {None: start}
  refine fun dn hdn => ⟨_, rfl, upd_same, ?_⟩
  have npn : p ≠ dn := ne_of_none hp hdn
  refine ⟨_, rfl, p, C, dx, _, rfl, by rw [upd_ne npn, upd_ne npn]; exact hp, T.cl, T.nN, (by show 0 < 1000; decide), ?_⟩
  rw [upd_upd]
  generalize hH1 : upd (upd H dn (.dN [(none, .ref st)])) p (.ins C dx (putF "needs" (.ref dn) [])) = H1
  have h1p : H1 p = some (.ins C dx (putF "needs" (.ref dn) [])) := by rw [← hH1]; exact upd_same
  have h1n : H1 dn = some (.dN [(none, .ref st)]) := by rw [← hH1, upd_ne (Ne.symm npn)]; exact upd_same
  have s1 : Same Hd H1 := by rw [← hH1]; exact Same.upd (Same.upd sd (sd.free hdn)) hpd
  -- self.versions = {}
  refine fun dv hdv => ⟨_, rfl, p, C, dx, _, rfl, by rw [upd_ne (ne_of_none h1p hdv)]; exact h1p, T.cl, T.nV, (by show 1 < 1000; decide), ?_⟩
  generalize hH2 : upd (upd H1 dv (.dK [])) p (.ins C dx (putF "versions" (.ref dv) (putF "needs" (.ref dn) []))) = H2
  have h2p : H2 p = some (.ins C dx (bflds dn dv)) := by rw [← hH2]; exact upd_same
  have h2n : H2 dn = some (.dN [(none, .ref st)]) := by rw [← hH2, upd_ne (Ne.symm npn), upd_ne (ne_of_none h1n hdv)]; exact h1n
  have h2v : H2 dv = some (.dK []) := by rw [← hH2, upd_ne (Ne.symm (ne_of_none h1p hdv))]; exact upd_same
  have s2 : Same Hd H2 := by rw [← hH2]; exact Same.upd (Same.upd s1 (s1.free hdv)) hpd
  -- for part, version, needs in shelf
  refine ⟨_, rfl, a, rfl, ⟨xs, SqL.of (s2 _ _ hx)⟩, for_list (K := K) (a := a) (xs := xs) (fun i σ H2 => InI C Hd es p a st dx dn dv i σ H2)
    ⟨⟨[], [], none, none, none, rfl, h2p, h2n, .nil, h2v, ⟨fun x => .inl ⟨rfl, rfl⟩, fun x y l z => (nomatch z), fun kv z => (nomatch z), Nat.le_refl _⟩⟩, s2, List.nodup_nil⟩ (fun i σ H2 _ I => SqL.of (I.sm _ _ hx)) ?_ ?_⟩
  · rintro i x σ H3 hi ⟨⟨nks, vk, o3, o4, o5, rfl, h3p, h3n, hnk, h3v, R⟩, s3, hnd⟩
    obtain ⟨e, he, q0, na, zs, rfl, e1, e2, e3⟩ := Paired.getR hxp hi
    have g1 := s3 _ _ e1
    have hil : i < es.length := (List.getElem?_eq_some_iff.mp he).1
    have ht : es.take (i + 1) = es.take i ++ [e] := by rw [List.take_succ, he]; rfl
    have hek : (es.map keyOf)[i]? = some (keyOf e) := by rw [List.getElem?_map, he]; rfl
    have hnt := nodup_take hnd hek
    have lk : nks.length = i := by rw [Paired.length hnk, List.length_take]; omega
    have lv := R.len
    rw [List.length_take] at lv
    refine ⟨q0, _, rfl, SqT.of g1, rfl, _, _, rfl, _, _, rfl, _, _, rfl, rfl, ?_⟩
    -- (part, version) in self.needs
    refine ⟨_, rfl, _, rfl, (by show 2 ≤ sizeLine; decide), fun kt hkt => ?_⟩
    have s4 := same_new hkt (.tup [.str e.1, .int e.2.1])
    refine ⟨_, rfl, p, C, dx, _, _, rfl, s4 _ _ h3p, T.cl, T.nN, bflds_needs _ _, dn, _, rfl, DGetN.of (k := some (dkey (keyOf e))) (s4 _ _ h3n) ⟨kt, rfl, upd_same⟩, _, rfl, ?_⟩
    rw [valV_neg (by intro z; cases z)]
    rcases val_nks hnk (keyOf e) with ⟨hno, hv⟩ | ⟨e', he', hk', na', zs', hv, _⟩
    · rw [hv]
      refine iteF ?_
      -- self.needs[part, version] = needs
      refine ⟨_, rfl, _, rfl, p, C, dx, _, _, rfl, s4 _ _ h3p, T.cl, T.nN, bflds_needs _ _, _, rfl, _, rfl, (by show 2 ≤ sizeLine; decide), fun kt2 hkt2 => ?_⟩
      have s5 := s4.trans (same_new hkt2 (.tup [.str e.1, .int e.2.1]))
      have hv2 : valV ((none, V.ref st) :: nks) (some (dkey (keyOf e))) = none := by rw [valV_neg (by intro z; cases z)]; exact hv
      refine ⟨dn, _, rfl, DPutN.of (k := some (dkey (keyOf e))) (s5 _ _ h3n) ⟨kt2, rfl, upd_same⟩ (small1000 (by rw [List.length_cons]; omega)), ?_⟩
      rw [putK_new _ hv2]
      generalize hH5 : upd (upd (upd H3 kt (.tup [.str e.1, .int e.2.1])) kt2 (.tup [.str e.1, .int e.2.1])) dn (.dN (((none, V.ref st) :: nks) ++ [(some (dkey (keyOf e)), .ref na)])) = H5
      have npn3 : p ≠ dn := npn
      have h5p : H5 p = some (.ins C dx (bflds dn dv)) := by rw [← hH5, upd_ne npn]; exact s5 _ _ h3p
      have h5n : H5 dn = some (.dN ((none, V.ref st) :: (nks ++ [(some (dkey (keyOf e)), .ref na)]))) := by rw [← hH5]; exact upd_same
      have h5v : H5 dv = some (.dK vk) := by rw [← hH5, upd_ne (ne_of h3v h3n (by intro z; cases z))]; exact s5 _ _ h3v
      have hdn3 : Hd dn = none := by
        cases z : Hd dn with
        | none => rfl
        | some o =>
          have := s2 _ _ z
          rw [h2n] at this
          cases this
          have := sd _ _ z
          rw [hdn] at this; cases this
      have s6 : Same Hd H5 := by rw [← hH5]; exact Same.upd (s3.trans s5) hdn3
      have hlst : ∀ b ys, H3 b = some (.lst ys) → H5 b = some (.lst ys) := fun b ys z => by
        rw [← hH5, upd_ne (ne_of z h3n (by intro y; cases y))]
        exact s5 _ _ z
      have R5 : VersR Hd H5 vk (es.take i) := R.dict hlst
      have hnk5 : Paired (NeKv Hd) (nks ++ [(some (dkey (keyOf e)), V.ref na)]) (es.take (i + 1)) := by
        rw [ht]
        exact Paired.snoc hnk ⟨rfl, na, zs, rfl, e2, e3⟩
      have hno' : ¬ keyOf e ∈ (es.map keyOf).take i := by rw [← List.map_take]; exact hno
      have hnd' := hnt.mpr hno'
      -- self.versions.setdefault(part, []).append(version)
      refine ⟨_, rfl, p, C, dx, _, _, rfl, h5p, T.cl, T.nV, bflds_vers _ _, dv, rfl, .inl ⟨_, .inl h5v⟩, _, rfl, (by show 0 ≤ sizeLine; decide), fun l0 hl0 => ?_⟩
      have s7 := same_new hl0 (.lst [])
      refine ⟨vk, Sum.inr e.1, s7 _ _ h5v, rfl, small1000 (by omega), fun v hvv => ?_, fun hvv => ?_⟩
      · obtain ⟨l, rfl⟩ : ∃ l, v = .ref l := by
          rcases R.at_ e.1 with ⟨z, _⟩ | ⟨l, z, _⟩
          · rw [hvv] at z; cases z
          · rw [hvv] at z; cases z; exact ⟨l, rfl⟩
        obtain ⟨hdl, h7l, R8⟩ := (R5.same s7).more hvv
        refine ⟨.inl ⟨rfl, _, SqL.of h7l⟩, _, rfl, l, _, _, rfl, rfl, h7l, ?_, ?_⟩
        · rw [List.length_map]
          have := versOf_length (es.take i) e.1
          rw [List.length_take] at this
          exact small1000 (by omega)
        · have npl : p ≠ l := ne_of (s7 _ _ h5p) h7l (by intro z; cases z)
          have nnl : dn ≠ l := ne_of (s7 _ _ h5n) h7l (by intro z; cases z)
          have nvl : dv ≠ l := ne_of (s7 _ _ h5v) h7l (by intro z; cases z)
          refine ⟨⟨_, vk, _, _, _, rfl, by rw [upd_ne npl]; exact s7 _ _ h5p, by rw [upd_ne nnl]; exact s7 _ _ h5n, hnk5, by rw [upd_ne nvl]; exact s7 _ _ h5v, by rw [ht]; exact R8⟩, Same.upd (s6.trans s7) hdl, hnd'⟩
      · have nvl : dv ≠ l0 := ne_of_none h5v hl0
        have npl : p ≠ l0 := ne_of_none h5p hl0
        have nnl : dn ≠ l0 := ne_of_none h5n hl0
        have npv : p ≠ dv := ne_of h5p h5v (by intro z; cases z)
        have nnv : dn ≠ dv := ne_of h5n h5v (by intro z; cases z)
        have hl8 : upd (upd H5 l0 (.lst [])) dv (.dK (putK vk (Sum.inr e.1) (.ref l0))) l0 = some (.lst []) := by rw [upd_ne (Ne.symm nvl)]; exact upd_same
        refine ⟨.inl ⟨rfl, _, SqL.of hl8⟩, _, rfl, l0, _, _, rfl, rfl, hl8, (by show 0 < sizeLine; decide), ?_⟩
        have hdv3 : Hd dv = none := by
          cases z : Hd dv with
          | none => rfl
          | some o =>
            have := s1 _ _ z
            rw [hdv] at this; cases this
        have R8 : VersR Hd (upd (upd H5 l0 (.lst [])) dv (.dK (putK vk (Sum.inr e.1) (.ref l0)))) vk (es.take i) := (R5.same s7).dict fun b ys z => by
          rw [upd_ne (ne_of z (s7 _ _ h5v) (by intro y; cases y))]
          exact z
        have R9 := R8.first (l := l0) hvv hl8 (s6.free hl0) (fun x z => by
          rcases R5.at_ x with ⟨y, _⟩ | ⟨l', y, _, y2⟩
          · rw [z] at y; cases y
          · rw [z] at y; cases y; rw [hl0] at y2; cases y2)
        refine ⟨⟨_, _, _, _, _, rfl, by rw [upd_ne npl, upd_ne npv]; exact s7 _ _ h5p, by rw [upd_ne nnl, upd_ne nnv]; exact s7 _ _ h5n, hnk5, by rw [upd_ne nvl]; exact upd_same, by rw [ht]; exact R9⟩, Same.upd (Same.upd (s6.trans s7) hdv3) (s6.free hl0), hnd'⟩
    · rw [hv]
      refine iteT ?_
      refine ⟨_, rfl, _, rfl, (hok e (List.mem_of_getElem? he)).pt.sh, (by show 1 ≤ sizeLine; decide), fun pins => ?_⟩
      refine q2 (fun z => ?_) _ (s3.trans s4)
      refine hnt.mp (nodup_of_take (i + 1) z) ?_
      rw [← List.map_take, ← hk']
      exact List.mem_map_of_mem he'
  · rintro σ H3 ⟨⟨nks, vk, o3, o4, o5, rfl, h3p, h3n, hnk, h3v, R⟩, s3, hnd⟩
    rw [lx] at hnk hnd R
    rw [List.take_length] at hnk R
    rw [List.take_of_length_le (by rw [List.length_map]; exact Nat.le_refl _)] at hnd
    have lv := R.len
    -- for part in list(self.versions)
    refine ⟨_, rfl, p, C, dx, _, _, rfl, h3p, T.cl, T.nV, bflds_vers _ _, dv, vk, rfl, h3v, fun la hla => ?_⟩
    have s4 := same_new hla (.lst (vk.map fun kv => kV kv.1))
    have hdv3 : Hd dv = none := by
      cases z : Hd dv with
      | none => rfl
      | some o =>
        have := s1 _ _ z
        rw [hdv] at this; cases this
    refine ⟨la, rfl, ⟨_, SqL.of upd_same⟩, for_list (K := K) (a := la) (xs := vk.map fun kv => kV kv.1) (fun j σ H5 => InJ C Hd es p a st dx dn dv nks (vk.map (·.1)) j σ H5 ∧ H5 la = some (.lst (vk.map fun kv => kV kv.1)))
      ⟨⟨⟨vk, _, _, _, rfl, s4 _ _ h3p, s4 _ _ h3n, s4 _ _ h3v, rfl, fun x => ?_⟩, s3.trans s4⟩, upd_same⟩ (fun j σ H5 _ I => SqL.of I.2) ?_ ?_⟩
    · rcases R.at_ x with z | ⟨l, h1, _, h2⟩
      · exact .inl z
      · exact .inr ⟨l, _, h1, s4 _ _ h2, List.Perm.refl _, fun z => by simp at z⟩
    · rintro j x σ H5 hj ⟨⟨⟨vk', o3', o4', o5', rfl, h5p, h5n, h5v, hks, V5⟩, s5⟩, h5a⟩
      rw [List.getElem?_map] at hj
      obtain ⟨kv, hkv, rfl⟩ := Option.map_eq_some_iff.mp hj
      obtain ⟨y, hy⟩ := R.keys kv (List.mem_of_getElem? hkv)
      have hkj : (vk.map (·.1))[j]? = some (Sum.inr y) := by rw [List.getElem?_map, hkv]; exact congrArg some hy
      have htk : (vk.map (·.1)).take (j + 1) = (vk.map (·.1)).take j ++ [Sum.inr y] := by rw [List.take_succ, hkj]; rfl
      have hin : (valV vk' (Sum.inr y : Key)).isSome = true := by
        rw [← valV_any, List.any_eq_true]
        have : (Sum.inr y : Key) ∈ vk'.map (·.1) := by rw [hks]; exact List.mem_of_getElem? hkj
        obtain ⟨kv', h1, h2⟩ := List.mem_map.mp this
        exact ⟨kv', h1, decide_eq_true h2⟩
      rcases V5 y with ⟨z, _⟩ | ⟨l, ms, h1, h2, h3, _⟩
      · rw [z] at hin; cases hin
      have lm : ms.length < 64 := by
        rw [h3.length_eq]
        exact Nat.lt_of_le_of_lt (versOf_length _ _) hl
      rw [hy]
      refine ⟨_, rfl, p, C, dx, _, _, rfl, h5p, T.cl, T.nV, bflds_vers _ _, _, rfl, dv, _, rfl, DGet.k (k := Sum.inr y) h5v |> (h1 ▸ ·), l, ms, rfl, SqL.of h2, lm, fun l2 ms' hl2 hpm hpw => ?_⟩
      have s6 := same_new hl2 (.lst (List.map V.int ms'))
      refine ⟨_, rfl, p, C, dx, _, _, rfl, s6 _ _ h5p, T.cl, T.nV, bflds_vers _ _, _, rfl, dv, _, rfl, DPut.k (k := Sum.inr y) (s6 _ _ h5v) (small1000 ?_), ?_⟩
      · have := congrArg List.length hks
        rw [List.length_map, List.length_map] at this
        omega
      · have npv : p ≠ dv := ne_of h5p h5v (by intro z; cases z)
        have nnv : dn ≠ dv := ne_of h5n h5v (by intro z; cases z)
        have nav : la ≠ dv := ne_of h5a h5v (by intro z; cases z)
        refine ⟨⟨⟨_, _, _, _, rfl, by rw [upd_ne npv]; exact s6 _ _ h5p, by rw [upd_ne nnv]; exact s6 _ _ h5n, upd_same, by rw [keys_put hin]; exact hks, fun x => ?_⟩, Same.upd (s5.trans s6) hdv3⟩, by rw [upd_ne nav]; exact s6 _ _ h5a⟩
        rw [valV_put]
        by_cases hxy : x = y
        · subst hxy
          refine .inr ⟨l2, ms', by rw [if_pos rfl], ?_, hpm.trans h3, fun _ => hpw⟩
          rw [upd_ne (Ne.symm (ne_of_none h5v hl2))]
          exact upd_same
        · rw [if_neg (fun z => hxy (Sum.inr.inj z))]
          rcases V5 x with z | ⟨l', ms2, g1, g2, g3, g4⟩
          · exact .inl z
          · refine .inr ⟨l', ms2, g1, ?_, g3, fun z => g4 ?_⟩
            · rw [upd_ne (ne_of g2 h5v (by intro z; cases z))]
              exact s6 _ _ g2
            · rw [htk] at z
              rcases List.mem_append.mp z with z | z
              · exact z
              · exact absurd (Sum.inr.inj (List.mem_singleton.mp z)) hxy
    · rintro σ H5 ⟨⟨⟨vk', o3', o4', o5', rfl, h5p, h5n, h5v, hks, V5⟩, s5⟩, h5a⟩
      refine q1 hnd H5 s5 ⟨dx, dn, dv, nks, vk', h5p, h5n, Paired.mapP hnk fun _ _ z => NeKv.same s5 z, h5v, fun x => ?_⟩
      rcases V5 x with z | ⟨l, ms, g1, g2, g3, g4⟩
      · exact .inl z
      · refine .inr ⟨l, ms, g1, g2, g3, fun _ => g4 ?_⟩
        rw [List.take_of_length_le (by rw [List.length_map, List.length_map]; exact Nat.le_refl _), ← hks]
        exact valV_in g1
end
end FB

namespace FB
open PySem L2 PyProof.Rows
seal PSs PS PE PT PA

/-! ### the promises of fitboard.needs -/
def spClw (W : List Pk → Nd → Bool) : Sp := fun vs H Q _ => ∃ (v : V) (d : Addr) (n : Nd) (ps : List Pk), vs = [v, .ref d] ∧ NdAt H v n ∧ H d = some (.dK (pkv ps)) ∧ ∀ H', Same H H' → Q (.bl (W ps n)) H'
def onShelf (es : List En) (ps : List Pk) : Prop := ∀ k ∈ ps, k ∈ es.map keyOf
def spCheckP (C CN CV : Addr) : Sp := fun vs H Q E => ∃ (b pa st : Addr) (es : List En) (ps : List Pk), vs = [.ref b, .ref pa] ∧ BoardAt C H b st es ∧ PksAt H pa ps ∧ (∀ k ∈ ps, PartOk k.1) ∧ ps.length ≤ 900 ∧
  (¬ onShelf es ps → ∀ H', Same H H' → E (.ref CN) none H') ∧ (onShelf es ps → ¬ (ps.map (·.1)).Nodup → ∀ H', Same H H' → E (.ref CV) none H') ∧ (onShelf es ps → (ps.map (·.1)).Nodup → ∀ H', Same H H' → Q .non H')
def spChecked (C CT CN CV : Addr) : Sp := fun vs H Q E => ∃ (a st pa : Addr) (es : List En) (ps : List Pk), vs = [.ref a, .ref st, .ref pa] ∧ ShAt H a es ∧ (∀ e ∈ es, EnOk e) ∧ es.length < 64 ∧ PksAt H pa ps ∧ (∀ k ∈ ps, PartOk k.1) ∧ ps.length ≤ 900 ∧
  (¬ (es.map keyOf).Nodup → ∀ H', Same H H' → E (.ref CT) none H') ∧ ((es.map keyOf).Nodup → ¬ onShelf es ps → ∀ H', Same H H' → E (.ref CN) none H') ∧ ((es.map keyOf).Nodup → onShelf es ps → ¬ (ps.map (·.1)).Nodup → ∀ H', Same H H' → E (.ref CV) none H') ∧
  ((es.map keyOf).Nodup → onShelf es ps → (ps.map (·.1)).Nodup → ∀ b H', Same H H' → BoardAt C H' b st es → Q (.ref b) H')
/-- xs: the picks' values; what comes out tells who by them -/
def spFirst (P : Program) (w : World) (K : PySem.W.Frag) (mg : Str → Option Value) (base : Heap) (C : Addr) : Sp := fun vs H Q _ => ∃ (b pa g st : Addr) (gd : FuncData) (W : List Pk → Nd → Bool) (es : List En) (sn : List Nd) (ps : List Pk) (xs : List V),
  vs = [.ref b, .ref pa, .ref g] ∧ FnOk P w K mg base CX0 2 g gd ["need", "picked"] (spClw W) ∧ PySem.W.keepIn K (.ref g) = true ∧ Binds K gd ["need", "picked"] [] ∧ BoardAt C H b st es ∧ (es.map keyOf).Nodup ∧ NdsAt H st sn ∧ H pa = some (.lst xs) ∧ Paired (PkAt H) xs ps ∧
  onShelf es ps ∧ (ps.map (·.1)).Nodup ∧ ps.length ≤ 900 ∧
  (∀ i j t w' H', IsFirst (W ps) (rows es sn ps) i j → Same H H' → (V.non :: xs)[i]? = some w' → H' t = some (.tup [w', .int (j : Nat)]) → Q (.ref t) H') ∧ (NoneOf (W ps) (rows es sn ps) → ∀ H', Same H H' → Q .non H')
/-- first_clash, first_open -/
def spFC (W : List Pk → Nd → Bool) : Sp := fun vs H Q _ => ∃ (a pa st : Addr) (es : List En) (sn : List Nd) (ps : List Pk) (xs : List V), vs = [.ref a, .ref st, .ref pa] ∧ ShAt H a es ∧ (∀ e ∈ es, EnOk e) ∧ es.length < 64 ∧ (es.map keyOf).Nodup ∧ NdsAt H st sn ∧ H pa = some (.lst xs) ∧ Paired (PkAt H) xs ps ∧
  (∀ k ∈ ps, PartOk k.1) ∧ onShelf es ps ∧ (ps.map (·.1)).Nodup ∧ ps.length ≤ 900 ∧
  (∀ i j t w' H', IsFirst (W ps) (rows es sn ps) i j → Same H H' → (V.non :: xs)[i]? = some w' → H' t = some (.tup [w', .int (j : Nat)]) → Q (.ref t) H') ∧ (NoneOf (W ps) (rows es sn ps) → ∀ H', Same H H' → Q .non H')

section
variable {P : Program} {w : World} {K : PySem.W.Frag} {mg : Str → Option Value} {base : Heap} {f : Addr} {fd : FuncData}
theorem scClw : FnScope ["need", "picked", "part"] ["need", "picked"] (defScope sClw) := ⟨rfl, rfl, rfl, by decide +kernel, rfl, by decide +kernel, by decide +kernel⟩
theorem ok_clw {g : Addr} {gd : FuncData} (F : Fun K "clashes_with" "clashes_with" sClw f fd) (G : FnOk P w K mg base CX0 1 g gd ["need", "pick"] spClashes) (bG : Binds K gd ["need", "pick"] []) (kG : PySem.W.keepIn K (.ref g) = true) (mG : mg "clashes" = some (.ref g)) :
    FnOk P w K mg base CX0 2 f fd ["need", "picked"] (spClw clwB) := by
  refine F.ok scClw (fun vs H Q E h => ?_) (fun cdv A outer s H vs Q E hr h => ?_)
  · obtain ⟨v, d, n, ps, rfl, _⟩ := h
    rfl
  obtain ⟨v, d, n, ps, rfl, ⟨nq, rfl, hnq⟩, hd, q⟩ := h
  have hu := hu_of hr
  refine ⟨_, (pss_cons (ps_set (i := 2) scClw.nd rfl (Or.inl rfl) (pe_ix ix_tup (pv 0) pe_int (fun _ _ => rfl)))
    (pss_one (ps_ret (pe_and (pe_cmp (pc_din hu (pv 2) (pv 1))) (pe_one (pe_call G hr rfl mG kG bG .nil pass0 (pa_cons (pv 0) (pa_cons (pe_tup (pa_cons (pv 2) (pa_cons (pe_dget hu (pv 1) (pv 2) (fun _ _ => rfl)) pa_nil))) pa_nil)))))))), ?_⟩
  refine ⟨_, rfl, nq, _, _, _, rfl, rfl, SqT.of hnq, rfl, ?_⟩
  refine ⟨_, rfl, _, rfl, d, _, rfl, DGet.k (k := Sum.inr n.1) hd, _, rfl, ?_⟩
  have hval := valV_pkv n.1 ps
  cases e : verOf ps n.1 with
  | none =>
    rw [e] at hval
    rw [hval]
    refine iteF ?_
    have := q H (Same.refl H)
    rw [show clwB ps n = false by unfold clwB; rw [e]] at this
    exact this
  | some z =>
    rw [e] at hval
    rw [hval]
    refine iteT ?_
    refine ⟨_, rfl, _, rfl, _, rfl, _, rfl, d, .int z, rfl, (by have := DGet.k (k := Sum.inr n.1) hd; rw [hval] at this; exact this), (by show 2 ≤ sizeLine; decide), fun t ht => ?_⟩
    have s1 := same_new ht (.tup [.str n.1, .int z])
    refine ⟨.ref nq, .ref t, n, (n.1, z), rfl, ⟨nq, rfl, s1 _ _ hnq⟩, ⟨t, rfl, upd_same⟩, ?_⟩
    have := q _ s1
    rw [show clwB ps n = clashB n (n.1, z) by unfold clwB clashB; rw [e]; simp] at this
    exact this
theorem scLack : FnScope ["need", "picked"] ["need", "picked"] (defScope sLack) := ⟨rfl, rfl, rfl, by decide +kernel, rfl, by decide +kernel, by decide +kernel⟩
theorem ok_lack (F : Fun K "lacks_pick" "lacks_pick" sLack f fd) : FnOk P w K mg base CX0 1 f fd ["need", "picked"] (spClw lackB) := by
  refine F.ok scLack (fun vs H Q E h => ?_) (fun cdv A outer s H vs Q E hr h => ?_)
  · obtain ⟨v, d, n, ps, rfl, _⟩ := h
    rfl
  obtain ⟨v, d, n, ps, rfl, ⟨nq, rfl, hnq⟩, hd, q⟩ := h
  have hu := hu_of hr
  refine ⟨_, (pss_one (ps_ret (pe_cmp (pc_dnotin hu (pe_ix ix_tup (pv 0) pe_int (fun _ _ => rfl)) (pv 1))))), ?_⟩
  refine ⟨_, rfl, nq, _, _, _, rfl, rfl, SqT.of hnq, rfl, _, rfl, d, _, rfl, DGet.k (k := Sum.inr n.1) hd, ?_⟩
  have := q H (Same.refl H)
  rw [show lackB ps n = !(valV (pkv ps) (Sum.inr n.1 : Key)).isSome by
    rw [valV_pkv]; unfold lackB; cases verOf ps n.1 <;> rfl] at this
  exact this

theorem scCkP : FnScope ["board", "picks", "pick", "part", "seen", "version"] ["board", "picks"] (defScope sCheckP) := ⟨rfl, rfl, rfl, by decide +kernel, rfl, by decide +kernel, by decide +kernel⟩
theorem ok_checkP {C CN CV : Addr} (F : Fun K "check_picks" "check_picks" sCheckP f fd) (T : TB K mg C) (mN : mg "NoEntry" = some (.ref CN)) (xN : PySem.W.excIn K CN [.type "ValueError", .type "Exception", .type "BaseException", .type "object"] "ValueError.__new__" = true)
    (mV : mg "TwoVersions" = some (.ref CV)) (xV : PySem.W.excIn K CV [.type "ValueError", .type "Exception", .type "BaseException", .type "object"] "ValueError.__new__" = true) :
    FnOk P w K mg base (CXE P w) 1 f fd ["board", "picks"] (spCheckP C CN CV) := by
  refine F.okX scCkP (fun vs H Q E h => ?_) (fun cdv A outer s H vs Q E hr h => ?_)
  · obtain ⟨b, pa, st, es, ps, rfl, _⟩ := h
    rfl
  obtain ⟨b, pa, st, es, ps, rfl, hB, ⟨xs, hx, hp⟩, hok, hl, q1, q2, q3⟩ := h
  have hu := hu_of hr
  refine ⟨_, (pss_cons (ps_for (flies_own rfl rfl) rfl (pi_list (pv 1)) (pg_name (i := 2) scCkP.nd rfl (Or.inl rfl))
      (pss_one (ps_if (pt_cmp (pc_dnotinN hu (pv 2) (pe_fld (pv 0) rfl)))
        (pss_cons (ps_set (i := 3) scCkP.nd rfl (Or.inl rfl) (pe_ix ix_tup (pv 2) pe_int (fun _ _ => rfl)))
        (pss_one (ps_raise rfl rfl mN xN PySem.F.excBase_ValueError (pa_cons (pe_f3 (pv 3) (by decide +kernel) (by decide +kernel)) pa_nil)))) pss_nil)))
    (pss_cons (ps_set (i := 4) scCkP.nd rfl (Or.inl rfl) pe_dnewK)
    (pss_one (ps_for (flies_own rfl rfl) rfl (pi_list (pv 1)) (pg_tup rfl (pgs_cons (pg_name (i := 3) scCkP.nd rfl (Or.inl rfl)) (pgs_cons (pg_name (i := 5) scCkP.nd rfl (Or.inl rfl)) pgs_nil)))
      (pss_cons (ps_if (pt_cmp (pc_din hu (pv 3) (pv 4)))
        (pss_one (ps_raise rfl rfl mV xV PySem.F.excBase_ValueError (pa_cons (pe_f2 (pv 3) (by decide +kernel)) pa_nil))) pss_nil)
      (pss_one (ps_dput hu (pv 4) (pv 3) pe_bl rfl))))))), ?_⟩
  obtain ⟨dx, dn, dv, hb, _, hlook⟩ := hB.start
  have lx : xs.length = ps.length := Paired.length hp
  refine ⟨_, rfl, pa, rfl, ⟨xs, SqL.of hx⟩, for_list (K := K) (a := pa) (xs := xs) (fun i σ H2 => ∃ o2, σ = [some (.ref b), some (.ref pa), o2, none, none, none] ∧ H2 = H ∧ ∀ k ∈ ps.take i, k ∈ es.map keyOf)
    ⟨none, rfl, rfl, by simp⟩ (fun i σ H2 _ ⟨_, _, e, _⟩ => e ▸ SqL.of hx) ?_ ?_⟩
  · rintro i x σ H2 hi ⟨o2, rfl, rfl, hin⟩
    obtain ⟨k, hk, hxk⟩ := Paired.getR hp hi
    obtain ⟨kq, rfl, hkq⟩ := id hxk
    have ht : ps.take (i + 1) = ps.take i ++ [k] := by rw [List.take_succ, hk]; rfl
    rcases hlook _ k hxk with ⟨z1, z2⟩ | ⟨z1, e, he, _, a, zs, z2, _⟩
    · refine ⟨_, rfl, _, rfl, b, C, dx, _, _, rfl, hb, T.cl, T.nN, bflds_needs _ _, dn, none, rfl, z2, _, rfl, iteT ?_⟩
      refine ⟨_, rfl, kq, _, _, _, rfl, rfl, SqT.of hkq, rfl, ?_⟩
      refine ⟨_, rfl, _, rfl, (hok k (List.mem_of_getElem? hk)).sh, (by show 1 ≤ sizeLine; decide), fun pins => ?_⟩
      exact q1 (fun z => z1 (z k (List.mem_of_getElem? hk))) _ (Same.refl _)
    · refine ⟨_, rfl, _, rfl, b, C, dx, _, _, rfl, hb, T.cl, T.nN, bflds_needs _ _, dn, _, rfl, z2, _, rfl, iteF ?_⟩
      refine ⟨_, rfl, rfl, fun k' hk' => ?_⟩
      rw [ht] at hk'
      rcases List.mem_append.mp hk' with y | y
      · exact hin k' y
      · rw [List.mem_singleton.mp y]; exact z1
  · rintro σ H2 ⟨o2, rfl, rfl, hin⟩
    rw [lx, List.take_length] at hin
    refine fun sd hsd => ?_
    have s1 := same_new hsd (.dK [])
    refine ⟨_, rfl, pa, rfl, ⟨xs, SqL.of (s1 _ _ hx)⟩, for_list (K := K) (a := pa) (xs := xs) (fun i σ H3 => ∃ o3 o5, σ = [some (.ref b), some (.ref pa), o2, o3, some (.ref sd), o5] ∧ Same H2 H3 ∧ H3 sd = some (.dK ((ps.take i).map fun k => (Sum.inr k.1, V.bl true))) ∧ ((ps.map (·.1)).take i).Nodup)
      ⟨none, none, rfl, s1, upd_same, List.nodup_nil⟩ (fun i σ H3 _ ⟨_, _, _, s3, _⟩ => SqL.of (s3 _ _ hx)) ?_ ?_⟩
    · rintro i x σ H3 hi ⟨o3, o5, rfl, s3, h3, hnd⟩
      obtain ⟨k, hk, kq, rfl, hkq⟩ := Paired.getR hp hi
      have g1 := s3 _ _ hkq
      have hil : i < ps.length := (List.getElem?_eq_some_iff.mp hk).1
      have ht : ps.take (i + 1) = ps.take i ++ [k] := by rw [List.take_succ, hk]; rfl
      have hek : (ps.map (·.1))[i]? = some k.1 := by rw [List.getElem?_map, hk]; rfl
      have hnt := nodup_take hnd hek
      have hval : ∀ qs : List Pk, (valV (qs.map fun k => ((Sum.inr k.1 : Key), V.bl true)) (Sum.inr k.1)).isSome = decide (k.1 ∈ qs.map (·.1)) := fun qs => by
        rw [← valV_any]
        induction qs with
        | nil => simp
        | cons a qs ih =>
          rw [List.map_cons, List.any_cons, ih, List.map_cons]
          by_cases h : a.1 = k.1
          · rw [decide_eq_true (congrArg Sum.inr h)]; simp [h]
          · rw [decide_eq_false (fun z => h (Sum.inr.inj z)), Bool.false_or]
            have : (k.1 ∈ a.1 :: qs.map (·.1)) ↔ k.1 ∈ qs.map (·.1) := by
              rw [List.mem_cons]
              exact ⟨fun z => z.resolve_left fun y => h y.symm, .inr⟩
            simp only [this]
      refine ⟨kq, _, rfl, SqT.of g1, rfl, _, _, rfl, _, _, rfl, rfl, ?_⟩
      refine ⟨_, rfl, _, rfl, sd, _, rfl, DGet.k (k := Sum.inr k.1) h3, _, rfl, ?_⟩
      rw [hval]
      refine ite2 (fun c => ?_) (fun c => ?_)
      · have hin2 : k.1 ∈ (ps.map (·.1)).take i := by rw [← List.map_take]; exact of_decide_eq_true c
        refine ⟨_, rfl, _, rfl, (hok k (List.mem_of_getElem? hk)).sh, (by show 1 ≤ sizeLine; decide), fun pins => ?_⟩
        exact q2 hin (fun z => hnt.mp (nodup_of_take (i + 1) z) hin2) _ s3
      · have hno : ¬ k.1 ∈ (ps.map (·.1)).take i := fun z => c (by rw [← List.map_take] at z; exact decide_eq_true z)
        have hvn : valV ((ps.take i).map fun k => ((Sum.inr k.1 : Key), V.bl true)) (Sum.inr k.1) = none := by
          have z := hval (ps.take i)
          rw [Bool.eq_false_iff.mpr c] at z
          cases y : valV ((ps.take i).map fun k => ((Sum.inr k.1 : Key), V.bl true)) (Sum.inr k.1) with
          | none => rfl
          | some u => rw [y] at z; cases z
        refine ⟨_, rfl, _, rfl, sd, _, rfl, DPut.k (k := Sum.inr k.1) h3 (small1000 (by rw [List.length_map, List.length_take]; omega)), ?_⟩
        refine ⟨_, _, rfl, Same.upd s3 hsd, ?_, hnt.mpr hno⟩
        rw [upd_same, putK_new _ hvn, ht, List.map_append]
        rfl
    · rintro σ H3 ⟨o3, o5, rfl, s3, h3, hnd⟩
      rw [lx, List.take_of_length_le (by rw [List.length_map]; exact Nat.le_refl _)] at hnd
      exact q3 hin hnd H3 s3

theorem scCkd : FnScope ["shelf", "start", "picks", "board"] ["shelf", "start", "picks"] (defScope sChecked) := ⟨rfl, rfl, rfl, by decide +kernel, rfl, by decide +kernel, by decide +kernel⟩
theorem ok_checked {C CT CN CV fI g : Addr} {fdI gd : FuncData} (F : Fun K "checked_board" "checked_board" sChecked f fd) (T : TB K mg C) (M : Mk K C fI) (GI : FnOk P w K mg base (CXE P w) 1 fI fdI ["self", "shelf", "start"] (spInit C CT)) (bI : Binds K fdI ["self", "shelf", "start"] [])
    (G : FnOk P w K mg base (CXE P w) 1 g gd ["board", "picks"] (spCheckP C CN CV)) (bG : Binds K gd ["board", "picks"] []) (kG : PySem.W.keepIn K (.ref g) = true) (mG : mg "check_picks" = some (.ref g)) :
    FnOk P w K mg base (CXE P w) 3 f fd ["shelf", "start", "picks"] (spChecked C CT CN CV) := by
  refine F.okX scCkd (fun vs H Q E h => ?_) (fun cdv A outer s H vs Q E hr h => ?_)
  · obtain ⟨a, st, pa, es, ps, rfl, _⟩ := h
    rfl
  obtain ⟨a, st, pa, es, ps, rfl, hsh, hok, hl, hp, hpok, hpl, q1, q2, q3, q4⟩ := h
  have hr1 : Room 1 _ := hr.mono (by decide)
  refine ⟨_, (pss_cons (ps_set (i := 3) scCkd.nd rfl (Or.inl rfl) (pe_make (E := E) M GI hr rfl T.mC bI .nil (passX fun _ _ _ _ z => z) (pa_cons (pv 0) (pa_cons (pv 1) pa_nil))))
    (pss_cons (ps_expr (pe_call (E := E) G hr1 rfl mG kG bG .nil (passX fun _ _ _ _ z => z) (pa_cons (pv 3) (pa_cons (pv 2) pa_nil))))
    (pss_one (ps_ret (pv 3))))), ?_⟩
  refine ⟨_, rfl, _, rfl, fun x dx hx hdx ndx => ?_⟩
  have s2 : Same H (del (upd (upd H dx (.own x)) x (.ins C dx [])) [x]) := fun b o e => by
    have nb := ne_of_none e hx
    rw [del_out (by simpa using nb), upd_ne nb, upd_ne (ne_of_none e hdx)]
    exact e
  have s3 : Same H (upd (upd H dx (.own x)) x (.ins C dx [])) := s2.trans (same_del _ _)
  refine ⟨x, dx, a, st, es, rfl, upd_same, ShAt.same s3 hsh, hok, hl, fun hnd H' sm hB => ⟨rfl, ?_⟩, fun hnd H' sm => q1 hnd H' (s2.trans sm)⟩
  have s4 : Same H H' := s2.trans sm
  refine ⟨_, rfl, _, rfl, x, pa, st, es, ps, rfl, hB, PksAt.same s4 hp, hpok, hpl, fun z H2 s5 => q2 hnd z H2 (s4.trans s5), fun z y H2 s5 => q3 hnd z y H2 (s4.trans s5), fun z y H2 s5 => ?_⟩
  exact ⟨_, rfl, q4 hnd z y x H2 (s4.trans s5) (hB.same s5)⟩
end
end FB

namespace FB
open PySem L2 PyProof.Rows
seal PSs PS PE PT PA
section
variable {P : Program} {w : World} {K : PySem.W.Frag} {mg : Str → Option Value} {base : Heap} {f : Addr} {fd : FuncData}
theorem scFst : FnScope ["board", "picks", "wrong", "picked", "who", "place", "need"] ["board", "picks", "wrong"] (defScope sFirst) := ⟨rfl, rfl, rfl, by decide +kernel, rfl, by decide +kernel, by decide +kernel⟩
theorem ok_first {C : Addr} (F : Fun K "first_need" "first_need" sFirst f fd) (T : TB K mg C) (mD : mg "dict" = none) (mE : mg "enumerate" = none) : FnOk P w K mg base CX0 3 f fd ["board", "picks", "wrong"] (spFirst P w K mg base C) := by
  refine F.ok scFst (fun vs H Q E h => ?_) (fun cdv A outer s H vs Q E hr h => ?_)
  · obtain ⟨b, pa, g, st, gd, W, es, sn, ps, xs, rfl, _⟩ := h
    rfl
  obtain ⟨b, pa, g, st, gd, W, es, sn, ps, xs, rfl, FG, kG, bG, hB, hnd, ⟨zs0, hst, hsn⟩, hx, hp, hon, hpn, hl, q1, q2⟩ := h
  have hu := hu_of hr
  refine ⟨_, (pss_cons (ps_set (i := 3) scFst.nd rfl (Or.inl rfl) (pe_callTy (call_dictP rfl) rfl mD PyProof.Rows.boot_dict (pa_cons (pv 1) pa_nil)))
    (pss_cons (ps_for PassesOwn.never rfl (pi_list (pe_op op_cat (pe_lst (pa_cons pe_non pa_nil)) (pv 1))) (pg_name (i := 4) scFst.nd rfl (Or.inl rfl))
      (pss_one (ps_for PassesOwn.never rfl (pi_enum rfl mE (pe_dgetN hu (pe_fld (pv 0) rfl) (pv 4) (fun _ _ => rfl))) (pg_tup rfl (pgs_cons (pg_name (i := 5) scFst.nd rfl (Or.inl rfl)) (pgs_cons (pg_name (i := 6) scFst.nd rfl (Or.inl rfl)) pgs_nil)))
        (pss_one (ps_if (pt_val (pe_callV (i := 2) rfl (Or.inl rfl) hr (pa_cons (pv 6) (pa_cons (pv 3) pa_nil))))
          (pss_one (ps_ret (pe_tup (pa_cons (pv 4) (pa_cons (pv 5) pa_nil))))) pss_nil)))))
    (pss_one (ps_ret pe_non)))), ?_⟩
  have lx : xs.length = ps.length := Paired.length hp
  obtain ⟨dx, dn, dv, hb, hstart, hlook⟩ := hB.start
  -- picked = dict(picks)
  have hml : (pkv ps).length ≤ 1000 := by unfold pkv; rw [List.length_map]; omega
  refine ⟨_, rfl, pa, xs, pkv ps, rfl, hx, pairs_of hp, hml, fun d hd => ?_⟩
  have hmg : mergeK [] (pkv ps) = pkv ps := merge_pkv ps [] (by simpa using hpn)
  rw [hmg]
  have s1 := same_new hd (.dK (pkv ps))
  generalize hH1 : upd H d (.dK (pkv ps)) = H1 at *
  have h1d : H1 d = some (.dK (pkv ps)) := by rw [← hH1]; exact upd_same
  -- [None] + picks
  refine ⟨(by show 1 ≤ sizeLine; decide), fun l0 hl0 => ⟨_, rfl, l0, pa, _, xs, rfl, rfl, upd_same, ?_, ?_, fun wl hwl => ?_⟩⟩
  · rw [upd_ne (ne_of_none (s1 _ _ hx) hl0)]
    exact s1 _ _ hx
  · rw [sizeLine_eq]
    show 1 + xs.length ≤ _
    omega
  have s2 : Same H1 (upd (upd H1 l0 (.lst [.non])) wl (.lst ([V.non] ++ xs))) := (same_new hl0 _).trans (same_new hwl _)
  generalize hH2 : upd (upd H1 l0 (.lst [.non])) wl (.lst ([V.non] ++ xs)) = H2 at *
  have h2w : H2 wl = some (.lst (V.non :: xs)) := by rw [← hH2]; exact upd_same
  have sH2 : Same H H2 := s1.trans s2
  -- each who has a list of needs
  have who : ∀ (i : Nat) (x : V), (V.non :: xs)[i]? = some x → ∃ a zs ns, DGetN H dn x (some (.ref a)) ∧ H a = some (.lst zs) ∧ Paired (NdAt H) zs ns ∧ (rows es sn ps)[i]? = some ns := fun i x hi => by
    cases i with
    | zero =>
      have e : V.non = x := by simpa using hi
      subst e
      exact ⟨st, zs0, sn, hstart, hst, hsn, rfl⟩
    | succ i =>
      have hi' : xs[i]? = some x := by simpa using hi
      obtain ⟨k, hk, hxk⟩ := Paired.getR hp hi'
      rcases hlook x k hxk with ⟨z, _⟩ | ⟨_, e, he, hke, a, zs, z1, z2, z3⟩
      · exact absurd (hon k (List.mem_of_getElem? hk)) z
      · refine ⟨a, zs, e.2.2, z1, z2, z3, ?_⟩
        show (sn :: ps.map (needsOf es))[i + 1]? = _
        rw [List.getElem?_cons_succ, List.getElem?_map, hk]
        show some (needsOf es k) = _
        rw [← hke, needs_found hnd he]
  have dget : ∀ {H3 : Hp} {x : V} {o : Option V}, Same H H3 → DGetN H dn x o → DGetN H3 dn x o := fun {H3 x o} s3 z => by
    obtain ⟨kvs, k, e1, e2, e3⟩ := z
    refine ⟨kvs, k, ?_, ?_, e3⟩
    · rcases e1 with e1 | ⟨ob, e1⟩
      · exact .inl (s3 _ _ e1)
      · exact .inr ⟨ob, s3 _ _ e1⟩
    · cases k with
      | none => exact e2
      | some ks => obtain ⟨q, h1, h2⟩ := e2; exact ⟨q, h1, s3 _ _ h2⟩
  refine ⟨wl, rfl, ⟨_, SqL.of h2w⟩, for_list (K := K) (a := wl) (xs := V.non :: xs) (fun i σ H3 => ∃ o4 o5 o6, σ = [some (.ref b), some (.ref pa), some (.ref g), some (.ref d), o4, o5, o6] ∧ Same H2 H3 ∧ ∀ i' ns, i' < i → (rows es sn ps)[i']? = some ns → ∀ m ∈ ns, W ps m = false)
    ⟨none, none, none, rfl, Same.refl _, fun i' ns z => by omega⟩ (fun i σ H3 _ ⟨_, _, _, _, s3, _⟩ => SqL.of (s3 _ _ h2w)) ?_ ?_⟩
  · rintro i x σ H3 hi ⟨o4, o5, o6, rfl, s3, hbe⟩
    obtain ⟨a, zs, ns, hda, ha, hz, hrow⟩ := who i x hi
    have sH3 : Same H H3 := sH2.trans s3
    refine ⟨_, rfl, b, C, dx, _, _, rfl, sH3 _ _ hb, T.cl, T.nN, bflds_needs _ _, _, rfl, dn, _, rfl, dget sH3 hda, a, zs, rfl, sH3 _ _ ha, ?_⟩
    have lz : zs.length = ns.length := Paired.length hz
    refine for_enum (K := K) (a := a) (xs := zs) (fun j σ H4 => ∃ o5 o6, σ = [some (.ref b), some (.ref pa), some (.ref g), some (.ref d), some x, o5, o6] ∧ Same H2 H4 ∧ ∀ m ∈ ns.take j, W ps m = false)
      ⟨o5, o6, rfl, s3, by simp⟩ (fun j σ H4 _ ⟨_, _, _, s4, _⟩ => SqL.of ((sH2.trans s4) _ _ ha)) ?_ ?_
    · rintro j z σ H4 t hj ⟨o5', o6', rfl, s4, hbe4⟩ ht
      obtain ⟨n, hn, hzn⟩ := Paired.getR hz hj
      have htk : ns.take (j + 1) = ns.take j ++ [n] := by rw [List.take_succ, hn]; rfl
      have s5 := s4.trans (same_new ht (.tup [.int (j : Nat), z]))
      refine ⟨t, _, rfl, SqT.of upd_same, rfl, _, _, rfl, _, _, rfl, rfl, ?_⟩
      refine ⟨g, gd, _, spClw W, rfl, FG, kG, bG, _, rfl, _, rfl, z, d, n, ps, rfl, NdAt.same (sH2.trans s5) hzn, s5 _ _ (s2 _ _ h1d), fun H6 s6 => ⟨_, rfl, ?_⟩⟩
      refine ite2 (fun hw => ?_) (fun hw => ?_)
      · refine ⟨_, rfl, _, rfl, (by show 2 ≤ sizeLine; decide), fun t2 ht2 => ?_⟩
        refine q1 i j t2 x _ ⟨⟨ns, n, hrow, hn, hw, hbe4⟩, hbe⟩ (((sH2.trans s5).trans s6).trans (same_new ht2 _)) hi upd_same
      · refine ⟨_, _, rfl, s5.trans s6, fun m hm => ?_⟩
        rw [htk] at hm
        rcases List.mem_append.mp hm with y | y
        · exact hbe4 m y
        · rw [List.mem_singleton.mp y]; exact Bool.eq_false_iff.mpr hw
    · rintro σ H4 ⟨o5', o6', rfl, s4, hbe4⟩
      rw [lz, List.take_length] at hbe4
      refine ⟨_, _, _, rfl, s4, fun i' ns' hi' hr => ?_⟩
      by_cases e : i' = i
      · subst e
        rw [hrow] at hr
        cases hr
        exact hbe4
      · exact hbe i' ns' (by omega) hr
  · rintro σ H3 ⟨o4, o5, o6, rfl, s3, hbe⟩
    refine q2 (fun ns hns => ?_) H3 (sH2.trans s3)
    obtain ⟨i', hi'⟩ := List.mem_iff_getElem?.mp hns
    refine hbe i' ns ?_ hi'
    have := (List.getElem?_eq_some_iff.mp hi').1
    show i' < (V.non :: xs).length
    unfold rows at this
    rw [List.length_cons, List.length_map] at this
    rw [List.length_cons]
    omega

end
end FB

namespace L2
open PySem PySem.Spec PyProof.Rows
theorem call_lenD {X : Cx} : CallR X (.builtin "len") (fun xs H Q => ∃ a kvs, xs = [V.ref a] ∧ H a = some (.dK kvs) ∧ Q (.int kvs.length) H) := by
  intro pins s σ H xs us Q I r h
  obtain ⟨a, kvs, rfl, ha, q⟩ := h
  obtain ⟨u, rfl, ru⟩ := vals1 r
  cases ru
  exact d_len I (.inl ha) fun t s' I' => ⟨.int kvs.length, H, I', ⟨t, rfl⟩, q⟩
end L2
namespace FB
open PySem L2 PyProof.Rows
seal PSs PS PE PT PA
def spNamed (C : Addr) : Sp := fun vs H Q _ => ∃ (b pa st : Addr) (es : List En) (sn : List Nd) (ps : List Pk), vs = [.ref b, .ref pa] ∧ BoardAt C H b st es ∧ (es.map keyOf).Nodup ∧ (∀ e ∈ es, EnOk e) ∧ NdsAt H st sn ∧ sn.length ≤ 900 ∧ PksAt H pa ps ∧ onShelf es ps ∧ (ps.map (·.1)).Nodup ∧ ps.length ≤ 900 ∧
  NoneOf (lackB ps) (rows es sn ps) ∧ ∀ d (fin : List Str) H', Same H H' → Wk es ps sn [] fin → H' d = some (.dK (mkv fin)) → Q (.ref d) H'
def spFits : Sp := fun vs H Q _ => ∃ (a pa st : Addr) (es : List En) (sn : List Nd) (ps : List Pk) (xs : List V), vs = [.ref a, .ref st, .ref pa] ∧ ShAt H a es ∧ (∀ e ∈ es, EnOk e) ∧ es.length < 64 ∧ (es.map keyOf).Nodup ∧ NdsAt H st sn ∧ sn.length ≤ 900 ∧ H pa = some (.lst xs) ∧ Paired (PkAt H) xs ps ∧
  (∀ k ∈ ps, PartOk k.1) ∧ onShelf es ps ∧ (ps.map (·.1)).Nodup ∧ ps.length ≤ 900 ∧ ∀ b H', Same H H' → FitP es sn ps b → Q (.bl b) H'
/-- between two turns of the walk: pd the picks' dict, nm the marks' dict, ah the stack -/
structure NmI (H0 : Hp) (es : List En) (sn : List Nd) (ps : List Pk) (b pa pd nd ah : Addr) (m : Nat) (σ : L2.St) (H : Hp) : Prop where
  ex : ∃ zs an nm o5, σ = [some (.ref b), some (.ref pa), some (.ref pd), some (.ref nd), some (.ref ah), o5] ∧ H nd = some (.dK (mkv nm)) ∧ H ah = some (.lst zs) ∧ Paired (NdAt H0) zs an ∧ (∀ n ∈ an, lackB ps n = false) ∧ (∀ fin, Wk es ps an nm fin → Wk es ps sn [] fin) ∧ nm.length + leftP ps nm ≤ ps.length ∧ 101 * leftP ps nm + an.length = m
  sm : Same H0 H
  le : m ≤ 100000
section
variable {P : Program} {w : World} {K : PySem.W.Frag} {mg : Str → Option Value} {base : Heap} {f : Addr} {fd : FuncData}
theorem scNmd : FnScope ["board", "picks", "picked", "named", "ahead", "part"] ["board", "picks"] (defScope sNamed) := ⟨rfl, rfl, rfl, by decide +kernel, rfl, by decide +kernel, by decide +kernel⟩
theorem ok_named {C : Addr} (F : Fun K "named_parts" "named_parts" sNamed f fd) (T : TB K mg C) (mD : mg "dict" = none) : FnOk P w K mg base CX0 1 f fd ["board", "picks"] (spNamed C) := by
  refine F.ok scNmd (fun vs H Q E h => ?_) (fun cdv A outer s H vs Q E hr h => ?_)
  · obtain ⟨b, pa, st, es, sn, ps, rfl, _⟩ := h
    rfl
  obtain ⟨b, pa, st, es, sn, ps, rfl, hB, hnd, hok, ⟨zs0, hst, hsn⟩, hsl, ⟨xs, hx, hp⟩, hon, hpn, hpl, hno, q⟩ := h
  have hu := hu_of hr
  refine ⟨_, (pss_cons (ps_set (i := 2) scNmd.nd rfl (Or.inl rfl) (pe_callTy (call_dictP rfl) rfl mD PyProof.Rows.boot_dict (pa_cons (pv 1) pa_nil)))
    (pss_cons (ps_set (i := 3) scNmd.nd rfl (Or.inl rfl) pe_dnewK)
    (pss_cons (ps_set (i := 4) scNmd.nd rfl (Or.inl rfl) (pe_callTy call_list_of rfl T.list boot_list (pa_cons (pe_dgetN hu (pe_fld (pv 0) rfl) pe_non (fun _ _ => rfl)) pa_nil)))
    (pss_cons (ps_while PassesOwn.never (pt_truth (pv 4) (fun _ => rfl))
      (pss_cons (ps_set (i := 5) scNmd.nd rfl (Or.inl rfl) (pe_ix ix_tup (pe_bm0 PySem.F.plainAttrs_list PySem.F.slot_list_pop PySem.F.type_list_pop mt_pop (pv 4)) pe_int (fun _ _ => rfl)))
      (pss_one (ps_if (pt_cmp (pc_dnotin hu (pv 5) (pv 3)))
        (pss_cons (ps_dput hu (pv 3) (pv 5) pe_bl rfl)
        (pss_one (ps_expr (pe_bm PySem.F.plainAttrs_list PySem.F.slot_list_extend PySem.F.type_list_extend mt_extend (pv 4) (pa_cons (pe_dgetN hu (pe_fld (pv 0) rfl) (pe_tup (pa_cons (pv 5) (pa_cons (pe_dget hu (pv 2) (pv 5) (fun _ _ => rfl)) pa_nil))) (fun _ _ => rfl)) pa_nil))))) pss_nil))))
    (pss_one (ps_ret (pv 3))))))), ?_⟩
  obtain ⟨dx, dn, dv, hb, hstart, hlook⟩ := hB.start
  have hml : (pkv ps).length ≤ 1000 := by unfold pkv; rw [List.length_map]; omega
  -- picked = dict(picks)
  refine ⟨_, rfl, pa, xs, pkv ps, rfl, hx, pairs_of hp, hml, fun pd hpd => ?_⟩
  have hmg : mergeK [] (pkv ps) = pkv ps := merge_pkv ps [] (by simpa using hpn)
  rw [hmg]
  have s1 := same_new hpd (.dK (pkv ps))
  -- named = {}
  refine fun nd hnd0 => ?_
  have s2 := s1.trans (same_new hnd0 (.dK []))
  have hpd2 : upd (upd H pd (.dK (pkv ps))) nd (.dK []) pd = some (.dK (pkv ps)) := (same_new hnd0 _) _ _ upd_same
  have hndd : upd (upd H pd (.dK (pkv ps))) nd (.dK []) nd = some (.dK []) := upd_same
  have hndH : H nd = none := s1.free hnd0
  generalize hH2 : upd (upd H pd (.dK (pkv ps))) nd (.dK []) = H2 at *
  have dget : ∀ {H3 : Hp} {x : V} {o : Option V}, Same H H3 → DGetN H dn x o → DGetN H3 dn x o := fun {H3 x o} s3 z => by
    obtain ⟨kvs, k, e1, e2, e3⟩ := z
    refine ⟨kvs, k, ?_, ?_, e3⟩
    · rcases e1 with e1 | ⟨ob, e1⟩
      · exact .inl (s3 _ _ e1)
      · exact .inr ⟨ob, s3 _ _ e1⟩
    · cases k with
      | none => exact e2
      | some ks => obtain ⟨q, h1, h2⟩ := e2; exact ⟨q, h1, s3 _ _ h2⟩
  -- ahead = list(board.needs[None])
  refine ⟨_, rfl, b, C, dx, _, _, rfl, s2 _ _ hb, T.cl, T.nN, bflds_needs _ _, dn, _, rfl, dget s2 hstart, st, zs0, rfl, .inl (SqL.of (s2 _ _ hst)), fun ah hah => ?_⟩
  have s3 := same_new hah (.lst zs0)
  have ahH : H ah = none := s2.free hah
  have lz0 := Paired.length hsn
  have hl0 := leftP_le ps []
  refine ⟨fun m σ H' => NmI H es sn ps b pa pd nd ah m σ H' ∧ H' pd = some (.dK (pkv ps)), ⟨101 * leftP ps [] + sn.length, ⟨⟨zs0, sn, [], none, rfl, s3 _ _ hndd, upd_same, hsn, fun n hn => hno sn (by simp [rows]) n hn, fun fin h => h, by rw [List.length_nil, Nat.zero_add]; exact hl0, rfl⟩, s2.trans s3, by omega⟩, s3 _ _ hpd2⟩, ?_⟩
  rintro m σ H3 ⟨⟨⟨zs, an, nm, o5, rfl, h3n, h3a, hzn, hlk, hW, hnl, hm⟩, sm, hle⟩, h3p⟩
  refine ⟨_, rfl, _, .inl ⟨zs, SqL.of h3a, rfl⟩, ?_⟩
  by_cases hnil : an = []
  · subst hnil
    cases hzn
    exact iteF ⟨_, rfl, q nd nm H3 sm (hW nm .done) h3n⟩
  obtain ⟨an', n, rfl⟩ : ∃ an' n, an = an' ++ [n] := ⟨an.dropLast, an.getLast hnil, (List.dropLast_concat_getLast hnil).symm⟩
  obtain ⟨zs', v, rfl, hz', hv⟩ : ∃ zs' v, zs = zs' ++ [v] ∧ Paired (NdAt H) zs' an' ∧ NdAt H v n := by
    clear hlk hW hm h3a hnil
    induction an' generalizing zs with
    | nil =>
      cases hzn with
      | cons h t => cases t; exact ⟨[], _, rfl, .nil, h⟩
    | cons a an' ih =>
      cases hzn with
      | cons h t =>
        obtain ⟨zs', v, rfl, h1, h2⟩ := ih _ t
        exact ⟨_ :: zs', v, rfl, .cons h h1, h2⟩
  have hne : (zs' ++ [v]).isEmpty = false := by simp
  rw [hne]
  refine iteT ⟨fun σ' H' => ∃ m', m' < m ∧ (NmI H es sn ps b pa pd nd ah m' σ' H' ∧ H' pd = some (.dK (pkv ps))), fun _ _ z => z, ?_⟩
  obtain ⟨nq, rfl, hnq⟩ := id hv
  have hlast : (zs' ++ [V.ref nq])[(zs' ++ [V.ref nq]).length - 1]? = some (V.ref nq) := by simp
  have hlen : an'.length + 1 + 101 * leftP ps nm = m := by rw [List.length_append, List.length_singleton] at hm; omega
  -- part = ahead.pop()[0]
  refine ⟨_, rfl, .inl ⟨rfl, _, SqL.of h3a⟩, ah, _, _, rfl, rfl, h3a, hlast, ?_⟩
  have s4 : Same H (upd H3 ah (.lst (zs' ++ [V.ref nq]).dropLast)) := Same.upd sm ahH
  have h4a : upd H3 ah (.lst (zs' ++ [V.ref nq]).dropLast) ah = some (.lst zs') := by rw [upd_same, List.dropLast_concat]
  have h4n : upd H3 ah (.lst (zs' ++ [V.ref nq]).dropLast) nd = some (.dK (mkv nm)) := by rw [upd_ne (ne_of h3n h3a (by intro z; cases z))]; exact h3n
  have h4p : upd H3 ah (.lst (zs' ++ [V.ref nq]).dropLast) pd = some (.dK (pkv ps)) := by rw [upd_ne (ne_of h3p h3a (by intro z; cases z))]; exact h3p
  generalize hH4 : upd H3 ah (.lst (zs' ++ [V.ref nq]).dropLast) = H4 at *
  refine ⟨nq, _, _, _, rfl, rfl, SqT.of (s4 _ _ hnq), rfl, ?_⟩
  have hlkn : lackB ps n = false := hlk n (by simp)
  -- part not in named
  refine ⟨_, rfl, _, rfl, nd, _, rfl, DGet.k (k := Sum.inr n.1) h4n, _, rfl, ?_⟩
  rw [valV_mkv]
  by_cases hin : n.1 ∈ nm
  · rw [decide_eq_true hin]
    refine iteF ⟨101 * leftP ps nm + an'.length, by omega, ⟨⟨zs', an', nm, _, rfl, h4n, h4a, hz', fun x hx => hlk x (by simp [hx]), fun fin h => hW fin (.old hin h), hnl, rfl⟩, s4, by omega⟩, h4p⟩
  · rw [decide_eq_false hin]
    refine iteT ?_
    obtain ⟨z, hvz⟩ : ∃ z, verOf ps n.1 = some z := by
      unfold lackB at hlkn
      cases e : verOf ps n.1 with
      | none => rw [e] at hlkn; cases hlkn
      | some z => exact ⟨z, rfl⟩
    have hkps := ver_in hvz
    have hll := leftP_less hin (ps := ps) (List.mem_map.mpr ⟨_, hkps, rfl⟩)
    have hlm : (mkv nm).length ≤ 900 := by unfold mkv; rw [List.length_map]; omega
    -- named[part] = True
    refine ⟨_, rfl, _, rfl, nd, _, rfl, DPut.k (k := Sum.inr n.1) h4n (small1000 (by omega)), ?_⟩
    rw [put_mkv hin]
    have s5 : Same H (upd H4 nd (.dK (mkv (nm ++ [n.1])))) := Same.upd s4 hndH
    have h5a : upd H4 nd (.dK (mkv (nm ++ [n.1]))) ah = some (.lst zs') := by rw [upd_ne (ne_of h4a h4n (by intro z; cases z))]; exact h4a
    have npn : pd ≠ nd := by
      intro e
      subst e
      have : H pd = none := hpd
      have h0 : upd H pd (.dK (pkv ps)) pd = none := hnd0
      rw [upd_same] at h0
      cases h0
    have h5p : upd H4 nd (.dK (mkv (nm ++ [n.1]))) pd = some (.dK (pkv ps)) := by rw [upd_ne npn]; exact h4p
    have h5n : upd H4 nd (.dK (mkv (nm ++ [n.1]))) nd = some (.dK (mkv (nm ++ [n.1]))) := upd_same
    generalize hH5 : upd H4 nd (.dK (mkv (nm ++ [n.1]))) = H5 at *
    -- ahead.extend(board.needs[(part, picked[part])])
    have hgp : DGet H5 pd (.str n.1) (some (.int z)) := by
      have := DGet.k (k := Sum.inr n.1) h5p
      rw [valV_pkv, hvz] at this
      exact this
    refine ⟨_, rfl, .inl ⟨rfl, _, SqL.of h5a⟩, _, rfl, b, C, dx, _, _, rfl, s5 _ _ hb, T.cl, T.nN, bflds_needs _ _, _, rfl, _, rfl, _, rfl, pd, _, rfl, hgp, (by show 2 ≤ sizeLine; decide), fun kt hkt => ?_⟩
    have s6 := same_new hkt (.tup [.str n.1, .int z])
    -- that pick's needs
    have hkk : ∃ a zs2, DGetN (upd H5 kt (.tup [.str n.1, .int z])) dn (.ref kt) (some (.ref a)) ∧ H a = some (.lst zs2) ∧ Paired (NdAt H) zs2 (needsOf es (n.1, z)) := by
      have hBk := hB.same (s5.trans s6)
      obtain ⟨x1, hx1, hkx⟩ : ∃ v1, PkAt H v1 (n.1, z) ∧ v1 ∈ xs := by
        obtain ⟨i, hi⟩ := List.mem_iff_getElem?.mp hkps
        have lx := Paired.length hp
        have hil : i < xs.length := by rw [lx]; exact (List.getElem?_eq_some_iff.mp hi).1
        obtain ⟨k', hk', hxk⟩ := Paired.getR hp (List.getElem?_eq_getElem hil)
        rw [hi] at hk'
        cases hk'
        exact ⟨_, hxk, List.getElem_mem hil⟩
      rcases hlook x1 (n.1, z) hx1 with ⟨z1, _⟩ | ⟨_, e, he, hke, a, zs2, z1, z2, z3⟩
      · exact absurd (hon _ hkps) z1
      · obtain ⟨kvs, k, e1, e2, e3⟩ := z1
        obtain ⟨q1, rfl, hq1⟩ := hx1
        have hk : k = some (dkey (n.1, z)) := by
          cases k with
          | none => cases e2
          | some ks =>
            obtain ⟨b2, hb2, hb3⟩ := e2
            cases hb2
            rw [hq1] at hb3
            have : [V.str n.1, V.int z] = ks.map kV := by injection hb3 with hb3; injection hb3
            have : (dkey (n.1, z)).map kV = ks.map kV := this
            rw [kVs_inj this]
        subst hk
        refine ⟨a, zs2, ⟨kvs, some (dkey (n.1, z)), ?_, ⟨kt, rfl, upd_same⟩, e3⟩, z2, by rw [← hke, needs_found hnd he]; exact z3⟩
        rcases e1 with e1 | ⟨ob, e1⟩
        · exact .inl ((s5.trans s6) _ _ e1)
        · exact .inr ⟨ob, (s5.trans s6) _ _ e1⟩
    obtain ⟨a, zs2, hda, ha, hz2⟩ := hkk
    have lz' := Paired.length hz'
    have lz2 := Paired.length hz2
    have hfew := needs_few hok (n.1, z)
    refine ⟨dn, _, rfl, hda, ah, a, zs', zs2, rfl, rfl, s6 _ _ h5a, (s5.trans s6) _ _ ha, by rw [sizeLine_eq]; omega, ?_⟩
    have nna : nd ≠ ah := ne_of h5n h5a (by intro z; cases z)
    have npa : pd ≠ ah := ne_of h5p h5a (by intro z; cases z)
    refine ⟨101 * leftP ps (nm ++ [n.1]) + (an' ++ needsOf es (n.1, z)).length, by rw [List.length_append]; omega, ⟨⟨zs' ++ zs2, an' ++ needsOf es (n.1, z), nm ++ [n.1], _, rfl, by rw [upd_ne nna]; exact s6 _ _ h5n, upd_same, ?_, fun x hx => ?_, fun fin h => hW fin (.new hin hvz h), by rw [List.length_append, List.length_singleton]; omega, rfl⟩, Same.upd (s5.trans s6) ahH, by rw [List.length_append]; omega⟩, by rw [upd_ne npa]; exact s6 _ _ h5p⟩
    · have ap : ∀ {as bs : List V} {cs ds : List Nd}, Paired (NdAt H) as cs → Paired (NdAt H) bs ds → Paired (NdAt H) (as ++ bs) (cs ++ ds) := by
        intro as bs cs ds r1 r2
        induction r1 with
        | nil => exact r2
        | cons h t ih => exact .cons h ih
      exact ap hz' hz2
    · rcases List.mem_append.mp hx with y | y
      · exact hlk x (by simp [y])
      · exact hno _ (by unfold rows; exact List.mem_cons_of_mem _ (List.mem_map.mpr ⟨_, hkps, rfl⟩)) x y
end
end FB

namespace FB
open PySem L2 PyProof.Rows
seal PSs PS PE PT PA
section
variable {P : Program} {w : World} {K : PySem.W.Frag} {mg : Str → Option Value} {base : Heap} {f : Addr} {fd : FuncData}
theorem scFts : FnScope ["shelf", "start", "picks", "board", "wrong"] ["shelf", "start", "picks"] (defScope sFits) := ⟨rfl, rfl, rfl, by decide +kernel, rfl, by decide +kernel, by decide +kernel⟩
theorem ok_fits {C CT CN CV g1 g2 g3 g4 g5 : Addr} {gd1 gd2 gd3 gd4 gd5 : FuncData} (F : Fun K "fits" "fits" sFits f fd) (mL : mg "len" = none) (G1 : FnOk P w K mg base CX0 3 g1 gd1 ["board", "picks", "wrong"] (spFirst P w K mg base C)) (b1 : Binds K gd1 ["board", "picks", "wrong"] []) (k1 : PySem.W.keepIn K (.ref g1) = true) (m1 : mg "first_need" = some (.ref g1))
    (G2 : FnOk P w K mg base (CXE P w) 3 g2 gd2 ["shelf", "start", "picks"] (spChecked C CT CN CV)) (b2 : Binds K gd2 ["shelf", "start", "picks"] []) (k2 : PySem.W.keepIn K (.ref g2) = true) (m2 : mg "checked_board" = some (.ref g2))
    (G3 : FnOk P w K mg base CX0 2 g3 gd3 ["need", "picked"] (spClw clwB)) (b3 : Binds K gd3 ["need", "picked"] []) (k3 : PySem.W.keepIn K (.ref g3) = true) (m3 : mg "clashes_with" = some (.ref g3))
    (G4 : FnOk P w K mg base CX0 2 g4 gd4 ["need", "picked"] (spClw lackB)) (b4 : Binds K gd4 ["need", "picked"] []) (k4 : PySem.W.keepIn K (.ref g4) = true) (m4 : mg "lacks_pick" = some (.ref g4))
    (G5 : FnOk P w K mg base CX0 1 g5 gd5 ["board", "picks"] (spNamed C)) (b5 : Binds K gd5 ["board", "picks"] []) (k5 : PySem.W.keepIn K (.ref g5) = true) (m5 : mg "named_parts" = some (.ref g5)) :
    FnOk P w K mg base (CXE P w) 4 f fd ["shelf", "start", "picks"] spFits := by
  refine F.okX scFts (fun vs H Q E h => ?_) (fun cdv A outer s H vs Q E hr h => ?_)
  · obtain ⟨a, pa, st, es, sn, ps, xs, rfl, _⟩ := h
    rfl
  obtain ⟨a, pa, st, es, sn, ps, xs, rfl, hsh, hok, hl, hnd, hsn, hsl, hx, hp, hpo, hon, hpn, hpl, q⟩ := h
  have hr1 : Room 1 _ := hr.mono (by decide)
  refine ⟨_, (pss_cons (ps_set (i := 3) scFts.nd rfl (Or.inl rfl) (pe_call (E := E) G2 hr rfl m2 k2 b2 .nil (passX fun _ _ _ _ z => z) (pa_cons (pv 0) (pa_cons (pv 1) (pa_cons (pv 2) pa_nil)))))
    (pss_cons (ps_for (flies_own rfl rfl) rfl (pi_tup (pe_tup (pa_cons (pe_glob (v := .ref g3) rfl m3 rfl) (pa_cons (pe_glob (v := .ref g4) rfl m4 rfl) pa_nil)))) (pg_name (i := 4) scFts.nd rfl (Or.inl rfl))
      (pss_one (ps_if (pt_cmp (pc_notN (pe_call G1 hr rfl m1 k1 b1 .nil pass0 (pa_cons (pv 3) (pa_cons (pv 2) (pa_cons (pv 4) pa_nil)))))) (pss_one (ps_ret pe_bl)) pss_nil)))
    (pss_one (ps_ret (pe_cmpR op_eq (pe_callB call_lenD rfl mL PySem.boot_len (pa_cons (pe_call G5 hr1 rfl m5 k5 b5 .nil pass0 (pa_cons (pv 3) (pa_cons (pv 2) pa_nil))) pa_nil)) (pe_callB call_len_seq rfl mL PySem.boot_len (pa_cons (pv 2) pa_nil)) (nomark _)))))), ?_⟩
  have lx : xs.length = ps.length := Paired.length hp
  refine ⟨_, rfl, _, rfl, _, rfl, a, st, pa, es, ps, rfl, hsh, hok, hl, ⟨xs, hx, hp⟩, hpo, hpl, fun z => absurd hnd z, fun _ z => absurd hon z, fun _ _ z => absurd hpn z, fun _ _ _ b H1 s1 hB => ?_⟩
  refine ⟨(by show 2 ≤ sizeLine; decide), fun tt htt => ?_⟩
  have s2 := same_new htt (.tup [.ref g3, .ref g4])
  refine ⟨tt, rfl, ⟨_, SqT.of upd_same⟩, for_tup (K := K) (a := tt) (xs := [.ref g3, .ref g4]) (fun i σ H2 => ∃ o4, σ = [some (.ref a), some (.ref st), some (.ref pa), some (.ref b), o4] ∧ Same (upd H1 tt (.tup [.ref g3, .ref g4])) H2 ∧ (1 ≤ i → NoneOf (clwB ps) (rows es sn ps)) ∧ (2 ≤ i → NoneOf (lackB ps) (rows es sn ps)))
    ⟨none, rfl, Same.refl _, fun z => by omega, fun z => by omega⟩ (fun i σ H2 _ ⟨_, _, s, _⟩ => SqT.of (s _ _ upd_same)) ?_ ?_⟩
  · rintro i x σ H2 hi ⟨o4, rfl, s3, hc, hg⟩
    have s13 := (s1.trans s2).trans s3
    have s23 := s2.trans s3
    have hB3 := hB.same s23
    -- what first_need is handed
    match i, hi with
    | 0, hi =>
      have e : V.ref g3 = x := by simpa using hi
      subst e
      refine ⟨_, rfl, _, rfl, _, rfl, b, pa, g3, st, gd3, clwB, es, sn, ps, xs, rfl, G3, k3, b3, hB3, hnd, NdsAt.same s13 hsn, s13 _ _ hx, Paired.mapP hp fun _ _ z => PkAt.same s13 z, hon, hpn, hpl, fun i' j t w' H4 hf s4 hw ht => ?_, fun hN H4 s4 => ?_⟩
      · exact ⟨_, rfl, iteT (q false H4 (s13.trans s4) (.inl ⟨fun z => hf.not z.1, rfl⟩))⟩
      · exact ⟨_, rfl, iteF ⟨_, rfl, s3.trans s4, fun _ => hN, fun z => by omega⟩⟩
    | 1, hi =>
      have e : V.ref g4 = x := by simpa using hi
      subst e
      refine ⟨_, rfl, _, rfl, _, rfl, b, pa, g4, st, gd4, lackB, es, sn, ps, xs, rfl, G4, k4, b4, hB3, hnd, NdsAt.same s13 hsn, s13 _ _ hx, Paired.mapP hp fun _ _ z => PkAt.same s13 z, hon, hpn, hpl, fun i' j t w' H4 hf s4 hw ht => ?_, fun hN H4 s4 => ?_⟩
      · exact ⟨_, rfl, iteT (q false H4 (s13.trans s4) (.inl ⟨fun z => hf.not z.2, rfl⟩))⟩
      · exact ⟨_, rfl, iteF ⟨_, rfl, s3.trans s4, fun _ => hc (Nat.le_refl _), fun _ => hN⟩⟩
    | i + 2, hi => simp at hi
  · rintro σ H2 ⟨o4, rfl, s3, hc, hg⟩
    have s13 := (s1.trans s2).trans s3
    have hall : AllMet es sn ps := ⟨hc (by show 1 ≤ 2; decide), hg (by show 2 ≤ 2; decide)⟩
    refine ⟨_, rfl, _, rfl, b, pa, st, es, sn, ps, rfl, hB.same (s2.trans s3), hnd, hok, NdsAt.same s13 hsn, hsl, PksAt.same s13 ⟨xs, hx, hp⟩, hon, hpn, hpl, hall.2, fun d fin H3 s4 hw hd => ?_⟩
    refine ⟨d, mkv fin, rfl, hd, _, rfl, pa, xs, rfl, .inl (SqL.of ((s13.trans s4) _ _ hx)), rfl, ?_⟩
    have e : decide (V.int ((mkv fin).length : Int) = V.int (xs.length : Int)) = decide (fin.length = ps.length) := by
      have h1 : (mkv fin).length = fin.length := by unfold mkv; rw [List.length_map]
      rw [h1, lx]
      by_cases z : fin.length = ps.length
      · rw [decide_eq_true z, decide_eq_true (by rw [z])]
      · rw [decide_eq_false z, decide_eq_false (fun y => z (by injection y with y; exact Int.ofNat.inj y))]
    rw [e]
    exact q _ H3 (s13.trans s4) (.inr ⟨hall, fin, hw, rfl⟩)
end
end FB

namespace FB
open PySem L2 PyProof.Rows
seal PSs PS PE PT PA

structure Txt (K : PySem.W.Frag) (mg : Str → Option Value) : Prop where
  len : mg "len" = none
  range : mg "range" = none
  list : mg "list" = none
  tuple : mg "tuple" = none
  str : mg "str" = none
  int : mg "int" = none
  bool : mg "bool" = none
  isin : mg "isinstance" = none
  sorted : mg "sorted" = none
  rev : mg "reversed" = none

/-! ### the promises -/
def spAt (K : PySem.W.Frag) : Sp := fun vs H Q _ => ∃ (a : Addr) (ns : List Int) (k : Int), vs = [.ref a, .int k] ∧ SqL K H a (ns.map V.int) ∧ 0 ≤ k ∧ ∀ z, Q (.int z) H
def spVer : Sp := fun vs H Q _ => ∃ (c : Int), vs = [.int c] ∧ ∀ z H', Same H H' → Q (.int z) H'
def spNeed : Sp := fun vs H Q _ => ∃ (c : Int), vs = [.int c] ∧ ∀ q (n : Nd) H', Same H H' → H q = none → H' q = some (.tup [.str n.1, .int n.2.1, .int n.2.2]) → PartOk n.1 → Q (.ref q) H'
def spLMeets (K : PySem.W.Frag) : Sp := fun vs H Q _ => ∃ (v : V) (n : Nd) (z : Int), vs = [v, .int z] ∧ NdAt H v n ∧ Q (.bl (decide (n.2.1 ≤ z) && decide (z ≤ n.2.2))) H

section
variable {P : Program} {w : World} {K : PySem.W.Frag} {mg : Str → Option Value} {base : Heap} {f : Addr} {fd : FuncData}

theorem scAt : FnScope ["_law_script", "_law_k"] ["_law_script", "_law_k"] (defScope sAt) := ⟨rfl, rfl, rfl, by decide +kernel, rfl, by decide +kernel, by decide +kernel⟩
theorem ok_at (F : Fun K "_law_at" "_law_at" sAt f fd) (T : Txt K mg) : FnOk P w K mg base CX0 1 f fd ["_law_script", "_law_k"] (spAt K) := by
  refine F.ok scAt (fun vs H Q E h => ?_) (fun cdv A outer s H vs Q E hr h => ?_)
  · obtain ⟨a, ns, k, rfl, _⟩ := h
    rfl
  obtain ⟨a, ns, k, rfl, hS, h0, q⟩ := h
  refine ⟨_, pss_cons (ps_if (pt_cmpR op_lt (pv 1) (pe_callB call_len_seq rfl T.len PySem.boot_len (pa_cons (pv 0) pa_nil)) (nomark _))
      (pss_one (ps_ret (pe_ix ix_list (pv 0) (pv 1) (fun _ _ => rfl)))) pss_nil)
    (pss_one (ps_ret pe_int)), ?_⟩
  refine ⟨_, rfl, _, rfl, a, _, rfl, .inl hS, _, _, rfl, rfl, _, rfl, ?_⟩
  refine ite2 (fun c => ?_) (fun c => ?_)
  · have c' : k < (((ns.map V.int).length : Nat) : Int) := of_decide_eq_true c
    rw [List.length_map] at c'
    obtain ⟨z, hz, _⟩ := at_ints h0 c'
    exact ⟨_, rfl, _, rfl, a, _, _, _, rfl, rfl, hS, hz, q z⟩
  · exact q 0

theorem scVer : FnScope ["_law_cell"] ["_law_cell"] (defScope sVer) := ⟨rfl, rfl, rfl, by decide +kernel, rfl, by decide +kernel, by decide +kernel⟩
theorem ok_ver (F : Fun K "_law_version_by" "_law_version_by" sVer f fd) : FnOk P w K mg base CX0 1 f fd ["_law_cell"] spVer := by
  refine F.ok scVer (fun vs H Q E h => ?_) (fun cdv A outer s H vs Q E hr h => ?_)
  · obtain ⟨c, rfl, _⟩ := h
    rfl
  obtain ⟨c, rfl, q⟩ := h
  refine ⟨_, pss_cons (ps_if (pt_cmpR op_eq (pe_op op_mod (pv 0) pe_int) pe_int (nomark _))
      (pss_one (ps_ret (pe_ix ix_list (pe_lst (pa_cons pe_int (pa_cons pe_int (pa_cons (pe_un un_neg pe_int) (pa_cons pe_int pa_nil))))) (pe_op op_mod (pe_op op_fdiv (pv 0) pe_int) pe_int) (fun _ _ => rfl)))) pss_nil)
    (pss_one (ps_ret (pe_ix ix_list (pe_lst (pa_cons pe_int (pa_cons (pe_un un_neg pe_int) (pa_cons (pe_op op_pow pe_int pe_int) pa_nil)))) (pe_op op_mod (pv 0) pe_int) (fun _ _ => rfl)))), ?_⟩
  refine ⟨_, rfl, _, _, rfl, rfl, (by show (0 : Int) < 7; decide), rfl, _, rfl, ?_⟩
  refine ite2 (fun _ => ?_) (fun _ => ?_)
  · refine ⟨_, rfl, (by show 4 ≤ sizeLine; decide), fun p hp => ?_⟩
    obtain ⟨z, hz, _⟩ := at_ints (ns := [9, 10, -10, 100]) (i := c / 7 % 4) (Int.emod_nonneg _ (by decide)) (Int.emod_lt_of_pos _ (by decide))
    exact ⟨_, rfl, _, _, rfl, rfl, ⟨by decide, by decide⟩, _, _, rfl, rfl, (by show (0 : Int) < 4; decide), p, _, _, _, rfl, rfl, SqL.of upd_same, hz, q z _ (same_new hp _)⟩
  · refine ⟨_, rfl, _, _, rfl, rfl, ⟨by decide, by decide, by decide⟩, (by show 3 ≤ sizeLine; decide), fun p hp => ?_⟩
    obtain ⟨z, hz, _⟩ := at_ints (ns := [0, -1, 10 ^ (30 : Int).toNat]) (i := c % 3) (Int.emod_nonneg _ (by decide)) (Int.emod_lt_of_pos _ (by decide))
    exact ⟨_, rfl, _, _, rfl, rfl, (by show (0 : Int) < 3; decide), p, _, _, _, rfl, rfl, SqL.of upd_same, hz, q z _ (same_new hp _)⟩

theorem part1 : PartOk "ashenashenashen" := ⟨by decide +kernel, by decide +kernel⟩
theorem part2 : PartOk "as" := ⟨by decide +kernel, by decide +kernel⟩
theorem part3 : PartOk "" := ⟨by decide +kernel, by decide +kernel⟩
theorem part4 : PartOk "ashenashxnashen" := ⟨by decide +kernel, by decide +kernel⟩
theorem parts {xs : List V} (h : xs = [.str "ashenashenashen", .str "as", .str "", .str "ashenashxnashen"] ∨ xs = [.str "as", .str "ashenashenashen", .str "ashenashxnashen", .str ""]) {v : V} (hv : v ∈ xs) : ∃ x, v = .str x ∧ PartOk x := by
  rcases h with rfl | rfl <;> simp only [List.mem_cons, List.not_mem_nil, or_false] at hv <;> rcases hv with rfl | rfl | rfl | rfl
  · exact ⟨_, rfl, part1⟩
  · exact ⟨_, rfl, part2⟩
  · exact ⟨_, rfl, part3⟩
  · exact ⟨_, rfl, part4⟩
  · exact ⟨_, rfl, part2⟩
  · exact ⟨_, rfl, part1⟩
  · exact ⟨_, rfl, part4⟩
  · exact ⟨_, rfl, part3⟩

theorem scNeed : FnScope ["_law_cell", "_law_part", "_law_low", "_law_high"] ["_law_cell"] (defScope sNeed) := ⟨rfl, rfl, rfl, by decide +kernel, rfl, by decide +kernel, by decide +kernel⟩
theorem ok_need {g : Addr} {gd : FuncData} (F : Fun K "_law_need_by" "_law_need_by" sNeed f fd) (G : FnOk P w K mg base CX0 1 g gd ["_law_cell"] spVer) (bG : Binds K gd ["_law_cell"] []) (kG : PySem.W.keepIn K (.ref g) = true) (mG : mg "_law_version_by" = some (.ref g)) :
    FnOk P w K mg base CX0 2 f fd ["_law_cell"] spNeed := by
  refine F.ok scNeed (fun vs H Q E h => ?_) (fun cdv A outer s H vs Q E hr h => ?_)
  · obtain ⟨c, rfl, _⟩ := h
    rfl
  obtain ⟨c, rfl, q⟩ := h
  refine ⟨_, pss_cons (ps_set (i := 1) scNeed.nd rfl (Or.inl rfl) (pe_ix ix_list (pe_lst (pa_cons pe_str (pa_cons pe_str (pa_cons pe_str (pa_cons pe_str pa_nil))))) (pe_op op_mod (pv 0) pe_int) (fun _ _ => rfl)))
    (pss_cons (ps_set (i := 2) scNeed.nd rfl (Or.inl rfl) (pe_call G hr rfl mG kG bG .nil pass0 (pa_cons (pe_op op_fdiv (pv 0) pe_int) pa_nil)))
    (pss_cons (ps_set (i := 3) scNeed.nd rfl (Or.inl rfl) (pe_ix ix_list (pe_lst (pa_cons pe_int (pa_cons (pe_un un_neg pe_int) (pa_cons (pe_op op_pow pe_int pe_int) (pa_cons (pe_op op_pow pe_int pe_int) (pa_cons (pv 2) (pa_cons (pe_un un_neg pe_int) pa_nil))))))) (pe_op op_mod (pe_op op_fdiv (pv 0) pe_int) pe_int) (fun _ _ => rfl)))
    (pss_one (ps_ret (pe_tup (pa_cons (pv 1) (pa_cons (pv 2) (pa_cons (pv 3) pa_nil)))))))), ?_⟩
  refine ⟨(by show 4 ≤ sizeLine; decide), fun p hp => ?_⟩
  obtain ⟨v, hv, hm⟩ := at_any (xs := [.str "ashenashenashen", .str "as", .str "", .str "ashenashxnashen"]) (i := c % 4) (Int.emod_nonneg _ (by decide)) (Int.emod_lt_of_pos _ (by decide))
  obtain ⟨x, rfl, hx⟩ := parts (.inl rfl) hm
  refine ⟨_, rfl, _, _, rfl, rfl, (by show (0 : Int) < 4; decide), p, _, _, _, rfl, rfl, SqL.of upd_same, hv, ?_⟩
  have s1 := same_new hp (.lst [.str "ashenashenashen", .str "as", .str "", .str "ashenashxnashen"])
  refine ⟨_, rfl, _, _, rfl, rfl, ⟨by decide, by decide⟩, _, rfl, fun lo H2 s2 => ?_⟩
  refine ⟨_, rfl, _, _, rfl, rfl, ⟨by decide, by decide, by decide⟩, _, _, rfl, rfl, ⟨by decide, by decide, by decide⟩, _, rfl, _, rfl, (by show 6 ≤ sizeLine; decide), fun p2 hp2 => ?_⟩
  obtain ⟨hi, hv2, _⟩ := at_ints (ns := [0, -1, 10 ^ (30 : Int).toNat, 10 ^ (30 : Int).toNat, lo, -9]) (i := c / 12 % 6) (Int.emod_nonneg _ (by decide)) (Int.emod_lt_of_pos _ (by decide))
  refine ⟨_, rfl, _, _, rfl, rfl, ⟨by decide, by decide⟩, _, _, rfl, rfl, (by show (0 : Int) < 6; decide), p2, _, _, _, rfl, rfl, SqL.of upd_same, hv2, ?_⟩
  have s3 := (s1.trans s2).trans (same_new hp2 (.lst [.int 0, .int (-1), .int (10 ^ (30 : Int).toNat), .int (10 ^ (30 : Int).toNat), .int lo, .int (-9)]))
  refine ⟨_, rfl, _, rfl, _, rfl, (by show 3 ≤ sizeLine; decide), fun r hr2 => ?_⟩
  exact q r (x, lo, hi) _ (s3.trans (same_new hr2 _)) (s3.free hr2) upd_same hx

theorem scLM : FnScope ["_law_need", "_law_version"] ["_law_need", "_law_version"] (defScope sLMeets) := ⟨rfl, rfl, rfl, by decide +kernel, rfl, by decide +kernel, by decide +kernel⟩
theorem ok_lmeets (F : Fun K "_law_meets" "_law_meets" sLMeets f fd) : FnOk P w K mg base CX0 1 f fd ["_law_need", "_law_version"] (spLMeets K) := by
  refine F.ok scLM (fun vs H Q E h => ?_) (fun cdv A outer s H vs Q E hr h => ?_)
  · obtain ⟨v, n, z, rfl, _⟩ := h
    rfl
  obtain ⟨v, n, z, rfl, ⟨q0, rfl, hq⟩, q⟩ := h
  refine ⟨_, pss_one (ps_ret (pe_and (pe_cmpR op_le (pe_ix ix_tup (pv 0) pe_int (fun _ _ => rfl)) (pv 1) (nomark _)) (pe_one (pe_cmpR op_le (pv 1) (pe_ix ix_tup (pv 0) pe_int (fun _ _ => rfl)) (nomark _))))), ?_⟩
  refine ⟨_, rfl, q0, _, _, _, rfl, rfl, SqT.of hq, rfl, _, rfl, _, _, rfl, rfl, _, rfl, ?_⟩
  refine ite2 (fun c => ?_) (fun c => ?_)
  · refine ⟨_, rfl, _, rfl, q0, _, _, _, rfl, rfl, SqT.of hq, rfl, _, _, rfl, rfl, ?_⟩
    rw [c, Bool.true_and] at q
    exact q
  · rw [Bool.eq_false_iff.mpr c, Bool.false_and] at q
    exact q

end
end FB

namespace L2
open PySem PyProof.Rows
theorem pe_ty {X : Cx} {x : Str} {n : String} {pos : Pos} (hg : Gl X x) (hm : X.mg x = none) (hv : bootBuiltins x = some (.type n)) (hn : x ≠ "__name__" := by decide) (hd : (x == ("__debug__" : Str)) = false := by decide) : PE X (.Name x pos) (tC (.ty n)) :=
  pe_bltn (v := .ty n) hg hm hv rfl hn hd
end L2
namespace FB
open PySem L2 PyProof.Rows
seal PSs PS PE PT PA

/-! ### the types of plain data -/
def tyD : PyData → String
  | .none => "NoneType"
  | .bool _ => "bool"
  | .int _ => "int"
  | .str _ => "str"
  | .list _ => "list"
  | .tuple _ => "tuple"
  | .dict _ => "dict"
theorem rep_ty {K : PySem.W.Frag} {H : Hp} {v : V} {d : PyData} (h : Rep H v d) : TyOf K H v (.type (tyD d)) := by
  cases h with
  | non => exact .non
  | bl b => exact .bl b
  | int i => exact .int i
  | str x => exact .str x
  | lst e _ => exact .lst e
  | tup e _ => exact .tup e
theorem kit_nl (K : PySem.W.Frag) : PySem.W.kitOne K (.type "NoneType") (.type "list") = some false := by kernel_rfl
theorem kit_il (K : PySem.W.Frag) : PySem.W.kitOne K (.type "int") (.type "list") = some false := by kernel_rfl
theorem kit_sl (K : PySem.W.Frag) : PySem.W.kitOne K (.type "str") (.type "list") = some false := by kernel_rfl
theorem kit_ll (K : PySem.W.Frag) : PySem.W.kitOne K (.type "list") (.type "list") = some true := by kernel_rfl
theorem kit_tl (K : PySem.W.Frag) : PySem.W.kitOne K (.type "tuple") (.type "list") = some false := by kernel_rfl
theorem kit_nt (K : PySem.W.Frag) : PySem.W.kitOne K (.type "NoneType") (.type "tuple") = some false := by kernel_rfl
theorem kit_it (K : PySem.W.Frag) : PySem.W.kitOne K (.type "int") (.type "tuple") = some false := by kernel_rfl
theorem kit_st (K : PySem.W.Frag) : PySem.W.kitOne K (.type "str") (.type "tuple") = some false := by kernel_rfl
theorem kit_lt (K : PySem.W.Frag) : PySem.W.kitOne K (.type "list") (.type "tuple") = some false := by kernel_rfl
theorem kit_tt (K : PySem.W.Frag) : PySem.W.kitOne K (.type "tuple") (.type "tuple") = some true := by kernel_rfl
theorem kit_ns (K : PySem.W.Frag) : PySem.W.kitOne K (.type "NoneType") (.type "str") = some false := by kernel_rfl
theorem kit_is (K : PySem.W.Frag) : PySem.W.kitOne K (.type "int") (.type "str") = some false := by kernel_rfl
theorem kit_ss (K : PySem.W.Frag) : PySem.W.kitOne K (.type "str") (.type "str") = some true := by kernel_rfl
theorem kit_ii (K : PySem.W.Frag) : PySem.W.kitOne K (.type "int") (.type "int") = some true := by kernel_rfl
theorem kit_ib (K : PySem.W.Frag) : PySem.W.kitOne K (.type "int") (.type "bool") = some false := by kernel_rfl
theorem kita_n (K : PySem.W.Frag) : PySem.W.kitAny K (.type "NoneType") [.type "list", .type "tuple"] = some false := by unfold PySem.W.kitAny; rw [kit_nl]; unfold PySem.W.kitAny; rw [kit_nt]; rfl
theorem kita_i (K : PySem.W.Frag) : PySem.W.kitAny K (.type "int") [.type "list", .type "tuple"] = some false := by unfold PySem.W.kitAny; rw [kit_il]; unfold PySem.W.kitAny; rw [kit_it]; rfl
theorem kita_s (K : PySem.W.Frag) : PySem.W.kitAny K (.type "str") [.type "list", .type "tuple"] = some false := by unfold PySem.W.kitAny; rw [kit_sl]; unfold PySem.W.kitAny; rw [kit_st]; rfl
theorem kita_l (K : PySem.W.Frag) : PySem.W.kitAny K (.type "list") [.type "list", .type "tuple"] = some true := by unfold PySem.W.kitAny; rw [kit_ll]
theorem kita_t (K : PySem.W.Frag) : PySem.W.kitAny K (.type "tuple") [.type "list", .type "tuple"] = some true := by unfold PySem.W.kitAny; rw [kit_tl]; unfold PySem.W.kitAny; rw [kit_tt]

theorem eqv_nil (ds : List PyData) : PyData.eqv (.list ds) (.list []) = ds.isEmpty := by
  cases ds <;> simp [PyData.eqv, PyData.eqvAll]

/-! ### _law_stays_so: two that hold the same data -/
def spStays : Sp := fun vs H Q _ => ∃ (v v' : V) (d : PyData), vs = [v, v'] ∧ Rep H v d ∧ Rep H v' d ∧ okD 10 d = true ∧ wgt d ≤ 100000 ∧ ∀ H', Same H H' → Q (.bl true) H'
theorem last_snoc {α : Type} (xs : List α) (x : α) : (xs ++ [x])[(xs ++ [x]).length - 1]? = some x := by simp
theorem line100k {n : Nat} (h : n ≤ 100001) : n ≤ sizeLine := Nat.le_trans h (by decide)

section
variable {P : Program} {w : World} {K : PySem.W.Frag} {mg : Str → Option Value} {base : Heap} {f : Addr} {fd : FuncData}
theorem scSt : FnScope ["_law_handed", "_law_own", "_law_left", "_law_right", "_law_one", "_law_two"] ["_law_handed", "_law_own"] (defScope sStays) := ⟨rfl, rfl, rfl, by decide +kernel, rfl, by decide +kernel, by decide +kernel⟩
/-- the two stacks between two turns: W by the data's weight -/
structure Stk (H : Hp) (l r : Addr) (v v' : V) (m : Nat) (σ : L2.St) (H2 : Hp) : Prop where
  ex : ∃ ds xs ys o1 o2, σ = [some v, some v', some (.ref l), some (.ref r), o1, o2] ∧ H2 l = some (.lst xs) ∧ H2 r = some (.lst ys) ∧ Reps H xs ds ∧ Reps H ys ds ∧ (∀ d ∈ ds, okD 10 d = true) ∧ wgts ds = m
  sm : Same H H2
  le : m ≤ 100000
theorem ok_stays (F : Fun K "_law_stays_so" "_law_stays_so" sStays f fd) (T : Txt K mg) : FnOk P w K mg base CX0 1 f fd ["_law_handed", "_law_own"] spStays := by
  refine F.ok scSt (fun vs H Q E h => ?_) (fun cdv A outer s H vs Q E hr h => ?_)
  · obtain ⟨v, v', d, rfl, _⟩ := h
    rfl
  obtain ⟨v, v', d, rfl, hv, hv', hok, hw, q⟩ := h
  refine ⟨_, (pss_cons (ps_set (i := 2) scSt.nd rfl (Or.inl rfl) (pe_lst (pa_cons (pv 0) pa_nil)))
    (pss_cons (ps_set (i := 3) scSt.nd rfl (Or.inl rfl) (pe_lst (pa_cons (pv 1) pa_nil)))
    (pss_cons (ps_while PassesOwn.never (pt_cmpR (op_neD hr.units) (pv 3) (pe_lst pa_nil) (nomark _))
      (pss_cons (ps_set (i := 4) scSt.nd rfl (Or.inl rfl) (pe_bm0 PySem.F.plainAttrs_list PySem.F.slot_list_pop PySem.F.type_list_pop mt_pop (pv 2)))
      (pss_cons (ps_set (i := 5) scSt.nd rfl (Or.inl rfl) (pe_bm0 PySem.F.plainAttrs_list PySem.F.slot_list_pop PySem.F.type_list_pop mt_pop (pv 3)))
      (pss_one (ps_if (pt_val (pe_callB call_isinstT rfl T.isin boot_isinstance (pa_cons (pv 5) (pa_cons (pe_tup (pa_cons (pe_ty rfl T.list boot_list) (pa_cons (pe_ty rfl T.tuple boot_tuple) pa_nil))) pa_nil))))
        (pss_cons (ps_if (pt_cmpR op_ne (pe_callB call_isinst rfl T.isin boot_isinstance (pa_cons (pv 4) (pa_cons (pe_ty rfl T.list boot_list) pa_nil))) (pe_callB call_isinst rfl T.isin boot_isinstance (pa_cons (pv 5) (pa_cons (pe_ty rfl T.list boot_list) pa_nil))) (nomark _)) (pss_one (ps_ret pe_bl)) pss_nil)
        (pss_cons (ps_if (PW.pt (pw_or (pt_cmpR op_ne (pe_callB call_isinst rfl T.isin boot_isinstance (pa_cons (pv 4) (pa_cons (pe_ty rfl T.tuple boot_tuple) pa_nil))) (pe_callB call_isinst rfl T.isin boot_isinstance (pa_cons (pv 5) (pa_cons (pe_ty rfl T.tuple boot_tuple) pa_nil))) (nomark _))
            (pw_or1 (pt_cmpR op_ne (pe_callB call_len_seq rfl T.len PySem.boot_len (pa_cons (pv 4) pa_nil)) (pe_callB call_len_seq rfl T.len PySem.boot_len (pa_cons (pv 5) pa_nil)) (nomark _))))) (pss_one (ps_ret pe_bl)) pss_nil)
        (pss_cons (ps_expr (pe_bm PySem.F.plainAttrs_list PySem.F.slot_list_extend PySem.F.type_list_extend mt_extend (pv 2) (pa_cons (pe_callTy call_list_of rfl T.list boot_list (pa_cons (pv 4) pa_nil)) pa_nil)))
        (pss_one (ps_expr (pe_bm PySem.F.plainAttrs_list PySem.F.slot_list_extend PySem.F.type_list_extend mt_extend (pv 3) (pa_cons (pe_callTy call_list_of rfl T.list boot_list (pa_cons (pv 5) pa_nil)) pa_nil)))))))
        (pss_one (ps_if (pt_val (pe_callB call_isinst rfl T.isin boot_isinstance (pa_cons (pv 5) (pa_cons (pe_ty rfl T.str boot_str) pa_nil))))
          (pss_one (ps_if (PW.pt (pw_or (pt_not (pt_val (pe_callB call_isinst rfl T.isin boot_isinstance (pa_cons (pv 4) (pa_cons (pe_ty rfl T.str boot_str) pa_nil))))) (pw_or1 (pt_cmpR op_ne (pv 4) (pv 5) (nomark _))))) (pss_one (ps_ret pe_bl)) pss_nil))
          (pss_one (ps_if (pt_cmp (pc_isN (pv 5)))
            (pss_one (ps_if (pt_cmp (pc_notN (pv 4))) (pss_one (ps_ret pe_bl)) pss_nil))
            (pss_one (ps_if (PW.pt (pw_or (pt_not (pt_val (pe_callB call_isinst rfl T.isin boot_isinstance (pa_cons (pv 4) (pa_cons (pe_ty rfl T.int boot_int) pa_nil)))))
              (pw_or (pt_val (pe_callB call_isinst rfl T.isin boot_isinstance (pa_cons (pv 4) (pa_cons (pe_ty rfl T.bool boot_bool) pa_nil)))) (pw_or1 (pt_cmpR op_ne (pv 4) (pv 5) (nomark _)))))) (pss_one (ps_ret pe_bl)) pss_nil)))))))))))
    (pss_one (ps_ret pe_bl))))), ?_⟩
  -- left = [handed]; right = [own]
  refine ⟨_, rfl, (by show 1 ≤ sizeLine; decide), fun l hl => ⟨_, rfl, (by show 1 ≤ sizeLine; decide), fun r hr' => ?_⟩⟩
  have nlr : l ≠ r := ne_of_none (o := .lst [v]) upd_same hr'
  have s1 : Same H (upd H l (.lst [v])) := same_new hl _
  have hrH : H r = none := s1.free hr'
  refine ⟨Stk H l r v v', ⟨wgt d, ⟨[d], [v], [v'], none, none, rfl, by rw [upd_ne nlr]; exact upd_same, upd_same, .cons hv .nil, .cons hv' .nil, by simpa using hok, wgts_one d⟩, s1.trans (same_new hr' _), hw⟩, ?_⟩
  rintro m σ H2 ⟨⟨ds, xs, ys, o1, o2, rfl, h2l, h2r, rx, ry, hds, hm⟩, sm, hle⟩
  -- while right != []
  refine ⟨_, rfl, (by show 0 ≤ sizeLine; decide), fun e he => ?_⟩
  have s3 : Same H2 (upd H2 e (.lst [])) := same_new he _
  have nel : e ≠ l := Ne.symm (ne_of_none h2l he)
  have ner : e ≠ r := Ne.symm (ne_of_none h2r he)
  have okl : okD 11 (.list ds) = true := by
    rw [okD, List.all_eq_true]
    exact hds
  refine ⟨.list ds, .list [], .lst (s3 _ _ h2r) (Reps.same (sm.trans s3) ry), .lst upd_same .nil, okD_shaped okl (by decide), rfl, _, rfl, ?_⟩
  rw [eqv_nil]
  by_cases hnil : ds = []
  · subst hnil
    exact iteF (q _ (sm.trans s3))
  obtain ⟨ds', c, rfl⟩ : ∃ ds' c, ds = ds' ++ [c] := ⟨ds.dropLast, ds.getLast hnil, (List.dropLast_concat_getLast hnil).symm⟩
  have hem : (ds' ++ [c]).isEmpty = false := by simp
  rw [hem]
  refine iteT ?_
  obtain ⟨xs', x, rfl, rx', rxc⟩ := rx.snoc_inv
  obtain ⟨ys', y, rfl, ry', ryc⟩ := ry.snoc_inv
  have hw2 : wgts ds' + wgt c = m := by rw [← hm, wgts_append, wgts_one]
  have hlx := rx'.length
  have hly := ry'.length
  have hln := wgts_length ds'
  have hcp := wgt_pos c
  refine ⟨fun σ' H' => ∃ m', m' < m ∧ Stk H l r v v' m' σ' H', fun _ _ z => z, ?_⟩
  -- one = left.pop(); two = right.pop()
  refine ⟨_, rfl, .inl ⟨rfl, _, SqL.of (s3 _ _ h2l)⟩, l, _, x, rfl, rfl, s3 _ _ h2l, last_snoc _ _, ?_⟩
  have s4 : Same H (upd (upd H2 e (.lst [])) l (.lst (xs' ++ [x]).dropLast)) := Same.upd (sm.trans s3) hl
  have h4r : upd (upd H2 e (.lst [])) l (.lst (xs' ++ [x]).dropLast) r = some (.lst (ys' ++ [y])) := by
    rw [upd_ne (Ne.symm nlr), upd_ne (Ne.symm ner)]
    exact h2r
  refine ⟨_, rfl, .inl ⟨rfl, _, SqL.of h4r⟩, r, _, y, rfl, rfl, h4r, last_snoc _ _, ?_⟩
  rw [List.dropLast_concat, List.dropLast_concat]
  generalize hH5 : upd (upd (upd H2 e (.lst [])) l (.lst xs')) r (.lst ys') = H5
  have s5 : Same H H5 := by
    rw [← hH5]
    rw [List.dropLast_concat] at s4
    exact Same.upd s4 hrH
  have h5l : H5 l = some (.lst xs') := by rw [← hH5, upd_ne nlr]; exact upd_same
  have h5r : H5 r = some (.lst ys') := by rw [← hH5]; exact upd_same
  have tyx := rep_ty (K := K) (rxc.same s5)
  have tyy := rep_ty (K := K) (ryc.same s5)
  have hdc : okD 10 c = true := hds c (by simp)
  have fin : ∀ {H6 : Hp}, Same H5 H6 → ∃ m', m' < m ∧ Stk H l r v v' m' [some v, some v', some (.ref l), some (.ref r), some x, some y] H6 := fun {H6} s6 =>
    ⟨wgts ds', by omega, ⟨ds', xs', ys', _, _, rfl, s6 _ _ h5l, s6 _ _ h5r, rx', ry', fun d hd => hds d (by simp [hd]), rfl⟩, s5.trans s6, by omega⟩
  -- isinstance(two, (list, tuple))
  refine ⟨_, rfl, (by show 2 ≤ sizeLine; decide), fun tp htp => ?_⟩
  have s6 : Same H5 (upd H5 tp (.tup [.ty "list", .ty "tuple"])) := same_new htp _
  generalize hH6 : upd H5 tp (.tup [.ty "list", .ty "tuple"]) = H6 at s6
  have h6t : H6 tp = some (.tup (["list", "tuple"].map V.ty)) := by rw [← hH6]; exact upd_same
  have rx6 := rxc.same (s5.trans s6)
  have ry6 := ryc.same (s5.trans s6)
  have tx6 := rep_ty (K := K) rx6
  have ty6 := rep_ty (K := K) ry6
  cases hc : c with
  | bool b => rw [hc] at hdc; simp [okD] at hdc
  | dict kvs => rw [hc] at hdc; simp [okD] at hdc
  | none =>
    rw [hc] at tx6 ty6 rx6 ry6
    refine ⟨y, tp, ["list", "tuple"], _, _, rfl, h6t, ty6, (fun C z => nomatch z), kita_n K, _, rfl, iteF ?_⟩
    refine ⟨_, rfl, y, _, _, _, rfl, ty6, kit_ns K, _, rfl, iteF ?_⟩
    cases ry6
    cases rx6
    refine ⟨_, rfl, _, rfl, iteT ?_⟩
    refine ⟨_, rfl, _, rfl, iteF ?_⟩
    exact fin s6
  | int i =>
    rw [hc] at tx6 ty6 rx6 ry6
    refine ⟨y, tp, ["list", "tuple"], _, _, rfl, h6t, ty6, (fun C z => nomatch z), kita_i K, _, rfl, iteF ?_⟩
    refine ⟨_, rfl, y, _, _, _, rfl, ty6, kit_is K, _, rfl, iteF ?_⟩
    cases ry6
    cases rx6
    refine ⟨_, rfl, _, rfl, iteF ?_⟩
    refine ⟨_, rfl, _, _, _, _, rfl, tx6, kit_ii K, _, rfl, iteF ?_⟩
    refine ⟨_, rfl, _, _, _, _, rfl, tx6, kit_ib K, _, rfl, iteF ?_⟩
    refine ⟨_, rfl, _, rfl, rfl, _, rfl, iteNS rfl ?_⟩
    exact fin s6
  | str z =>
    rw [hc] at tx6 ty6 rx6 ry6
    refine ⟨y, tp, ["list", "tuple"], _, _, rfl, h6t, ty6, (fun C z => nomatch z), kita_s K, _, rfl, iteF ?_⟩
    refine ⟨_, rfl, y, _, _, _, rfl, ty6, kit_ss K, _, rfl, iteT ?_⟩
    cases ry6
    cases rx6
    refine ⟨_, rfl, _, _, _, _, rfl, tx6, kit_ss K, _, rfl, iteF ?_⟩
    refine ⟨_, rfl, _, rfl, rfl, _, rfl, iteNS rfl ?_⟩
    exact fin s6
  | list cs =>
    rw [hc] at tx6 ty6 rxc ryc
    have hwc : wgts cs + 1 = wgt c := by rw [hc]; simp [wgt]
    have hcs : ∀ d ∈ cs, okD 10 d = true := by
      rw [hc, okD, List.all_eq_true] at hdc
      exact fun d hd => okD_mono 9 d 10 (by decide) (hdc d hd)
    have hlc := wgts_length cs
    cases rxc with
    | @lst xa x1 _ hx q1 =>
    cases ryc with
    | @lst ya y1 _ hy q2 =>
    have e1 := q1.length
    have e2 := q2.length
    refine ⟨_, tp, ["list", "tuple"], _, _, rfl, h6t, ty6, (fun C z => nomatch z), kita_l K, _, rfl, iteT ?_⟩
    refine ⟨_, rfl, _, _, _, _, rfl, tx6, kit_ll K, _, rfl, _, _, _, _, rfl, ty6, kit_ll K, rfl, _, rfl, iteNS rfl ?_⟩
    have sH6 : Same H H6 := s5.trans s6
    refine ⟨_, rfl, _, _, _, _, rfl, tx6, kit_lt K, _, rfl, _, _, _, _, rfl, ty6, kit_lt K, rfl, _, rfl, iteNS rfl ?_⟩
    refine ⟨_, rfl, xa, _, rfl, .inl (SqL.of (sH6 _ _ hx)), _, rfl, ya, _, rfl, .inl (SqL.of (sH6 _ _ hy)), rfl, _, rfl, iteNS (by rw [e1, e2]) ?_⟩
    -- left.extend(list(one)); right.extend(list(two))
    have h6l := s6 _ _ h5l
    have h6r := s6 _ _ h5r
    refine ⟨_, rfl, .inl ⟨rfl, _, SqL.of h6l⟩, _, rfl, xa, _, rfl, .inl (SqL.of (sH6 _ _ hx)), fun l1 hl1 => ?_⟩
    have s7 : Same H6 (upd H6 l1 (.lst x1)) := same_new hl1 _
    refine ⟨l, l1, xs', x1, rfl, rfl, s7 _ _ h6l, upd_same, line100k (by omega), ?_⟩
    have s8 : Same H (upd (upd H6 l1 (.lst x1)) l (.lst (xs' ++ x1))) := Same.upd (sH6.trans s7) hl
    have h8r : upd (upd H6 l1 (.lst x1)) l (.lst (xs' ++ x1)) r = some (.lst ys') := by
      rw [upd_ne (Ne.symm nlr)]
      exact s7 _ _ h6r
    refine ⟨_, rfl, .inl ⟨rfl, _, SqL.of h8r⟩, _, rfl, ya, _, rfl, .inl (SqL.of (s8 _ _ hy)), fun l2 hl2 => ?_⟩
    have s9 := same_new hl2 (.lst y1)
    refine ⟨r, l2, ys', y1, rfl, rfl, s9 _ _ h8r, upd_same, line100k (by omega), ?_⟩
    refine ⟨wgts (ds' ++ cs), by rw [wgts_append]; omega, ⟨ds' ++ cs, xs' ++ x1, ys' ++ y1, _, _, rfl, ?_, upd_same, rx'.append q1, ry'.append q2, ?_, rfl⟩, Same.upd (s8.trans s9) hrH, by rw [wgts_append]; omega⟩
    · rw [upd_ne nlr]
      exact s9 _ _ upd_same
    · intro d hd
      rcases List.mem_append.mp hd with z | z
      · exact hds d (by simp [z])
      · exact hcs d z
  | tuple cs =>
    rw [hc] at tx6 ty6 rxc ryc
    have hwc : wgts cs + 1 = wgt c := by rw [hc]; simp [wgt]
    have hcs : ∀ d ∈ cs, okD 10 d = true := by
      rw [hc, okD, List.all_eq_true] at hdc
      exact fun d hd => okD_mono 9 d 10 (by decide) (hdc d hd)
    have hlc := wgts_length cs
    cases rxc with
    | @tup xa x1 _ hx q1 =>
    cases ryc with
    | @tup ya y1 _ hy q2 =>
    have e1 := q1.length
    have e2 := q2.length
    refine ⟨_, tp, ["list", "tuple"], _, _, rfl, h6t, ty6, (fun C z => nomatch z), kita_t K, _, rfl, iteT ?_⟩
    refine ⟨_, rfl, _, _, _, _, rfl, tx6, kit_tl K, _, rfl, _, _, _, _, rfl, ty6, kit_tl K, rfl, _, rfl, iteNS rfl ?_⟩
    have sH6 : Same H H6 := s5.trans s6
    refine ⟨_, rfl, _, _, _, _, rfl, tx6, kit_tt K, _, rfl, _, _, _, _, rfl, ty6, kit_tt K, rfl, _, rfl, iteNS rfl ?_⟩
    refine ⟨_, rfl, xa, _, rfl, .inr (SqT.of (sH6 _ _ hx)), _, rfl, ya, _, rfl, .inr (SqT.of (sH6 _ _ hy)), rfl, _, rfl, iteNS (by rw [e1, e2]) ?_⟩
    -- left.extend(list(one)); right.extend(list(two))
    have h6l := s6 _ _ h5l
    have h6r := s6 _ _ h5r
    refine ⟨_, rfl, .inl ⟨rfl, _, SqL.of h6l⟩, _, rfl, xa, _, rfl, .inr (SqT.of (sH6 _ _ hx)), fun l1 hl1 => ?_⟩
    have s7 : Same H6 (upd H6 l1 (.lst x1)) := same_new hl1 _
    refine ⟨l, l1, xs', x1, rfl, rfl, s7 _ _ h6l, upd_same, line100k (by omega), ?_⟩
    have s8 : Same H (upd (upd H6 l1 (.lst x1)) l (.lst (xs' ++ x1))) := Same.upd (sH6.trans s7) hl
    have h8r : upd (upd H6 l1 (.lst x1)) l (.lst (xs' ++ x1)) r = some (.lst ys') := by
      rw [upd_ne (Ne.symm nlr)]
      exact s7 _ _ h6r
    refine ⟨_, rfl, .inl ⟨rfl, _, SqL.of h8r⟩, _, rfl, ya, _, rfl, .inr (SqT.of (s8 _ _ hy)), fun l2 hl2 => ?_⟩
    have s9 := same_new hl2 (.lst y1)
    refine ⟨r, l2, ys', y1, rfl, rfl, s9 _ _ h8r, upd_same, line100k (by omega), ?_⟩
    refine ⟨wgts (ds' ++ cs), by rw [wgts_append]; omega, ⟨ds' ++ cs, xs' ++ x1, ys' ++ y1, _, _, rfl, ?_, upd_same, rx'.append q1, ry'.append q2, ?_, rfl⟩, Same.upd (s8.trans s9) hrH, by rw [wgts_append]; omega⟩
    · rw [upd_ne nlr]
      exact s9 _ _ upd_same
    · intro d hd
      rcases List.mem_append.mp hd with z | z
      · exact hds d (by simp [z])
      · exact hcs d z
end
end FB

namespace L2
open PySem PyProof.Rows
def rListOf (K : PySem.W.Frag) : List V → Hp → VK → Prop := fun xs H Q => ∃ p ys, xs = [.ref p] ∧ (SqL K H p ys ∨ SqT K H p ys) ∧ ∀ l, H l = none → Q (.ref l) (upd H l (.lst ys))
theorem call_listK {X : Cx} : CallR X (.type "list") (rListOf X.K) := call_list_of
theorem yes {σ : L2.St} {H : Hp} {Q : Bool → Hp → Prop} (h : Q true H) : tYes σ H Q := h
end L2
namespace FB
open PySem L2 PyProof.Rows
seal PSs PS PE PT PA
theorem nd_mx : (["_law_k", "_law_script"] : List Str).Nodup := by decide +kernel
theorem nd_cp : (["_law_entry"] : List Str).Nodup := by decide +kernel

def spMixed (K : PySem.W.Frag) : Sp := fun vs H Q _ => ∃ (a : Addr) (ns : List Int), vs = [.ref a] ∧ SqL K H a (ns.map V.int) ∧ ns.length ≤ 1000 ∧ ∀ p (ms : List Int) H', Same H H' → H' p = some (.lst (ms.map V.int)) → ms.length = ns.length → Q (.ref p) H'
def spCopy : Sp := fun vs H Q _ => ∃ (a : Addr) (es : List En), vs = [.ref a] ∧ ShAt H a es ∧ es.length ≤ 1000 ∧ ∀ p H', Same H H' → ShAt H' p es → Q (.ref p) H'
def spNewest (K : PySem.W.Frag) : Sp := fun vs H Q _ => ∃ (a : Addr) (v : V) (es : List En) (n : Nd), vs = [.ref a, v] ∧ ShAt H a es ∧ NdAt H v n ∧ es.length < 64 ∧
  ∀ p (ms : List Int) H', Same H H' → H' p = some (.lst (ms.map V.int)) → ms.Perm (metOf es n) → ms.Pairwise (· ≤ ·) → ∀ p', H' p' = none → Q (.ref p') (upd H' p' (.lst (ms.map V.int).reverse))

section
variable {P : Program} {w : World} {K : PySem.W.Frag} {mg : Str → Option Value} {base : Heap} {f : Addr} {fd : FuncData}
theorem scMx : FnScope ["_law_script"] ["_law_script"] (defScope sMixed) := ⟨rfl, rfl, rfl, by decide +kernel, rfl, by decide +kernel, by decide +kernel⟩
theorem ok_mixed (F : Fun K "_law_mixed" "_law_mixed" sMixed f fd) (T : Txt K mg) : FnOk P w K mg base CX0 1 f fd ["_law_script"] (spMixed K) := by
  refine F.ok scMx (fun vs H Q E h => ?_) (fun cdv A outer s H vs Q E hr h => ?_)
  · obtain ⟨a, ns, rfl, _⟩ := h
    rfl
  obtain ⟨a, ns, rfl, hS, hl, q⟩ := h
  refine ⟨_, pss_one (ps_ret (pe_comp (N' := ["_law_k", "_law_script"]) (n := 1) (js := [0]) rfl (CompS.one (c := s.heap.objs.size + 1) (y := "_law_script") rfl rfl (by decide +kernel) rfl (by decide +kernel) (by decide +kernel) rfl rfl rfl rfl rfl) (gk_name (by decide))
    (pi_range1 rfl T.range (pa_cons (pe_callB call_len_seq rfl T.len PySem.boot_len (pa_cons (pv 0) pa_nil)) pa_nil))
    (fun C s2 H2 fp => pg_name (i := 0) nd_mx rfl (Or.inl rfl)) (fun C s2 H2 fp => pts_nil)
    (fun C s2 H2 fp => pe_op op_mod (pe_op op_mul (pe_op op_add (pe_ix (r := rIxL K) ix_list (pv 1) (pv 0) (fun _ _ => rfl)) (pe_op op_mul pe_int (pv 0))) pe_int) pe_int))), ?_⟩
  have hlm : (ns.map V.int).length = ns.length := List.length_map _
  refine ⟨_, rfl, a, _, rfl, .inl hS, _, rfl, by rw [hlm]; omega, by rw [hlm]; omega, ?_⟩
  refine comp_range (fun D i ys H2 => ∃ ms : List Int, ys = ms.map V.int ∧ ms.length = i ∧ H2 D = some (.lst ys) ∧ Same H H2 ∧ H D = none) (fun D hD => ⟨[], rfl, rfl, upd_same, same_new hD _, hD⟩) (fun D i ys H2 hi ⟨ms, e1, e2, e3, e4, _⟩ => ⟨e3, ?_⟩) (fun D i ys H2 hi ⟨ms, e1, e2, e3, e4, e5⟩ => ?_) (fun D ys H2 ⟨ms, e1, e2, e3, e4, _⟩ => ?_)
  · rw [e1, List.length_map]
    exact small1000 (by rw [hlm] at hi; omega)
  · have hin : ((i : Nat) : Int) < (ns.length : Int) := by rw [hlm] at hi; omega
    obtain ⟨z, hz, _⟩ := at_ints (ns := ns) (i := 0 + (i : Int)) (by omega) (by omega)
    unfold gName tYes
    dsimp only
    rw [if_pos rfl]
    refine ⟨_, rfl, _, rfl, a, _, _, _, rfl, rfl, e4.seq hS, hz, _, rfl, _, _, rfl, rfl, .inl ⟨by decide, by decide⟩, _, _, rfl, rfl, _, _, rfl, rfl, .inr ⟨by decide, by decide⟩, _, _, rfl, rfl, (by show (0 : Int) < 1000003; decide), e3, ?_⟩
    exact ⟨ms ++ [_], by rw [e1, List.map_append]; rfl, by rw [List.length_append, e2]; rfl, upd_same, Same.upd e4 e5, e5⟩
  · exact q D ms H2 e4 (e1 ▸ e3) (by rw [e2, Int.toNat_natCast, hlm])

theorem scCp : FnScope ["_law_shelf"] ["_law_shelf"] (defScope sCopy) := ⟨rfl, rfl, rfl, by decide +kernel, rfl, by decide +kernel, by decide +kernel⟩
theorem ok_copy (F : Fun K "_law_copy_of" "_law_copy_of" sCopy f fd) (T : Txt K mg) : FnOk P w K mg base CX0 1 f fd ["_law_shelf"] spCopy := by
  refine F.ok scCp (fun vs H Q E h => ?_) (fun cdv A outer s H vs Q E hr h => ?_)
  · obtain ⟨a, es, rfl, _⟩ := h
    rfl
  obtain ⟨a, es, rfl, ⟨xs, hx, hp⟩, hl, q⟩ := h
  refine ⟨_, pss_one (ps_ret (pe_comp (N' := ["_law_entry"]) (n := 1) (js := []) rfl (CompS.closed (by decide +kernel) (by decide +kernel) rfl (by decide +kernel) rfl) (gk_name (by decide)) (pi_list (pv 0))
    (fun C s2 H2 fp => pg_name (i := 0) nd_cp rfl (Or.inl rfl)) (fun C s2 H2 fp => pts_nil)
    (fun C s2 H2 fp => pe_tup (pa_cons (pe_ix (r := rIxT K) ix_tup (pv 0) pe_int (fun _ _ => rfl)) (pa_cons (pe_ix (r := rIxT K) ix_tup (pv 0) pe_int (fun _ _ => rfl)) (pa_cons (pe_callTy (r := rListOf K) call_listK rfl T.list boot_list (pa_cons (pe_ix (r := rIxT K) ix_tup (pv 0) pe_int (fun _ _ => rfl)) pa_nil)) pa_nil)))))), ?_⟩
  have lx : xs.length = es.length := Paired.length hp
  refine ⟨_, rfl, a, rfl, ⟨xs, SqL.of hx⟩, ?_⟩
  refine comp_list (xs := xs) (fun D i ys H2 => Paired (EnAt (del H2 [D])) ys (es.take i) ∧ H2 D = some (.lst ys) ∧ Same H H2 ∧ H D = none) (fun D hD => ⟨by simpa using Paired.nil, upd_same, same_new hD _, hD⟩)
    (fun D i ys H2 hi ⟨e1, e2, e3, _⟩ => ⟨SqL.of (e3 _ _ hx), e2, ?_⟩) (fun D i x ys H2 hi ⟨e1, e2, e3, e4⟩ => ?_) (fun D ys H2 ⟨e1, e2, e3, e4⟩ => ?_)
  · rw [Paired.length e1, List.length_take]
    exact small1000 (by omega)
  · obtain ⟨e, he, q0, na, zs, rfl, h1, h2, h3⟩ := Paired.getR hp hi
    have g1 := e3 _ _ h1
    have g2 := e3 _ _ h2
    unfold gName tYes
    dsimp only
    rw [if_pos rfl]
    refine ⟨_, rfl, q0, _, _, _, rfl, rfl, SqT.of g1, rfl, _, rfl, q0, _, _, _, rfl, rfl, SqT.of g1, rfl, _, rfl, q0, _, _, _, rfl, rfl, SqT.of g1, rfl, na, _, rfl, .inl (SqL.of g2), fun l1 hl1 => ?_⟩
    have s1 : Same H2 (upd H2 l1 (.lst zs)) := same_new hl1 _
    refine ⟨(by show 3 ≤ sizeLine; decide), fun t1 ht1 => ?_⟩
    have s2 := s1.trans (same_new ht1 (.tup [.str e.1, .int e.2.1, .ref l1]))
    have nD1 : l1 ≠ D := Ne.symm (ne_of_none e2 hl1)
    have nD2 : t1 ≠ D := Ne.symm (ne_of_none (s1 _ _ e2) ht1)
    refine ⟨s2 _ _ e2, ?_, upd_same, Same.upd (e3.trans s2) e4, e4⟩
    have ht : es.take (i + 1) = es.take i ++ [e] := by rw [List.take_succ, he]; rfl
    rw [ht, del_upd (by simp)]
    refine Paired.snoc (Paired.mapP e1 fun _ _ z => EnAt.same (Same.del s2 [D]) z) ⟨t1, l1, zs, rfl, ?_, ?_, ?_⟩
    · rw [del_out (by simpa using nD2)]
      exact upd_same
    · rw [del_out (by simpa using nD1), upd_ne (Ne.symm (ne_of_none (o := .lst zs) upd_same ht1).symm)]
      exact upd_same
    · refine Paired.mapP h3 fun v n z => ?_
      obtain ⟨q1, hq1, hq2⟩ := z
      have hq3 := e3 _ _ hq2
      refine ⟨q1, hq1, ?_⟩
      rw [del_out (by simpa using ne_of hq3 e2 (by intro z; cases z))]
      exact s2 _ _ hq3
  · rw [lx, List.take_length] at e1
    exact q D H2 e3 ⟨ys, e2, Paired.mapP e1 fun _ _ z => EnAt.same (same_del _ _) z⟩

theorem scNw : FnScope ["_law_shelf", "_law_need", "_law_found", "_law_entry"] ["_law_shelf", "_law_need"] (defScope sNewest) := ⟨rfl, rfl, rfl, by decide +kernel, rfl, by decide +kernel, by decide +kernel⟩
theorem ok_newest {g : Addr} {gd : FuncData} (F : Fun K "_law_newest" "_law_newest" sNewest f fd) (T : Txt K mg) (G : FnOk P w K mg base CX0 1 g gd ["_law_need", "_law_version"] (spLMeets K)) (bG : Binds K gd ["_law_need", "_law_version"] []) (kG : PySem.W.keepIn K (.ref g) = true) (mG : mg "_law_meets" = some (.ref g)) :
    FnOk P w K mg base CX0 2 f fd ["_law_shelf", "_law_need"] (spNewest K) := by
  refine F.ok scNw (fun vs H Q E h => ?_) (fun cdv A outer s H vs Q E hr h => ?_)
  · obtain ⟨a, v, es, n, rfl, _⟩ := h
    rfl
  obtain ⟨a, v, es, n, rfl, ⟨xs, hx, hp⟩, hn, hl, q⟩ := h
  refine ⟨_, (pss_cons (ps_set (i := 2) scNw.nd rfl (Or.inl rfl) (pe_lst pa_nil))
    (pss_cons (ps_for PassesOwn.never rfl (pi_list (pv 0)) (pg_name (i := 3) scNw.nd rfl (Or.inl rfl))
      (pss_one (ps_if (PW.pt (pw_and (pt_cmpR op_eq (pe_ix ix_tup (pv 3) pe_int (fun _ _ => rfl)) (pe_ix ix_tup (pv 1) pe_int (fun _ _ => rfl)) (nomark _)) (pw_and1 (pt_val (pe_call G hr rfl mG kG bG .nil pass0 (pa_cons (pv 1) (pa_cons (pe_ix ix_tup (pv 3) pe_int (fun _ _ => rfl)) pa_nil)))))))
        (pss_one (ps_expr (pe_bm PySem.F.plainAttrs_list PySem.F.slot_list_append PySem.F.type_list_append mt_append (pv 2) (pa_cons (pe_ix ix_tup (pv 3) pe_int (fun _ _ => rfl)) pa_nil)))) pss_nil)))
    (pss_one (ps_ret (pe_revL rfl rfl T.list rfl T.rev (pe_callB call_sorted rfl T.sorted boot_sorted (pa_cons (pv 2) pa_nil))))))), ?_⟩
  have lx : xs.length = es.length := Paired.length hp
  obtain ⟨nq, rfl, hnq⟩ := hn
  refine ⟨(by show 0 ≤ sizeLine; decide), fun fo hfo => ?_⟩
  refine ⟨_, rfl, a, rfl, ⟨xs, SqL.of (same_new hfo _ _ _ hx)⟩, for_list (K := K) (a := a) (xs := xs) (fun i σ H2 => ∃ e, σ = [some (.ref a), some (.ref nq), some (.ref fo), e] ∧ Same H H2 ∧ H2 fo = some (.lst ((metOf (es.take i) n).map V.int)))
    ⟨none, rfl, same_new hfo _, by simpa [metOf] using upd_same⟩ (fun i σ H2 _ ⟨_, _, s2, _⟩ => SqL.of (s2 _ _ hx)) ?_ ?_⟩
  · rintro i x σ H2 hi ⟨o, rfl, s2, h2⟩
    obtain ⟨e, he, q0, na, zs, rfl, h3, h4, h5⟩ := Paired.getR hp hi
    have g1 := s2 _ _ h3
    have gn := s2 _ _ hnq
    have ht : es.take (i + 1) = es.take i ++ [e] := by rw [List.take_succ, he]; rfl
    have hsn := metOf_snoc (es.take i) e n
    rw [← ht] at hsn
    refine ⟨_, rfl, q0, _, _, _, rfl, rfl, SqT.of g1, rfl, _, rfl, nq, _, _, _, rfl, rfl, SqT.of gn, rfl, rfl, _, rfl, ?_⟩
    rw [dec_str_iff]
    refine ite2 (fun c => ?_) (fun c => ?_)
    · refine ⟨_, rfl, _, rfl, q0, _, _, _, rfl, rfl, SqT.of g1, rfl, .ref nq, n, e.2.1, rfl, ⟨nq, rfl, gn⟩, _, rfl, ?_⟩
      refine ite2 (fun c2 => ?_) (fun c2 => ?_)
      · have hm : meetsB n e = true := by unfold meetsB; rw [c, c2]; rfl
        rw [if_pos hm] at hsn
        refine ⟨_, rfl, .inl ⟨rfl, _, SqL.of h2⟩, _, rfl, q0, _, _, _, rfl, rfl, SqT.of g1, rfl, fo, _, _, rfl, rfl, h2, ?_, ?_⟩
        · rw [List.length_map]
          have := metOf_length (es.take i) n
          rw [List.length_take] at this
          exact small1000 (by omega)
        · refine ⟨_, rfl, Same.upd s2 hfo, ?_⟩
          rw [upd_same, hsn, List.map_append]
          rfl
      · have hm : ¬ meetsB n e = true := by unfold meetsB; rw [c, Bool.true_and]; exact c2
        rw [if_neg hm] at hsn
        exact ⟨_, rfl, s2, by rw [hsn]; exact h2⟩
    · have hm : ¬ meetsB n e = true := by unfold meetsB; rw [Bool.eq_false_iff.mpr c]; simp
      rw [if_neg hm] at hsn
      exact iteF ⟨_, rfl, s2, by rw [hsn]; exact h2⟩
  · rintro σ H2 ⟨o, rfl, s2, h2⟩
    rw [lx, List.take_length] at h2
    have hml := metOf_length es n
    refine ⟨_, rfl, fo, _, rfl, SqL.of h2, by omega, fun p ms hp1 hpm hps => ?_⟩
    refine ⟨p, _, rfl, SqL.of upd_same, fun p' hp' => ?_⟩
    exact q p ms _ (s2.trans (same_new hp1 _)) upd_same hpm hps p' hp'
end
end FB

namespace FB
open PySem L2 PyProof.Rows
seal PSs PS PE PT PA

theorem eqv_pk (k j : Str × Int) : PyData.eqv (pkD k) (pkD j) = decide (k = j) := by
  obtain ⟨a, b⟩ := k
  obtain ⟨c, d⟩ := j
  have e : PyData.eqv (pkD (a, b)) (pkD (c, d)) = ((a == c) && ((b == d) && true)) := by
    simp [pkD, PyData.eqv, PyData.eqvAll]
  rw [e, Bool.and_true]
  by_cases h1 : a = c
  · subst h1
    by_cases h2 : b = d
    · subst h2
      rw [decide_eq_true rfl]; simp
    · rw [decide_eq_false (fun z => h2 (Prod.mk.inj z).2)]
      simp [h2]
  · rw [decide_eq_false (fun z => h1 (Prod.mk.inj z).1)]
    have b1 : (a == c) = false := beq_false_of_ne h1
    rw [b1, Bool.false_and]
theorem any_pk (k : Str × Int) : ∀ ks : List (Str × Int), ((ks.map pkD).any fun z => PyData.eqv z (pkD k)) = decide (k ∈ ks)
  | [] => by simp
  | j :: ks => by
    rw [List.map_cons, List.any_cons, eqv_pk, any_pk k ks]
    by_cases h : j = k
    · subst h
      simp
    · rw [decide_eq_false h, Bool.false_or]
      have : (k ∈ j :: ks) ↔ k ∈ ks := by
        rw [List.mem_cons]
        exact ⟨fun z => z.resolve_left fun y => h y.symm, .inr⟩
      simp only [this]
theorem pk_lay {k : Str × Int} (h : PartOk k.1) : (pkD k).canLay0 = true ∧ (pkD k).depth ≤ 60 := by
  have z := okD_lay 1 (pkD k) (by simp [pkD, okD, h.ok])
  exact ⟨z.1, by omega⟩
theorem pks_lay : ∀ {ks : List (Str × Int)}, (∀ k ∈ ks, PartOk k.1) → PyData.canLayAll0 (ks.map pkD) = true
  | [], _ => rfl
  | k :: ks, h => by
    rw [List.map_cons, PyData.canLayAll0, (pk_lay (h k (by simp))).1, pks_lay fun j hj => h j (by simp [hj])]
    rfl

/-- the law's own parts -/
def four : List Str := ["ashenashenashen", "as", "", "ashenashxnashen"]
theorem parts4 {v : V} (hv : v ∈ [V.str "as", V.str "ashenashenashen", V.str "ashenashxnashen", V.str ""]) : ∃ x, v = .str x ∧ PartOk x ∧ x ∈ four := by
  simp only [List.mem_cons, List.not_mem_nil, or_false] at hv
  rcases hv with rfl | rfl | rfl | rfl
  · exact ⟨_, rfl, part2, by unfold four; simp⟩
  · exact ⟨_, rfl, part1, by unfold four; simp⟩
  · exact ⟨_, rfl, part4, by unfold four; simp⟩
  · exact ⟨_, rfl, part3, by unfold four; simp⟩
def spShelf (K : PySem.W.Frag) : Sp := fun vs H Q _ => ∃ (a : Addr) (ns : List Int), vs = [.ref a] ∧ SqL K H a (ns.map V.int) ∧ ns.length ≤ 63 ∧
  ∀ p (es : List En) xs H', Same H H' → H p = none → H' p = some (.lst xs) → Paired (EnAt (del H' [p])) xs es → (es.map keyOf).Nodup → (∀ e ∈ es, EnOk e) → es.length ≤ ns.length → (∀ e ∈ es, e.1 ∈ four) → Q (.ref p) H'
/-- the shelf p and the list of what is there, t, behind i cells -/
structure ShI (H : Hp) (a p t : Addr) (i : Nat) (σ : L2.St) (H2 : Hp) : Prop where
  ex : ∃ (es : List En) (xs ys : List V) (o3 o4 o5 o6 o7 o8 : Option V), σ = [some (.ref a), some (.ref p), some (.ref t), o3, o4, o5, o6, o7, o8] ∧ H2 p = some (.lst xs) ∧ H2 t = some (.lst ys) ∧ Paired (EnAt (del H2 [p, t])) xs es ∧ Paired (PkAt (del H2 [p, t])) ys (es.map keyOf) ∧
    (es.map keyOf).Nodup ∧ (∀ e ∈ es, EnOk e ∧ e.1 ∈ four) ∧ es.length ≤ i
  sm : Same H H2
/-- the needs at nd behind j turns; Hb: the heap ahead of their list -/
structure NdI (Hb : Hp) (p t nd : Addr) (σ0 : Option V → L2.St) (j : Nat) (σ : L2.St) (H6 : Hp) : Prop where
  ex : ∃ (zs : List V) (nds : List Nd) (o8 : Option V), σ = σ0 o8 ∧ H6 nd = some (.lst zs) ∧ Paired (NdAt (del H6 [p, t, nd])) zs nds ∧ (∀ n ∈ nds, PartOk n.1) ∧ nds.length ≤ j
  sm : Same Hb H6

section
variable {P : Program} {w : World} {K : PySem.W.Frag} {mg : Str → Option Value} {base : Heap} {f : Addr} {fd : FuncData}
theorem scSh : FnScope ["_law_cells", "_law_shelf", "_law_there", "_law_k", "_law_cell", "_law_part", "_law_pick", "_law_needs", "_law_j"] ["_law_cells"] (defScope sShelf) := ⟨rfl, rfl, rfl, by decide +kernel, rfl, by decide +kernel, by decide +kernel⟩
theorem ok_shelf {g g2 : Addr} {gd gd2 : FuncData} (F : Fun K "_law_shelf_by" "_law_shelf_by" sShelf f fd) (T : Txt K mg) (G : FnOk P w K mg base CX0 1 g gd ["_law_cell"] spVer) (bG : Binds K gd ["_law_cell"] []) (kG : PySem.W.keepIn K (.ref g) = true) (mG : mg "_law_version_by" = some (.ref g))
    (G2 : FnOk P w K mg base CX0 2 g2 gd2 ["_law_cell"] spNeed) (bG2 : Binds K gd2 ["_law_cell"] []) (kG2 : PySem.W.keepIn K (.ref g2) = true) (mG2 : mg "_law_need_by" = some (.ref g2)) :
    FnOk P w K mg base CX0 3 f fd ["_law_cells"] (spShelf K) := by
  refine F.ok scSh (fun vs H Q E h => ?_) (fun cdv A outer s H vs Q E hr h => ?_)
  · obtain ⟨a, ns, rfl, _⟩ := h
    rfl
  obtain ⟨a, ns, rfl, hS, hl, q⟩ := h
  have hr1 : Room 1 _ := hr.mono (by decide)
  refine ⟨_, (pss_cons (ps_set (i := 1) scSh.nd rfl (Or.inl rfl) (pe_lst pa_nil))
    (pss_cons (ps_set (i := 2) scSh.nd rfl (Or.inl rfl) (pe_lst pa_nil))
    (pss_cons (ps_for PassesOwn.never rfl (pi_range1 rfl T.range (pa_cons (pe_callB call_len_seq rfl T.len PySem.boot_len (pa_cons (pv 0) pa_nil)) pa_nil)) (pg_name (i := 3) scSh.nd rfl (Or.inl rfl))
      (pss_cons (ps_set (i := 4) scSh.nd rfl (Or.inl rfl) (pe_ix ix_list (pv 0) (pv 3) (fun _ _ => rfl)))
      (pss_cons (ps_set (i := 5) scSh.nd rfl (Or.inl rfl) (pe_ix ix_list (pe_lst (pa_cons pe_str (pa_cons pe_str (pa_cons pe_str (pa_cons pe_str pa_nil))))) (pe_op op_mod (pe_op op_add (pv 4) (pv 3)) pe_int) (fun _ _ => rfl)))
      (pss_cons (ps_set (i := 6) scSh.nd rfl (Or.inl rfl) (pe_tup (pa_cons (pv 5) (pa_cons (pe_call G hr1 rfl mG kG bG .nil pass0 (pa_cons (pe_op op_add (pe_op op_fdiv (pv 4) pe_int) (pe_op op_fdiv (pv 3) pe_int)) pa_nil)) pa_nil))))
      (pss_cons (ps_set (i := 7) scSh.nd rfl (Or.inl rfl) (pe_lst pa_nil))
      (pss_cons (ps_for PassesOwn.never rfl (pi_range1 rfl T.range (pa_cons (pe_ix ix_list (pe_lst (pa_cons pe_int (pa_cons pe_int (pa_cons pe_int (pa_cons pe_int (pa_cons pe_int (pa_cons pe_int (pa_cons pe_int (pa_cons pe_int (pa_cons pe_int (pa_cons pe_int pa_nil))))))))))) (pe_op op_mod (pe_op op_fdiv (pv 4) pe_int) pe_int) (fun _ _ => rfl)) pa_nil)) (pg_name (i := 8) scSh.nd rfl (Or.inl rfl))
        (pss_one (ps_expr (pe_bm PySem.F.plainAttrs_list PySem.F.slot_list_append PySem.F.type_list_append mt_append (pv 7) (pa_cons (pe_call G2 hr rfl mG2 kG2 bG2 .nil pass0 (pa_cons (pe_op op_add (pe_op op_add (pe_op op_fdiv (pv 4) pe_int) (pe_op op_mul pe_int (pv 8))) (pe_op op_mul pe_int (pv 3))) pa_nil)) pa_nil)))))
      (pss_one (ps_if (pt_cmpR (op_notInD hr.units) (pv 6) (pv 2) (by with_unfolding_all rfl))
        (pss_cons (ps_expr (pe_bm PySem.F.plainAttrs_list PySem.F.slot_list_append PySem.F.type_list_append mt_append (pv 2) (pa_cons (pv 6) pa_nil)))
        (pss_one (ps_expr (pe_bm PySem.F.plainAttrs_list PySem.F.slot_list_append PySem.F.type_list_append mt_append (pv 1) (pa_cons (pe_tup (pa_cons (pe_ix ix_tup (pv 6) pe_int (fun _ _ => rfl)) (pa_cons (pe_ix ix_tup (pv 6) pe_int (fun _ _ => rfl)) (pa_cons (pv 7) pa_nil)))) pa_nil)))))
        pss_nil))))))))
    (pss_one (ps_ret (pv 1)))))), ?_⟩
  have hlm : (ns.map V.int).length = ns.length := List.length_map _
  refine ⟨(by show 0 ≤ sizeLine; decide), fun p hp => ⟨(by show 0 ≤ sizeLine; decide), fun t ht => ?_⟩⟩
  have s1 : Same H (upd H p (.lst [])) := same_new hp _
  have npt : p ≠ t := ne_of_none (o := .lst []) upd_same ht
  have htH : H t = none := s1.free ht
  have s2 : Same H (upd (upd H p (.lst [])) t (.lst [])) := s1.trans (same_new ht _)
  refine ⟨_, rfl, a, _, rfl, .inl (s2.seq hS), _, rfl, by rw [hlm]; omega, by rw [hlm]; omega, ?_⟩
  refine for_range (fun i σ H2 => ShI H a p t i σ H2) ⟨⟨[], [], [], none, none, none, none, none, none, rfl, by rw [upd_ne npt]; exact upd_same, upd_same, .nil, .nil, List.nodup_nil, by simp, Nat.le_refl _⟩, s2⟩ ?_ ?_
  · rintro i σ H2 hi ⟨⟨es, xs, ys, o3, o4, o5, o6, o7, o8, rfl, h2p, h2t, hes, hys, hnd, hok, hlen⟩, sm⟩
    have hin : ((i : Nat) : Int) < (ns.length : Int) := by rw [hlm, Int.toNat_natCast] at hi; omega
    have hin' : i < ns.length := by omega
    obtain ⟨c, hc, _⟩ := at_ints (ns := ns) (i := 0 + (i : Int)) (by omega) (by omega)
    -- cell, part
    refine ⟨_, rfl, _, rfl, a, _, _, _, rfl, rfl, sm.seq hS, hc, ?_⟩
    refine ⟨(by show 4 ≤ sizeLine; decide), fun l1 hl1 => ?_⟩
    obtain ⟨v, hv, hm⟩ := at_any (xs := [.str "as", .str "ashenashenashen", .str "ashenashxnashen", .str ""]) (i := (c + (0 + (i : Int))) % 4) (Int.emod_nonneg _ (by decide)) (Int.emod_lt_of_pos _ (by decide))
    obtain ⟨x, rfl, hx, hx4⟩ := parts4 hm
    refine ⟨_, rfl, _, rfl, _, _, rfl, rfl, _, _, rfl, rfl, (by show (0 : Int) < 4; decide), l1, _, _, _, rfl, rfl, SqL.of upd_same, hv, ?_⟩
    have sa := same_new hl1 (.lst [.str "as", .str "ashenashenashen", .str "ashenashxnashen", .str ""])
    -- pick
    refine ⟨_, rfl, _, rfl, _, _, rfl, rfl, ⟨by decide, by decide⟩, _, rfl, _, _, rfl, rfl, ⟨by decide, by decide⟩, _, _, rfl, rfl, _, rfl, fun z H3 s3 => ⟨(by show 2 ≤ sizeLine; decide), fun pk hpk => ?_⟩⟩
    have sb : Same H2 (upd H3 pk (.tup [.str x, .int z])) := (sa.trans s3).trans (same_new hpk _)
    generalize hHb : upd H3 pk (.tup [.str x, .int z]) = Hb at sb
    have hbk : Hb pk = some (.tup [.str x, .int z]) := by rw [← hHb]; exact upd_same
    have hbp := sb _ _ h2p
    have hbt := sb _ _ h2t
    -- needs
    refine ⟨(by show 0 ≤ sizeLine; decide), fun nd hnd' => ?_⟩
    have nnp : nd ≠ p := Ne.symm (ne_of_none hbp hnd')
    have nnt : nd ≠ t := Ne.symm (ne_of_none hbt hnd')
    refine ⟨(by show 10 ≤ sizeLine; decide), fun l2 hl2 => ?_⟩
    obtain ⟨jn, hj, hjm⟩ := at_ints (ns := [0, 1, 2, 0, 1, 2, 0, 1, 2, 4]) (i := c / 12 % 10) (Int.emod_nonneg _ (by decide)) (Int.emod_lt_of_pos _ (by decide))
    have hjb : 0 ≤ jn ∧ jn ≤ 4 := by
      simp only [List.mem_cons, List.not_mem_nil, or_false] at hjm
      omega
    refine ⟨_, rfl, _, _, rfl, rfl, ⟨by decide, by decide⟩, _, _, rfl, rfl, (by show (0 : Int) < 10; decide), l2, _, _, _, rfl, rfl, SqL.of upd_same, hj, jn, rfl, by omega, by omega, ?_⟩
    have sd : Same Hb (upd (upd Hb nd (.lst [])) l2 (.lst [.int 0, .int 1, .int 2, .int 0, .int 1, .int 2, .int 0, .int 1, .int 2, .int 4])) := (same_new hnd' _).trans (same_new hl2 _)
    refine for_range (fun j σ H6 => NdI Hb p t nd (fun o8 => [some (.ref a), some (.ref p), some (.ref t), some (.int (0 + (i : Int))), some (.int c), some (.str x), some (.ref pk), some (.ref nd), o8]) j σ H6)
      ⟨⟨[], [], o8, rfl, by rw [upd_ne (ne_of_none (o := .lst []) upd_same hl2)]; exact upd_same, .nil, by simp, Nat.le_refl _⟩, sd⟩ ?_ ?_
    · rintro j σ H6 hjj ⟨⟨zs, nds, o8', rfl, h6n, hzs, hpn, hnl⟩, s6⟩
      refine ⟨_, rfl, .inl ⟨rfl, _, SqL.of h6n⟩, _, rfl, _, _, rfl, rfl, ⟨by decide, by decide⟩, _, rfl, _, _, rfl, rfl, .inl ⟨by decide, by decide⟩, _, _, rfl, rfl, _, rfl, _, _, rfl, rfl, .inl ⟨by decide, by decide⟩, _, _, rfl, rfl, _, rfl, fun q0 n H7 s7 hq0 hq1 hn => ?_⟩
      have lz := Paired.length hzs
      refine ⟨nd, _, _, rfl, rfl, s7 _ _ h6n, small1000 (by omega), ⟨zs ++ [.ref q0], nds ++ [n], _, rfl, upd_same, ?_, ?_, by rw [List.length_append, List.length_singleton]; omega⟩, Same.upd (s6.trans s7) hnd'⟩
      · rw [del_upd (by simp)]
        refine Paired.snoc (Paired.mapP hzs fun _ _ y => NdAt.same (Same.del s7 _) y) ⟨q0, rfl, ?_⟩
        rw [del_out]
        · exact hq1
        · simp only [List.mem_cons, List.not_mem_nil, or_false, not_or]
          exact ⟨Ne.symm (ne_of_none (s6 _ _ hbp) hq0), Ne.symm (ne_of_none (s6 _ _ hbt) hq0), Ne.symm (ne_of_none h6n hq0)⟩
      · intro m hm
        rcases List.mem_append.mp hm with y | y
        · exact hpn m y
        · rw [List.mem_singleton.mp y]; exact hn
    · rintro σ H6 ⟨⟨zs, nds, o8', rfl, h6n, hzs, hpn, hnl⟩, s6⟩
      have h6p := s6 _ _ hbp
      have h6t := s6 _ _ hbt
      have h6k := s6 _ _ hbk
      have s26 : Same H2 H6 := sb.trans s6
      have npk : pk ≠ p := Ne.symm (ne_of h6p h6k (by intro y; cases y))
      have ntk : pk ≠ t := Ne.symm (ne_of h6t h6k (by intro y; cases y))
      have hys6 : Paired (PkAt H6) ys (es.map keyOf) := Paired.mapP hys fun _ _ y => PkAt.same ((Same.del s26 _).trans (same_del _ _)) y
      have hks : ∀ k ∈ es.map keyOf, PartOk k.1 := fun k hk => by
        obtain ⟨e, he, rfl⟩ := List.mem_map.mp hk
        exact (hok e he).1.pt
      refine ⟨_, rfl, _, rfl, pkD (x, z), (es.map keyOf).map pkD, PkAt.rep ⟨pk, rfl, h6k⟩, .lst h6t (reps_of (fun _ _ y => PkAt.rep y) hys6), (pk_lay hx).1, pks_lay hks, (pk_lay hx).2, _, rfl, ?_⟩
      rw [any_pk]
      refine ite2 (fun hc2 => ?_) (fun hc2 => ?_)
      · have hnot : ¬ (x, z) ∈ es.map keyOf := by
          intro y
          rw [decide_eq_true y] at hc2
          exact absurd hc2 (by decide)
        have ly := Paired.length hys
        have lx := Paired.length hes
        rw [List.length_map] at ly
        refine ⟨_, rfl, .inl ⟨rfl, _, SqL.of h6t⟩, _, rfl, t, _, _, rfl, rfl, h6t, small1000 (by omega), ?_⟩
        generalize hH7 : upd H6 t (.lst (ys ++ [.ref pk])) = H7
        have h7p : H7 p = some (.lst xs) := by rw [← hH7, upd_ne npt]; exact h6p
        have h7k : H7 pk = some (.tup [.str x, .int z]) := by rw [← hH7, upd_ne ntk]; exact h6k
        have h7n : H7 nd = some (.lst zs) := by rw [← hH7, upd_ne nnt]; exact h6n
        have h7t : H7 t = some (.lst (ys ++ [.ref pk])) := by rw [← hH7]; exact upd_same
        refine ⟨_, rfl, .inl ⟨rfl, _, SqL.of h7p⟩, _, rfl, pk, _, _, _, rfl, rfl, SqT.of h7k, rfl, _, rfl, pk, _, _, _, rfl, rfl, SqT.of h7k, rfl, _, rfl, (by show 3 ≤ sizeLine; decide), fun en hen => ?_⟩
        have s8 := same_new hen (.tup [.str x, .int z, .ref nd])
        have nep : en ≠ p := Ne.symm (ne_of_none h7p hen)
        have net : en ≠ t := Ne.symm (ne_of_none h7t hen)
        refine ⟨p, xs, _, rfl, rfl, s8 _ _ h7p, small1000 (by omega), ?_⟩
        have d9 : del (upd (upd H7 en (.tup [.str x, .int z, .ref nd])) p (.lst (xs ++ [.ref en]))) [p, t] = del (upd H7 en (.tup [.str x, .int z, .ref nd])) [p, t] := del_upd (by simp)
        have d7 : del H7 [p, t] = del H6 [p, t] := by rw [← hH7]; exact del_upd (by simp)
        have sd8 : Same (del H2 [p, t]) (del (upd H7 en (.tup [.str x, .int z, .ref nd])) [p, t]) := (Same.del s26 _).trans (d7 ▸ Same.del s8 _)
        refine ⟨⟨es ++ [(x, z, nds)], xs ++ [.ref en], ys ++ [.ref pk], _, _, _, _, _, _, rfl, upd_same, ?_, ?_, ?_, ?_, ?_, by rw [List.length_append, List.length_singleton]; omega⟩, ?_⟩
        · rw [upd_ne (Ne.symm npt)]
          exact s8 _ _ h7t
        · rw [d9]
          refine Paired.snoc (Paired.mapP hes fun _ _ y => EnAt.same sd8 y) ⟨en, nd, zs, rfl, ?_, ?_, ?_⟩
          · rw [del_out (by simp only [List.mem_cons, List.not_mem_nil, or_false, not_or]; exact ⟨nep, net⟩)]
            exact upd_same
          · rw [del_out (by simp only [List.mem_cons, List.not_mem_nil, or_false, not_or]; exact ⟨nnp, nnt⟩)]
            exact s8 _ _ h7n
          · refine Paired.mapP hzs fun _ m y => NdAt.same (fun b o hb => ?_) y
            have nb : b ∉ [p, t, nd] := fun y => by rw [del_in y] at hb; cases hb
            rw [del_out nb] at hb
            simp only [List.mem_cons, List.not_mem_nil, or_false, not_or] at nb
            rw [del_out (by simp only [List.mem_cons, List.not_mem_nil, or_false, not_or]; exact ⟨nb.1, nb.2.1⟩)]
            refine s8 _ _ ?_
            rw [← hH7, upd_ne nb.2.1]
            exact hb
        · rw [d9, List.map_append]
          refine Paired.snoc (Paired.mapP hys fun _ _ y => PkAt.same sd8 y) ⟨pk, rfl, ?_⟩
          rw [del_out (by simp only [List.mem_cons, List.not_mem_nil, or_false, not_or]; exact ⟨npk, ntk⟩)]
          exact s8 _ _ h7k
        · rw [List.map_append]
          exact nd_snoc hnd hnot
        · intro e he
          rcases List.mem_append.mp he with y | y
          · exact hok e y
          · rw [List.mem_singleton.mp y]
            exact ⟨⟨hx, hpn, by show nds.length ≤ 100; omega⟩, hx4⟩
        · have s7' : Same H H7 := by rw [← hH7]; exact Same.upd (sm.trans s26) htH
          exact Same.upd (s7'.trans s8) hp
      · exact ⟨⟨es, xs, ys, _, _, _, _, _, _, rfl, h6p, h6t, Paired.mapP hes fun _ _ y => EnAt.same (Same.del s26 _) y, Paired.mapP hys fun _ _ y => PkAt.same (Same.del s26 _) y, hnd, hok, by omega⟩, sm.trans s26⟩
  · rintro σ H2 ⟨⟨es, xs, ys, o3, o4, o5, o6, o7, o8, rfl, h2p, h2t, hes, hys, hnd, hok, hlen⟩, sm⟩
    refine ⟨_, rfl, q p es xs H2 sm hp h2p (Paired.mapP hes fun _ _ y => EnAt.same (fun b o hb => ?_) y) hnd (fun e he => (hok e he).1) (by rw [hlm, Int.toNat_natCast] at hlen; exact hlen) (fun e he => (hok e he).2)⟩
    have nb : b ∉ [p, t] := fun y => by rw [del_in y] at hb; cases hb
    rw [del_out nb] at hb
    simp only [List.mem_cons, List.not_mem_nil, or_false, not_or] at nb
    rw [del_out (by simpa using nb.1)]
    exact hb
end
end FB

namespace FB
open PySem L2 PyProof.Rows
seal PSs PS PE PT PA

def spStartBy (K : PySem.W.Frag) : Sp := fun vs H Q _ => ∃ (a : Addr) (ns : List Int), vs = [.ref a] ∧ SqL K H a (ns.map V.int) ∧ ns.length ≤ 63 ∧
  ∀ p (sn : List Nd) H', Same H H' → NdsAt H' p sn → (∀ n ∈ sn, PartOk n.1) → sn.length ≤ ns.length → Q (.ref p) H'
def spNeedsIn : Sp := fun vs H Q _ => ∃ (a : Addr) (v : V) (es : List En) (k : Pk), vs = [.ref a, v] ∧ ShAt H a es ∧ PkAt H v k ∧ (es.map keyOf).Nodup ∧
  (∀ e ∈ es, keyOf e = k → ∀ na zs, H na = some (.lst zs) → Paired (NdAt H) zs e.2.2 → Q (.ref na) H) ∧ (k ∉ es.map keyOf → Q .non H)
theorem nd_stb : (["_law_cell"] : List Str).Nodup := by decide +kernel
section
variable {P : Program} {w : World} {K : PySem.W.Frag} {mg : Str → Option Value} {base : Heap} {f : Addr} {fd : FuncData}
theorem scStB : FnScope ["_law_cells"] ["_law_cells"] (defScope sStartBy) := ⟨rfl, rfl, rfl, by decide +kernel, rfl, by decide +kernel, by decide +kernel⟩
theorem ok_startBy {g : Addr} {gd : FuncData} (F : Fun K "_law_start_by" "_law_start_by" sStartBy f fd) (G : FnOk P w K mg base CX0 2 g gd ["_law_cell"] spNeed) (bG : Binds K gd ["_law_cell"] []) (kG : PySem.W.keepIn K (.ref g) = true) (mG : mg "_law_need_by" = some (.ref g)) :
    FnOk P w K mg base CX0 3 f fd ["_law_cells"] (spStartBy K) := by
  refine F.ok scStB (fun vs H Q E h => ?_) (fun cdv A outer s H vs Q E hr h => ?_)
  · obtain ⟨a, ns, rfl, _⟩ := h
    rfl
  obtain ⟨a, ns, rfl, hS, hl, q⟩ := h
  refine ⟨_, pss_one (ps_ret (pe_comp (N' := ["_law_cell"]) (n := 1) (js := []) rfl (CompS.closed (by decide +kernel) (by decide +kernel) rfl (by decide +kernel) rfl) (gk_name (by decide)) (pi_list (pv 0))
    (fun C s2 H2 fp => pg_name (i := 0) nd_stb rfl (Or.inl rfl)) (fun C s2 H2 fp => pts_nil)
    (fun C s2 H2 fp => pe_call G hr rfl mG kG bG .nil pass0 (pa_cons (pe_op op_add (pe_op op_fdiv (pv 0) pe_int) pe_int) pa_nil)))), ?_⟩
  have lm : (ns.map V.int).length = ns.length := List.length_map _
  refine ⟨_, rfl, a, rfl, ⟨_, hS⟩, ?_⟩
  refine comp_list (xs := ns.map V.int) (fun D i ys H2 => ∃ sn : List Nd, Paired (NdAt (del H2 [D])) ys sn ∧ (∀ n ∈ sn, PartOk n.1) ∧ sn.length ≤ i ∧ H2 D = some (.lst ys) ∧ Same H H2 ∧ H D = none) (fun D hD => ⟨[], .nil, by simp, Nat.le_refl _, upd_same, same_new hD _, hD⟩)
    (fun D i ys H2 hi ⟨sn, e1, e2, e3, e4, e5, e6⟩ => ⟨e5.seq hS, e4, ?_⟩) (fun D i x ys H2 hi ⟨sn, e1, e2, e3, e4, e5, e6⟩ => ?_) (fun D ys H2 ⟨sn, e1, e2, e3, e4, e5, e6⟩ => ?_)
  · rw [Paired.length e1]
    exact small1000 (by omega)
  · rw [List.getElem?_map] at hi
    obtain ⟨c, hc, rfl⟩ := Option.map_eq_some_iff.mp hi
    unfold gName tYes
    dsimp only
    rw [if_pos rfl]
    refine ⟨_, rfl, _, _, rfl, rfl, ⟨by decide, by decide⟩, _, _, rfl, rfl, _, rfl, fun q0 n H3 s3 hq0 hq1 hn => ?_⟩
    have nD : q0 ≠ D := Ne.symm (ne_of_none e4 hq0)
    refine ⟨s3 _ _ e4, sn ++ [n], ?_, fun m hm => ?_, by rw [List.length_append, List.length_singleton]; omega, upd_same, Same.upd (e5.trans s3) e6, e6⟩
    · rw [del_upd (by simp)]
      refine Paired.snoc (Paired.mapP e1 fun _ _ y => NdAt.same (Same.del s3 _) y) ⟨q0, rfl, ?_⟩
      rw [del_out (by simpa using nD)]
      exact hq1
    · rcases List.mem_append.mp hm with y | y
      · exact e2 m y
      · rw [List.mem_singleton.mp y]; exact hn
  · rw [lm] at e3
    exact q D sn H2 e5 ⟨ys, e4, Paired.mapP e1 fun _ _ z => NdAt.same (same_del _ _) z⟩ e2 e3

theorem scNi : FnScope ["_law_shelf", "_law_pick", "_law_entry"] ["_law_shelf", "_law_pick"] (defScope sNeedsIn) := ⟨rfl, rfl, rfl, by decide +kernel, rfl, by decide +kernel, by decide +kernel⟩
theorem ok_needsIn (F : Fun K "_law_needs_in" "_law_needs_in" sNeedsIn f fd) : FnOk P w K mg base CX0 1 f fd ["_law_shelf", "_law_pick"] spNeedsIn := by
  refine F.ok scNi (fun vs H Q E h => ?_) (fun cdv A outer s H vs Q E hr h => ?_)
  · obtain ⟨a, v, es, k, rfl, _⟩ := h
    rfl
  obtain ⟨a, v, es, k, rfl, ⟨xs, hx, hp⟩, ⟨kq, rfl, hk⟩, hnd, q1, q2⟩ := h
  refine ⟨_, (pss_cons (ps_for PassesOwn.never rfl (pi_list (pv 0)) (pg_name (i := 2) scNi.nd rfl (Or.inl rfl))
      (pss_one (ps_if (PW.pt (pw_and (pt_cmpR op_eq (pe_ix ix_tup (pv 2) pe_int (fun _ _ => rfl)) (pe_ix ix_tup (pv 1) pe_int (fun _ _ => rfl)) (nomark _)) (pw_and1 (pt_cmpR op_eq (pe_ix ix_tup (pv 2) pe_int (fun _ _ => rfl)) (pe_ix ix_tup (pv 1) pe_int (fun _ _ => rfl)) (nomark _)))))
        (pss_one (ps_ret (pe_ix ix_tup (pv 2) pe_int (fun _ _ => rfl)))) pss_nil)))
    (pss_one (ps_ret pe_non))), ?_⟩
  have lx : xs.length = es.length := Paired.length hp
  refine ⟨_, rfl, a, rfl, ⟨xs, SqL.of hx⟩, for_list (K := K) (a := a) (xs := xs) (fun i σ H2 => ∃ o, σ = [some (.ref a), some (.ref kq), o] ∧ H2 = H ∧ k ∉ (es.take i).map keyOf)
    ⟨none, rfl, rfl, by simp⟩ (fun i σ H2 _ ⟨_, _, e, _⟩ => e ▸ SqL.of hx) ?_ ?_⟩
  · rintro i x σ H2 hi ⟨o, rfl, rfl, hno⟩
    obtain ⟨e, he, q0, na, zs, rfl, h3, h4, h5⟩ := Paired.getR hp hi
    have ht : es.take (i + 1) = es.take i ++ [e] := by rw [List.take_succ, he]; rfl
    have step : ¬ keyOf e = k → k ∉ (es.take (i + 1)).map keyOf := fun hne hm => by
      rw [ht, List.map_append] at hm
      rcases List.mem_append.mp hm with y | y
      · exact hno y
      · rw [List.map_cons, List.map_nil, List.mem_singleton] at y
        exact hne y.symm
    refine ⟨_, rfl, q0, _, _, _, rfl, rfl, SqT.of h3, rfl, _, rfl, kq, _, _, _, rfl, rfl, SqT.of hk, rfl, rfl, _, rfl, ?_⟩
    rw [dec_str_iff]
    refine ite2 (fun c => ?_) (fun c => ?_)
    · refine ⟨_, rfl, q0, _, _, _, rfl, rfl, SqT.of h3, rfl, _, rfl, kq, _, _, _, rfl, rfl, SqT.of hk, rfl, rfl, _, rfl, ?_⟩
      refine ite2 (fun c2 => ?_) (fun c2 => ?_)
      · have hk1 : e.1 = k.1 := of_decide_eq_true c
        have hk2 : e.2.1 = k.2 := V.int.inj (of_decide_eq_true c2)
        exact ⟨_, rfl, q0, _, _, _, rfl, rfl, SqT.of h3, rfl, q1 e (List.mem_of_getElem? he) (Prod.ext hk1 hk2) na zs h4 h5⟩
      · refine ⟨_, rfl, rfl, step fun z => c2 (decide_eq_true ?_)⟩
        rw [← z]; rfl
    · refine iteF ⟨_, rfl, rfl, step fun z => c (decide_eq_true ?_)⟩
      rw [← z]; rfl
  · rintro σ H2 ⟨o, rfl, rfl, hno⟩
    rw [lx, List.take_length] at hno
    exact q2 hno
end
end FB

namespace FB
open PySem L2 PyProof.Rows
seal PSs PS PE PT PA
def spAsked (K : PySem.W.Frag) : Sp := fun vs H Q _ => ∃ (a : Addr) (ns : List Int), vs = [.ref a] ∧ SqL K H a (ns.map V.int) ∧ ns.length ≤ 63 ∧
  ∀ t sh st (es : List En) (sn : List Nd) H', Same H H' → H' t = some (.tup [.ref sh, .ref st]) → ShAt H' sh es → (es.map keyOf).Nodup → (∀ e ∈ es, EnOk e) → es.length ≤ 59 → (∀ e ∈ es, e.1 ∈ four) → NdsAt H' st sn → (∀ n ∈ sn, PartOk n.1) → sn.length ≤ 63 → Q (.ref t) H'
theorem cut_ints (ns : List Int) (lo hi : Option Int) : ∃ ms : List Int, cutV (ns.map V.int) lo hi = ms.map V.int ∧ ms.length ≤ ns.length := by
  refine ⟨(ns.drop (HT.sIx (ns.map V.int).length 0 lo)).take (HT.sIx (ns.map V.int).length (ns.map V.int).length hi - HT.sIx (ns.map V.int).length 0 lo), ?_, ?_⟩
  · unfold cutV
    rw [List.map_take, List.map_drop]
  · rw [List.length_take, List.length_drop]
    omega
theorem cut_from (ns : List Int) (k : Nat) : ∃ ms : List Int, cutV (ns.map V.int) (some (k : Int)) none = ms.map V.int ∧ ms.length ≤ ns.length - k := by
  have e : HT.sIx (ns.map V.int).length 0 (some (k : Int)) = min k (ns.map V.int).length := HT.sIx_nat _ _ k
  refine ⟨(ns.drop (HT.sIx (ns.map V.int).length 0 (some (k : Int)))).take (HT.sIx (ns.map V.int).length (ns.map V.int).length none - HT.sIx (ns.map V.int).length 0 (some (k : Int))), ?_, ?_⟩
  · unfold cutV
    rw [List.map_take, List.map_drop]
  · rw [List.length_take, List.length_drop, e, List.length_map]
    omega
section
variable {P : Program} {w : World} {K : PySem.W.Frag} {mg : Str → Option Value} {base : Heap} {f : Addr} {fd : FuncData}
theorem scAsk : FnScope ["_law_script", "_law_shelf"] ["_law_script"] (defScope sAsked) := ⟨rfl, rfl, rfl, by decide +kernel, rfl, by decide +kernel, by decide +kernel⟩
theorem ok_asked {g g2 g3 : Addr} {gd gd2 gd3 : FuncData} (F : Fun K "_law_asked_by" "_law_asked_by" sAsked f fd) (G : FnOk P w K mg base CX0 3 g gd ["_law_cells"] (spShelf K)) (bG : Binds K gd ["_law_cells"] []) (kG : PySem.W.keepIn K (.ref g) = true) (mG : mg "_law_shelf_by" = some (.ref g))
    (G2 : FnOk P w K mg base CX0 3 g2 gd2 ["_law_cells"] (spStartBy K)) (bG2 : Binds K gd2 ["_law_cells"] []) (kG2 : PySem.W.keepIn K (.ref g2) = true) (mG2 : mg "_law_start_by" = some (.ref g2))
    (G3 : FnOk P w K mg base CX0 1 g3 gd3 ["_law_script", "_law_k"] (spAt K)) (bG3 : Binds K gd3 ["_law_script", "_law_k"] []) (kG3 : PySem.W.keepIn K (.ref g3) = true) (mG3 : mg "_law_at" = some (.ref g3)) :
    FnOk P w K mg base CX0 4 f fd ["_law_script"] (spAsked K) := by
  refine F.ok scAsk (fun vs H Q E h => ?_) (fun cdv A outer s H vs Q E hr h => ?_)
  · obtain ⟨a, ns, rfl, _⟩ := h
    rfl
  obtain ⟨a, ns, rfl, hS, hl, q⟩ := h
  have hr1 : Room 1 _ := hr.mono (by decide)
  refine ⟨_, (pss_cons (ps_set (i := 1) scAsk.nd rfl (Or.inl rfl) (pe_call G hr rfl mG kG bG .nil pass0 (pa_cons (pe_slice sl_list (pv 0) (po_some pe_int) po_none) pa_nil)))
    (pss_one (ps_ret (pe_tup (pa_cons (pv 1) (pa_cons (pe_call G2 hr rfl mG2 kG2 bG2 .nil pass0 (pa_cons (pe_slice sl_list (pv 0) (po_some pe_int) (po_some (pe_op op_add pe_int (pe_op op_mod (pe_call G3 hr1 rfl mG3 kG3 bG3 .nil pass0 (pa_cons (pv 0) (pa_cons pe_int pa_nil))) pe_int)))) pa_nil)) pa_nil)))))), ?_⟩
  obtain ⟨m1, e1, l1⟩ := cut_from ns 4
  refine ⟨_, rfl, 4, rfl, a, _, rfl, hS, fun p1 hp1 => ?_⟩
  rw [show cutV (ns.map V.int) (some 4) none = m1.map V.int from e1]
  have s1 := same_new hp1 (.lst (m1.map V.int))
  refine ⟨p1, m1, rfl, SqL.of upd_same, by omega, fun sh es xs H2 s2 hsh h2 hes hnd hok hle h4n => ?_⟩
  have s12 := s1.trans s2
  refine ⟨_, rfl, _, rfl, 1, rfl, _, rfl, a, ns, 0, rfl, s12.seq hS, Int.le_refl 0, fun z => ⟨_, _, rfl, rfl, (by show (0 : Int) < 4; decide), _, _, rfl, rfl, _, rfl, a, _, rfl, s12.seq hS, fun p2 hp2 => ?_⟩⟩
  obtain ⟨m2, e2, l2⟩ := cut_ints ns (some 1) (some (1 + z % 4))
  rw [e2]
  have s3 := same_new hp2 (.lst (m2.map V.int))
  refine ⟨p2, m2, rfl, SqL.of upd_same, by omega, fun st sn H4 s4 h4 hpo hsl => ?_⟩
  refine ⟨(by show 2 ≤ sizeLine; decide), fun t ht => ?_⟩
  have s5 := same_new ht (.tup [.ref sh, .ref st])
  have s35 := (s3.trans s4).trans s5
  exact q t sh st es sn _ (s12.trans s35) upd_same (ShAt.same s35 ⟨xs, h2, Paired.mapP hes fun _ _ y => EnAt.same (same_del _ _) y⟩) hnd hok (by omega) h4n (NdsAt.same s5 h4) hpo (by omega)

end
end FB

namespace FB
open PySem L2 PyProof.Rows
seal PSs PS PE PT PA

/-! ### tuples stand where lists change -/
theorem NdAt.updL {H : Hp} {p : Addr} {ys zs : List V} {v : V} {n : Nd} (hp : H p = some (.lst ys)) (h : NdAt H v n) : NdAt (upd H p (.lst zs)) v n := by
  obtain ⟨q, h1, h2⟩ := h
  exact ⟨q, h1, by rw [upd_ne (ne_of h2 hp (by intro z; cases z))]; exact h2⟩
theorem PkAt.updL {H : Hp} {p : Addr} {ys zs : List V} {v : V} {k : Pk} (hp : H p = some (.lst ys)) (h : PkAt H v k) : PkAt (upd H p (.lst zs)) v k := by
  obtain ⟨q, h1, h2⟩ := h
  exact ⟨q, h1, by rw [upd_ne (ne_of h2 hp (by intro z; cases z))]; exact h2⟩
theorem any_str (x : Str) : ∀ xs : List Str, ((xs.map PyData.str).any fun z => PyData.eqv z (.str x)) = decide (x ∈ xs)
  | [] => by simp
  | y :: xs => by
    rw [List.map_cons, List.any_cons, any_str x xs]
    have e : PyData.eqv (.str y) (.str x) = (y == x) := by simp [PyData.eqv]
    rw [e]
    by_cases h : y = x
    · subst h; simp
    · have b : (y == x) = false := beq_false_of_ne h
      rw [b, Bool.false_or]
      have : (x ∈ y :: xs) ↔ x ∈ xs := by
        rw [List.mem_cons]
        exact ⟨fun z => z.resolve_left fun q => h q.symm, .inr⟩
      simp only [this]
theorem strs_lay : ∀ {xs : List Str}, (∀ x ∈ xs, PartOk x) → PyData.canLayAll0 (xs.map PyData.str) = true
  | [], _ => rfl
  | x :: xs, h => by
    rw [List.map_cons, PyData.canLayAll0, strs_lay fun y hy => h y (by simp [hy])]
    simp [PyData.canLay0, (h x (by simp)).ok]
theorem strs_reps (H : Hp) : ∀ xs : List Str, Reps H (xs.map V.str) (xs.map PyData.str)
  | [] => .nil
  | x :: xs => .cons (.str x) (strs_reps H xs)
/-- entries whose part has no pick yet -/
def leftE (es : List En) (ps : List Pk) : Nat := (es.filter fun e => decide (e.1 ∉ ps.map (·.1))).length
theorem leftE_le (es : List En) (ps : List Pk) : leftE es ps ≤ es.length := List.length_filter_le _ _
theorem leftE_mono {ps : List Pk} {k : Pk} : ∀ es : List En, leftE es (ps ++ [k]) ≤ leftE es ps
  | [] => Nat.le_refl _
  | e :: es => by
    have ih := leftE_mono (ps := ps) (k := k) es
    unfold leftE at *
    rw [List.filter_cons, List.filter_cons]
    by_cases h : e.1 ∈ (ps ++ [k]).map (·.1)
    · rw [if_neg (fun z => absurd h (of_decide_eq_true z))]
      split
      · rw [List.length_cons]; omega
      · exact ih
    · have h' : e.1 ∉ ps.map (·.1) := fun z => h (by rw [List.map_append]; exact List.mem_append_left _ z)
      rw [if_pos (decide_eq_true h), if_pos (decide_eq_true h'), List.length_cons, List.length_cons]
      omega
theorem leftE_less {ps : List Pk} {k : Pk} (hk : k.1 ∉ ps.map (·.1)) : ∀ {es : List En}, k ∈ es.map keyOf → leftE es (ps ++ [k]) + 1 ≤ leftE es ps
  | [], h => by simp at h
  | e :: es, h => by
    rw [List.map_cons, List.mem_cons] at h
    by_cases he : keyOf e = k
    · have h1 : e.1 = k.1 := by rw [← he]; rfl
      have m := leftE_mono (ps := ps) (k := k) es
      unfold leftE at *
      rw [List.filter_cons, List.filter_cons, if_neg (by rw [h1]; simp), if_pos (by rw [h1]; exact decide_eq_true hk), List.length_cons]
      omega
    · have ih := leftE_less hk (es := es) (h.resolve_left fun z => he z.symm)
      unfold leftE at *
      rw [List.filter_cons, List.filter_cons]
      by_cases h2 : e.1 ∈ (ps ++ [k]).map (·.1)
      · rw [if_neg (fun z => absurd h2 (of_decide_eq_true z))]
        split
        · rw [List.length_cons]; omega
        · exact ih
      · have h' : e.1 ∉ ps.map (·.1) := fun z => h2 (by rw [List.map_append]; exact List.mem_append_left _ z)
        rw [if_pos (decide_eq_true h2), if_pos (decide_eq_true h'), List.length_cons, List.length_cons]
        omega
theorem len_le : ∀ (ps : List Pk) (es : List En), onShelf es ps → (ps.map (·.1)).Nodup → ps.length ≤ es.length
  | [], _, _, _ => Nat.zero_le _
  | k :: ps, es, h, hn => by
    rw [List.map_cons, List.nodup_cons] at hn
    have ih := len_le ps (es.filter fun e => decide (e.1 ≠ k.1)) (fun j hj => by
      obtain ⟨e, he, rfl⟩ := List.mem_map.mp (h j (by simp [hj]))
      refine List.mem_map.mpr ⟨e, List.mem_filter.mpr ⟨he, decide_eq_true fun z => hn.1 ?_⟩, rfl⟩
      rw [← z]
      exact List.mem_map.mpr ⟨keyOf e, hj, rfl⟩) hn.2
    obtain ⟨e, he, hk⟩ := List.mem_map.mp (h k (by simp))
    have : (es.filter fun e => decide (e.1 ≠ k.1)).length < es.length := List.length_filter_lt_length_iff_exists.mpr ⟨e, he, by rw [← hk]; simp [keyOf]⟩
    rw [List.length_cons]
    omega
/-- the picks so far, in a list of our own at p -/
structure PkI (H0 H : Hp) (p : Addr) (es : List En) (ps : List Pk) : Prop where
  at_ : ∃ xs, H p = some (.lst xs) ∧ Paired (PkAt H) xs ps
  new : H0 p = none
  sm : Same H0 H
  on : onShelf es ps
  nd : (ps.map (·.1)).Nodup
theorem PkI.same {H0 H H' : Hp} {p : Addr} {es : List En} {ps : List Pk} (I : PkI H0 H p es ps) (s : Same H H') : PkI H0 H' p es ps :=
  ⟨let ⟨xs, h1, h2⟩ := I.at_; ⟨xs, s _ _ h1, Paired.mapP h2 fun _ _ z => PkAt.same s z⟩, I.new, I.sm.trans s, I.on, I.nd⟩
theorem PkI.add {H0 H : Hp} {p : Addr} {es : List En} {ps : List Pk} {xs : List V} {v : V} {k : Pk} (I : PkI H0 H p es ps) (hx : H p = some (.lst xs)) (hxp : Paired (PkAt H) xs ps) (hv : PkAt H v k) (hk : k ∈ es.map keyOf) (hn : k.1 ∉ ps.map (·.1)) :
    PkI H0 (upd H p (.lst (xs ++ [v]))) p es (ps ++ [k]) := by
  refine ⟨⟨_, upd_same, Paired.snoc (Paired.mapP hxp fun _ _ z => PkAt.updL hx z) (PkAt.updL hx hv)⟩, I.new, Same.upd I.sm I.new, fun j hj => ?_, ?_⟩
  · rcases List.mem_append.mp hj with y | y
    · exact I.on j y
    · rw [List.mem_singleton.mp y]; exact hk
  · rw [List.map_append]; exact nd_snoc I.nd hn
theorem PkI.parts {H0 H : Hp} {p : Addr} {es : List En} {ps : List Pk} (I : PkI H0 H p es ps) (hok : ∀ e ∈ es, EnOk e) : ∀ x ∈ ps.map (·.1), PartOk x := fun x hx => by
  obtain ⟨k, hk, rfl⟩ := List.mem_map.mp hx
  obtain ⟨e, he, rfl⟩ := List.mem_map.mp (I.on k hk)
  exact (hok e he).pt
theorem pks_ok {es : List En} {ps : List Pk} (h : onShelf es ps) (hok : ∀ e ∈ es, EnOk e) : okD 2 (.list (ps.map pkD)) = true := by
  rw [okD, List.all_eq_true]
  intro d hd
  obtain ⟨k, hk, rfl⟩ := List.mem_map.mp hd
  obtain ⟨e, he, rfl⟩ := List.mem_map.mp (h k hk)
  simp [pkD, okD, keyOf, (hok e he).pt.ok]
theorem nds_ok {sn : List Nd} (h : ∀ n ∈ sn, PartOk n.1) : okD 2 (.list (sn.map ndD)) = true := by
  rw [okD, List.all_eq_true]
  intro d hd
  obtain ⟨n, hn, rfl⟩ := List.mem_map.mp hd
  exact ndD_ok (h n hn)
/-- what is needed still, in a list of our own at wa -/
structure WnI (H0 H : Hp) (wa : Addr) (wn : List Nd) : Prop where
  at_ : ∃ zs, H wa = some (.lst zs) ∧ Paired (NdAt H) zs wn
  new : H0 wa = none
  ok : ∀ n ∈ wn, PartOk n.1
def spPicksBy : Sp := fun vs H Q _ => ∃ (sh st : Addr) (seed : Int) (es : List En) (sn : List Nd), vs = [.ref sh, .ref st, .int seed] ∧ ShAt H sh es ∧ (es.map keyOf).Nodup ∧ (∀ e ∈ es, EnOk e) ∧ es.length ≤ 59 ∧ NdsAt H st sn ∧ (∀ n ∈ sn, PartOk n.1) ∧ sn.length ≤ 63 ∧
  ∀ p (ps : List Pk) H', Same H H' → PksAt H' p ps → onShelf es ps → (ps.map (·.1)).Nodup → ps.length ≤ es.length → Q (.ref p) H'
/-- between two turns of the while -/
structure PbI (H0 : Hp) (es : List En) (sh st p : Addr) (seed : Int) (m : Nat) (σ : L2.St) (H : Hp) : Prop where
  ex : ∃ wa wn ps tn o6 o7 o8, σ = [some (.ref sh), some (.ref st), some (.int seed), some (.ref p), some (.ref wa), some (.int tn), o6, o7, o8, none] ∧ PkI H0 H p es ps ∧ WnI H0 H wa wn ∧ wa ≠ p ∧ 101 * leftE es ps + wn.length = m
  le : m ≤ 7000

theorem nd_pb : (["_law_pick"] : List Str).Nodup := by decide +kernel
/-- the parts of the picks, by a comprehension -/
theorem parts_comp {K : PySem.W.Frag} {H : Hp} {p : Addr} {xs : List V} {ps : List Pk} {σ : L2.St} {Q : VK} (hx : H p = some (.lst xs)) (hp : Paired (PkAt H) xs ps) (hl : ps.length ≤ 900)
    (q : ∀ D H', Same H H' → H D = none → H' D = some (.lst ((ps.map (·.1)).map V.str)) → Q (.ref D) H') : CompR (Itl K p) (gName 0) tYes (tOp (rIxT K) (tVar 0) (tC (.int 0))) (frees 1 [] σ) H Q := by
  have lx := Paired.length hp
  refine comp_list (xs := xs) (fun D i ys H2 => ys = ((ps.take i).map (·.1)).map V.str ∧ H2 D = some (.lst ys) ∧ Same H H2 ∧ H D = none) (fun D hD => ⟨by simp, upd_same, same_new hD _, hD⟩)
    (fun D i ys H2 hi ⟨e1, e2, e3, _⟩ => ⟨SqL.of (e3 _ _ hx), e2, ?_⟩) (fun D i x ys H2 hi ⟨e1, e2, e3, e4⟩ => ?_) (fun D ys H2 ⟨e1, e2, e3, e4⟩ => ?_)
  · rw [e1, List.length_map, List.length_map, List.length_take]
    exact small1000 (by omega)
  · obtain ⟨k, hk, kq, rfl, hkq⟩ := Paired.getR hp hi
    have ht : ps.take (i + 1) = ps.take i ++ [k] := by rw [List.take_succ, hk]; rfl
    unfold gName tYes
    dsimp only
    rw [if_pos rfl]
    refine ⟨_, rfl, kq, _, _, _, rfl, rfl, SqT.of (e3 _ _ hkq), rfl, e2, ?_, upd_same, Same.upd e3 e4, e4⟩
    rw [ht, e1, List.map_append, List.map_append]
    rfl
  · rw [lx, List.take_length] at e1
    subst e1
    exact q D H2 e3 e4 e2
end FB

namespace FB
open PySem L2 PyProof.Rows
seal PSs PS PE PT PA
theorem paired_rev {α β : Type} {F : α → β → Prop} : ∀ {as : List α} {bs : List β}, Paired F as bs → Paired F as.reverse bs.reverse
  | _, _, .nil => .nil
  | _, _, .cons r t => by
    rw [List.reverse_cons, List.reverse_cons]
    exact Paired.snoc (paired_rev t) r
theorem PkI.out {H0 H : Hp} {p : Addr} {es : List En} {ps : List Pk} (I : PkI H0 H p es ps) : PksAt H p ps ∧ ps.length ≤ es.length := ⟨I.at_, len_le ps es I.on I.nd⟩
theorem onShelf_sub {es : List En} {ps qs : List Pk} (h : onShelf es ps) (s : ∀ k ∈ qs, k ∈ ps) : onShelf es qs := fun k hk => h k (s k hk)
theorem cut_tail {v : V} {zs : List V} : cutV (v :: zs) (some 1) none = zs := by
  unfold cutV
  rw [show HT.sIx (v :: zs).length 0 (some 1) = min 1 (v :: zs).length from HT.sIx_nat _ _ 1]
  have e : min 1 (v :: zs).length = 1 := by rw [List.length_cons]; omega
  rw [e, show HT.sIx (v :: zs).length (v :: zs).length none = (v :: zs).length from rfl, List.length_cons, List.drop_one, List.tail_cons]
  exact List.take_of_length_le (by omega)
theorem PkI.updO {H0 H : Hp} {p wb : Addr} {es : List En} {ps : List Pk} {ws zs : List V} (I : PkI H0 H p es ps) (hw : H wb = some (.lst ws)) (hn : H0 wb = none) (hp : p ≠ wb) : PkI H0 (upd H wb (.lst zs)) p es ps :=
  ⟨let ⟨xs, h1, h2⟩ := I.at_; ⟨xs, by rw [upd_ne hp]; exact h1, Paired.mapP h2 fun _ _ z => PkAt.updL hw z⟩, I.new, Same.upd I.sm hn, I.on, I.nd⟩
theorem met_key {es : List En} {n : Nd} {z : Int} (h : z ∈ metOf es n) : (n.1, z) ∈ es.map keyOf := by
  unfold metOf at h
  obtain ⟨e, he, rfl⟩ := List.mem_map.mp h
  have hf := List.mem_filter.mp he
  refine List.mem_map.mpr ⟨e, hf.1, ?_⟩
  have hm := hf.2
  unfold meetsB at hm
  rw [Bool.and_eq_true] at hm
  exact Prod.ext (of_decide_eq_true hm.1) rfl
abbrev nmPb : List Str := ["_law_shelf", "_law_start", "_law_seed", "_law_picks", "_law_wanted", "_law_turn", "_law_need", "_law_versions", "_law_pick", "_law_more"]
/-- the frame behind the loop -/
def stPb (sh st p : Addr) (seed : Int) (o4 o5 o6 o7 o8 o9 : Option V) : L2.St := [some (.ref sh), some (.ref st), some (.int seed), some (.ref p), o4, o5, o6, o7, o8, o9]
section
variable {P : Program} {w : World} {K : PySem.W.Frag} {mg : Str → Option Value} {base : Heap} {f : Addr} {fd : FuncData}
theorem scPb : FnScope nmPb ["_law_shelf", "_law_start", "_law_seed"] (defScope sPicksBy) := ⟨rfl, rfl, rfl, by decide +kernel, rfl, by decide +kernel, by decide +kernel⟩
theorem ok_picksBy {g g2 : Addr} {gd gd2 : FuncData} (F : Fun K "_law_picks_by" "_law_picks_by" sPicksBy f fd) (T : Txt K mg) (G : FnOk P w K mg base CX0 2 g gd ["_law_shelf", "_law_need"] (spNewest K)) (bG : Binds K gd ["_law_shelf", "_law_need"] []) (kG : PySem.W.keepIn K (.ref g) = true) (mG : mg "_law_newest" = some (.ref g))
    (G2 : FnOk P w K mg base CX0 1 g2 gd2 ["_law_shelf", "_law_pick"] spNeedsIn) (bG2 : Binds K gd2 ["_law_shelf", "_law_pick"] []) (kG2 : PySem.W.keepIn K (.ref g2) = true) (mG2 : mg "_law_needs_in" = some (.ref g2)) :
    FnOk P w K mg base CX0 3 f fd ["_law_shelf", "_law_start", "_law_seed"] spPicksBy := by
  refine F.ok scPb (fun vs H Q E h => ?_) (fun cdv A outer s H vs Q E hr h => ?_)
  · obtain ⟨sh, st, seed, es, sn, rfl, _⟩ := h
    rfl
  obtain ⟨sh, st, seed, es, sn, rfl, hsh, hnd, hok, hel, hst, hsp, hsl, q⟩ := h
  have hr1 : Room 1 _ := hr.mono (by decide)
  -- the last two rows
  have r6 : ∃ tR : TS, PSs (cxOf CX0 P w K mg base nmPb "_law_picks_by" (defScope sPicksBy) f cdv A outer s H E).nox ((defBody sPicksBy).drop 6) tR ∧
      ∀ p ps o4 o5 o6 o7 o8 o9 H', PkI H H' p es ps → tR { nx := fun _ H' => Q .non H', rt := Q } (stPb sh st p seed o4 o5 o6 o7 o8 o9) H' := by
    refine ⟨_, (pss_cons (ps_if (pt_cmpR op_eq (pe_op op_mod (pe_op op_fdiv (pv 2) pe_int) pe_int) pe_int (nomark _)) (pss_one (ps_ret (pe_revL rfl rfl T.list rfl T.rev (pv 3)))) pss_nil) (pss_one (ps_ret (pv 3)))), ?_⟩
    intro p ps o4 o5 o6 o7 o8 o9 H' I
    obtain ⟨xs, hx, hxp⟩ := I.at_
    refine ⟨_, rfl, _, _, rfl, rfl, ⟨by decide, by decide⟩, _, _, rfl, rfl, (by show (0 : Int) < 2; decide), rfl, _, rfl, ?_⟩
    refine ite2 (fun _ => ?_) (fun _ => ?_)
    · refine ⟨_, rfl, p, xs, rfl, SqL.of hx, fun p2 hp2 => ?_⟩
      have s2 := same_new hp2 (.lst xs.reverse)
      refine q p2 ps.reverse _ (I.sm.trans s2) ⟨_, upd_same, Paired.mapP (paired_rev hxp) fun _ _ z => PkAt.same s2 z⟩ (onShelf_sub I.on fun k hk => List.mem_reverse.mp hk) ?_ (by rw [List.length_reverse]; exact I.out.2)
      rw [List.map_reverse]
      exact List.pairwise_reverse.mpr (I.nd.imp fun z => Ne.symm z)
    · exact ⟨_, rfl, q p ps H' I.sm I.out.1 I.on I.nd I.out.2⟩
  obtain ⟨tR6, hR6, kR6⟩ := r6
  have r5 : ∃ tR : TS, PSs (cxOf CX0 P w K mg base nmPb "_law_picks_by" (defScope sPicksBy) f cdv A outer s H E).nox ((defBody sPicksBy).drop 5) tR ∧
      ∀ p ps o4 o5 o6 o7 o8 o9 H', PkI H H' p es ps → tR { nx := fun _ H' => Q .non H', rt := Q } (stPb sh st p seed o4 o5 o6 o7 o8 o9) H' := by
    refine ⟨_, (pss_cons (ps_if (PW.pt (pw_and (pt_cmpR op_eq (pe_op op_mod (pv 2) pe_int) pe_int (nomark _)) (pw_and1 (pt_cmpR (op_neD hr.units) (pv 0) (pe_lst pa_nil) (nomark _)))))
        (pss_cons (ps_set (i := 9) scPb.nd rfl (Or.inl rfl) (pe_ix ix_list (pv 0) (pe_op op_mod (pe_op op_fdiv (pv 2) pe_int) (pe_callB call_len_seq rfl T.len PySem.boot_len (pa_cons (pv 0) pa_nil))) (fun _ _ => rfl)))
        (pss_one (ps_if (pt_cmpR (op_notInD hr.units) (pe_ix ix_tup (pv 9) pe_int (fun _ _ => rfl)) (pe_comp (N' := ["_law_pick"]) (n := 1) (js := []) rfl (CompS.closed (by decide +kernel) (by decide +kernel) rfl (by decide +kernel) rfl) (gk_name (by decide)) (pi_list (pv 3))
            (fun C s2 H2 fp => pg_name (i := 0) nd_pb rfl (Or.inl rfl)) (fun C s2 H2 fp => pts_nil) (fun C s2 H2 fp => pe_ix (r := rIxT K) ix_tup (pv 0) pe_int (fun _ _ => rfl))) (by with_unfolding_all rfl))
          (pss_one (ps_expr (pe_bm PySem.F.plainAttrs_list PySem.F.slot_list_append PySem.F.type_list_append mt_append (pv 3) (pa_cons (pe_tup (pa_cons (pe_ix ix_tup (pv 9) pe_int (fun _ _ => rfl)) (pa_cons (pe_ix ix_tup (pv 9) pe_int (fun _ _ => rfl)) pa_nil))) pa_nil)))) pss_nil))) pss_nil) hR6), ?_⟩
    intro p ps o4 o5 o6 o7 o8 o9 H' I
    refine ⟨_, rfl, _, _, rfl, rfl, (by show (0 : Int) < 5; decide), rfl, _, rfl, ?_⟩
    refine ite2 (fun _ => ?_) (fun _ => iteF (kR6 p ps o4 o5 o6 o7 o8 o9 H' I))
    -- shelf != []
    refine ⟨_, rfl, (by show 0 ≤ sizeLine; decide), fun e0 he0 => ?_⟩
    have s1 := same_new he0 (.lst [])
    have I1 := I.same s1
    have hsh1 := ShAt.same I1.sm hsh
    refine ⟨.list (es.map enD), .list [], hsh1.rep, .lst upd_same .nil, okD_shaped (shD_ok hok) (by decide), rfl, _, rfl, ?_⟩
    rw [eqv_nil]
    generalize hHa : upd H' e0 (.lst []) = Ha at *
    cases hes : es with
    | nil => exact iteF (kR6 p ps o4 o5 o6 o7 o8 o9 _ (hes ▸ I1))
    | cons e1 es' =>
      rw [← hes]
      have hem : (es.map enD).isEmpty = false := by rw [hes]; rfl
      rw [hem]
      refine iteT ?_
      obtain ⟨xs, hx, hxp⟩ := hsh1
      have lxs : xs.length = es.length := Paired.length hxp
      have hpos : 0 < (xs.length : Int) := by rw [lxs, hes, List.length_cons]; omega
      obtain ⟨v, hv, hm⟩ := at_any (xs := xs) (i := seed / 5 % (xs.length : Int)) (Int.emod_nonneg _ (by omega)) (Int.emod_lt_of_pos _ hpos)
      obtain ⟨iv, hiv⟩ := List.mem_iff_getElem?.mp hm
      obtain ⟨e, he, q0, na, zs, rfl, h3, h4, h5⟩ := Paired.getR hxp hiv
      have hee := List.mem_of_getElem? he
      refine ⟨_, rfl, _, rfl, _, _, rfl, rfl, ⟨by decide, by decide⟩, _, rfl, sh, _, rfl, .inl (SqL.of hx), _, _, rfl, rfl, hpos, sh, _, _, _, rfl, rfl, SqL.of hx, hv, ?_⟩
      -- more[0] not in [..]
      obtain ⟨ys, hy, hyp⟩ := I1.at_
      have hpl : ps.length ≤ 900 := by have := I1.out.2; omega
      refine ⟨_, rfl, q0, _, _, _, rfl, rfl, SqT.of h3, rfl, _, rfl, p, rfl, ⟨_, SqL.of hy⟩, parts_comp hy hyp hpl fun D H2 s2 hD h2 => ?_⟩
      refine ⟨.str e.1, (ps.map (·.1)).map PyData.str, .str _, .lst h2 (strs_reps _ _), (by simp [PyData.canLay0, (hok e hee).pt.ok]), strs_lay (I1.parts hok), (by show 0 ≤ 60; decide), _, rfl, ?_⟩
      rw [any_str]
      have I2 := I1.same s2
      refine ite2 (fun c => ?_) (fun c => kR6 p ps o4 o5 o6 o7 o8 _ _ I2)
      have hno : e.1 ∉ ps.map (·.1) := fun z => by
        rw [decide_eq_true z] at c
        exact absurd c (by decide)
      refine ⟨_, rfl, .inl ⟨rfl, _, SqL.of (s2 _ _ hy)⟩, _, rfl, q0, _, _, _, rfl, rfl, SqT.of (s2 _ _ h3), rfl, _, rfl, q0, _, _, _, rfl, rfl, SqT.of (s2 _ _ h3), rfl, (by show 2 ≤ sizeLine; decide), fun t ht => ?_⟩
      have s3 := same_new ht (.tup [.str e.1, .int e.2.1])
      have ly := Paired.length hyp
      refine ⟨p, ys, _, rfl, rfl, s3 _ _ (s2 _ _ hy), small1000 (by omega), ?_⟩
      exact kR6 p (ps ++ [keyOf e]) o4 o5 o6 o7 o8 _ _ ((I2.same s3).add (s3 _ _ (s2 _ _ hy)) (Paired.mapP hyp fun _ _ z => PkAt.same (s2.trans s3) z) ⟨t, rfl, upd_same⟩ (List.mem_map_of_mem hee) hno)
  obtain ⟨tR5, hR5, kR5⟩ := r5
  refine ⟨_, (pss_cons (ps_set (i := 3) scPb.nd rfl (Or.inl rfl) (pe_lst pa_nil))
    (pss_cons (ps_set (i := 4) scPb.nd rfl (Or.inl rfl) (pe_callTy call_list_of rfl T.list boot_list (pa_cons (pv 1) pa_nil)))
    (pss_cons (ps_set (i := 5) scPb.nd rfl (Or.inl rfl) (pv 2))
    (pss_cons (ps_while PassesOwn.never (pt_cmpR (op_neD hr.units) (pv 4) (pe_lst pa_nil) (nomark _))
      (pss_cons (ps_set (i := 6) scPb.nd rfl (Or.inl rfl) (pe_ix ix_list (pv 4) pe_int (fun _ _ => rfl)))
      (pss_cons (ps_set (i := 4) scPb.nd rfl (Or.inl rfl) (pe_slice sl_list (pv 4) (po_some pe_int) po_none))
      (pss_cons (ps_set (i := 7) scPb.nd rfl (Or.inl rfl) (pe_call G hr rfl mG kG bG .nil pass0 (pa_cons (pv 0) (pa_cons (pv 6) pa_nil))))
      (pss_one (ps_if (PW.pt (pw_and (pt_cmpR (op_neD hr.units) (pv 7) (pe_lst pa_nil) (nomark _)) (pw_and1 (pt_cmpR (op_notInD hr.units) (pe_ix ix_tup (pv 6) pe_int (fun _ _ => rfl)) (pe_comp (N' := ["_law_pick"]) (n := 1) (js := []) rfl (CompS.closed (by decide +kernel) (by decide +kernel) rfl (by decide +kernel) rfl) (gk_name (by decide)) (pi_list (pv 3))
            (fun C s2 H2 fp => pg_name (i := 0) nd_pb rfl (Or.inl rfl)) (fun C s2 H2 fp => pts_nil) (fun C s2 H2 fp => pe_ix (r := rIxT K) ix_tup (pv 0) pe_int (fun _ _ => rfl))) (by with_unfolding_all rfl)))))
        (pss_cons (ps_set (i := 8) scPb.nd rfl (Or.inl rfl) (pe_tup (pa_cons (pe_ix ix_tup (pv 6) pe_int (fun _ _ => rfl)) (pa_cons (pe_ix ix_list (pv 7) (pe_op op_mod (pv 5) (pe_callB call_len_seq rfl T.len PySem.boot_len (pa_cons (pv 7) pa_nil))) (fun _ _ => rfl)) pa_nil))))
        (pss_cons (ps_set (i := 5) scPb.nd rfl (Or.inl rfl) (pe_op op_fdiv (pv 5) pe_int))
        (pss_cons (ps_expr (pe_bm PySem.F.plainAttrs_list PySem.F.slot_list_append PySem.F.type_list_append mt_append (pv 3) (pa_cons (pv 8) pa_nil)))
        (pss_one (ps_expr (pe_bm PySem.F.plainAttrs_list PySem.F.slot_list_extend PySem.F.type_list_extend mt_extend (pv 4) (pa_cons (pe_call G2 hr1 rfl mG2 kG2 bG2 .nil pass0 (pa_cons (pv 0) (pa_cons (pv 8) pa_nil))) pa_nil))))))) pss_nil))))))
    (pss_cons (ps_if (PW.pt (pw_and (pt_cmpR op_eq (pe_op op_mod (pv 2) pe_int) pe_int (nomark _)) (pw_and1 (pt_cmpR (op_neD hr.units) (pv 3) (pe_lst pa_nil) (nomark _)))))
        (pss_one (ps_set (i := 3) scPb.nd rfl (Or.inl rfl) (pe_slice sl_list (pv 3) (po_some pe_int) po_none))) pss_nil) hR5))))), ?_⟩
  obtain ⟨zs0, hz0, hzp0⟩ := hst
  -- picks = [], wanted = list(start), turn = seed
  refine ⟨(by show 0 ≤ sizeLine; decide), fun p hp => ?_⟩
  have s1 := same_new hp (.lst [])
  refine ⟨_, rfl, st, zs0, rfl, .inl (SqL.of (s1 _ _ hz0)), fun wa hwa => ?_⟩
  have s2 := s1.trans (same_new hwa (.lst zs0))
  have npw : p ≠ wa := ne_of_none (o := .lst []) upd_same hwa
  refine ⟨_, rfl, ?_⟩
  have lsn := Paired.length hzp0
  refine ⟨PbI H es sh st p seed, ⟨101 * leftE es [] + sn.length, ⟨wa, sn, [], seed, none, none, none, rfl, ⟨⟨[], by rw [upd_ne npw]; exact upd_same, .nil⟩, hp, s2, (fun k hk => nomatch hk), List.nodup_nil⟩,
    ⟨⟨zs0, upd_same, Paired.mapP hzp0 fun _ _ z => NdAt.same s2 z⟩, s1.free hwa, hsp⟩, Ne.symm npw, rfl⟩, by have := leftE_le es []; omega⟩, ?_⟩
  rintro m σ H2 ⟨⟨wa, wn, ps, tn, o6, o7, o8, rfl, I, ⟨⟨zs, hz, hzp⟩, hnw, hwo⟩, hwp, hm⟩, hle⟩
  have lz := Paired.length hzp
  -- while wanted != []
  refine ⟨_, rfl, (by show 0 ≤ sizeLine; decide), fun e0 he0 => ?_⟩
  have s3 := same_new he0 (.lst [])
  have I3 := I.same s3
  refine ⟨.list (wn.map ndD), .list [], .lst (s3 _ _ hz) (reps_of (fun _ _ z => NdAt.rep z) (Paired.mapP hzp fun _ _ z => NdAt.same s3 z)), .lst upd_same .nil, okD_shaped (nds_ok hwo) (by decide), rfl, _, rfl, ?_⟩
  rw [eqv_nil]
  generalize hHa : upd H2 e0 (.lst []) = Ha at *
  cases hwn : wn with
  | nil =>
    refine iteF ?_
    -- the first test behind the loop
    refine ⟨_, rfl, _, _, rfl, rfl, (by show (0 : Int) < 5; decide), rfl, _, rfl, ?_⟩
    refine ite2 (fun _ => ?_) (fun _ => iteF (kR5 p ps _ _ _ _ _ _ _ I3))
    obtain ⟨ys, hy, hyp⟩ := I3.at_
    refine ⟨_, rfl, (by show 0 ≤ sizeLine; decide), fun e2 he2 => ?_⟩
    have s4 := same_new he2 (.lst [])
    have I4 := I3.same s4
    refine ⟨.list (ps.map pkD), .list [], .lst (s4 _ _ hy) (reps_of (fun _ _ z => PkAt.rep z) (Paired.mapP hyp fun _ _ z => PkAt.same s4 z)), .lst upd_same .nil, okD_shaped (pks_ok I.on hok) (by decide), rfl, _, rfl, ?_⟩
    refine ite2 (fun _ => ?_) (fun _ => kR5 p ps _ _ _ _ _ _ _ I4)
    refine ⟨_, rfl, 1, rfl, p, ys, rfl, SqL.of (s4 _ _ hy), fun p2 hp2 => ?_⟩
    have s5 := same_new hp2 (.lst (cutV ys (some 1) none))
    -- the rest of the picks
    obtain ⟨i1, i2, hcut⟩ : ∃ i1 i2, cutV ys (some 1) none = (ys.drop i1).take i2 := ⟨_, _, rfl⟩
    rw [hcut] at s5 ⊢
    have hsub : ∀ k ∈ (ps.drop i1).take i2, k ∈ ps := fun k hk => List.mem_of_mem_drop (List.mem_of_mem_take hk)
    have hpd : Paired (PkAt Ha) ((ys.drop i1).take i2) ((ps.drop i1).take i2) := by
      have hd : ∀ {as : List V} {bs : List Pk} (n : Nat), Paired (PkAt Ha) as bs → Paired (PkAt Ha) (as.drop n) (bs.drop n) := by
        intro as bs n r
        induction r generalizing n with
        | nil => simpa using Paired.nil
        | cons h t ih =>
          cases n with
          | zero => exact .cons h t
          | succ n => exact ih n
      have htk : ∀ {as : List V} {bs : List Pk} (n : Nat), Paired (PkAt Ha) as bs → Paired (PkAt Ha) (as.take n) (bs.take n) := by
        intro as bs n r
        induction r generalizing n with
        | nil => simpa using Paired.nil
        | cons h t ih =>
          cases n with
          | zero => exact .nil
          | succ n => exact .cons h (ih n)
      exact htk i2 (hd i1 hyp)
    have hnd2 : (((ps.drop i1).take i2).map (·.1)).Nodup := I.nd.sublist (((List.take_sublist _ _).trans (List.drop_sublist _ _)).map _)
    refine kR5 p2 ((ps.drop i1).take i2) _ _ _ _ _ _ _ ⟨⟨_, upd_same, Paired.mapP hpd fun _ _ z => PkAt.same (s4.trans s5) z⟩, (I4.sm).free hp2, I4.sm.trans s5, onShelf_sub I.on hsub, hnd2⟩
  | cons n wn' =>
    subst hwn
    cases hzp with
    | @cons v _ zs' _ hv hzp' =>
    refine iteT ⟨fun σ' H' => ∃ m', m' < m ∧ PbI H es sh st p seed m' σ' H', fun _ _ z => z, ?_⟩
    obtain ⟨nq, rfl, hnq⟩ := id hv
    have hz3 := s3 _ _ hz
    have lw : wn'.length + 1 + 101 * leftE es ps = m := by rw [List.length_cons] at hm; omega
    -- need = wanted[0]; wanted = wanted[1:]
    refine ⟨_, rfl, wa, _, _, _, rfl, rfl, SqL.of hz3, atI_nat (j := 0) (v := V.ref nq) rfl, ?_⟩
    refine ⟨_, rfl, 1, rfl, wa, _, rfl, SqL.of hz3, fun wb hwb => ?_⟩
    rw [cut_tail]
    have s4 := same_new hwb (.lst zs')
    have I4 := I3.same s4
    have nwb : H wb = none := I3.sm.free hwb
    have npb : p ≠ wb := by
      obtain ⟨ys, hy, _⟩ := I3.at_
      exact ne_of_none hy hwb
    have s34 := s3.trans s4
    -- versions = newest(shelf, need)
    refine ⟨_, rfl, _, rfl, sh, .ref nq, es, n, rfl, ShAt.same I4.sm hsh, ⟨nq, rfl, s34 _ _ hnq⟩, by omega, fun p5 ms H5 s5 h5 hpm hps p6 hp6 => ?_⟩
    have s6 := same_new hp6 (.lst (ms.map V.int).reverse)
    have h6 : upd H5 p6 (.lst (ms.map V.int).reverse) p6 = some (.lst (ms.reverse.map V.int)) := by rw [upd_same, List.map_reverse]
    generalize hH6 : upd H5 p6 (.lst (ms.map V.int).reverse) = H6 at *
    have s46 := s5.trans s6
    have I6 := I4.same s46
    have sa6 := s34.trans s46
    have h6b : H6 wb = some (.lst zs') := s46 _ _ upd_same
    have hzp6 : Paired (NdAt H6) zs' wn' := Paired.mapP hzp' fun _ _ z => NdAt.same sa6 z
    have hwo' : ∀ x ∈ wn', PartOk x.1 := fun x hx => hwo x (by simp [hx])
    have hml : ms.length ≤ es.length := by rw [hpm.length_eq]; exact metOf_length es n
    -- nothing is added
    have skip : ∀ (H7 : Hp) (o6 o7 o8 : Option V), Same H6 H7 → ∃ m', m' < m ∧ PbI H es sh st p seed m' [some (.ref sh), some (.ref st), some (.int seed), some (.ref p), some (.ref wb), some (.int tn), o6, o7, o8, none] H7 := fun H7 o6 o7 o8 s7 =>
      ⟨101 * leftE es ps + wn'.length, by omega, ⟨wb, wn', ps, tn, o6, o7, o8, rfl, I6.same s7, ⟨⟨zs', s7 _ _ h6b, Paired.mapP hzp6 fun _ _ z => NdAt.same s7 z⟩, nwb, hwo'⟩, Ne.symm npb, rfl⟩, by omega⟩
    -- versions != []
    refine ⟨_, rfl, (by show 0 ≤ sizeLine; decide), fun e1 he1 => ?_⟩
    have s7 := same_new he1 (.lst [])
    refine ⟨.list (ms.reverse.map PyData.int), .list [], .lst (s7 _ _ h6) (ints_reps _ _), .lst upd_same .nil, okD_shaped (k := 1) (by rw [okD, List.all_eq_true]; intro d hd; obtain ⟨i, _, rfl⟩ := List.mem_map.mp hd; rfl) (by decide), rfl, _, rfl, ?_⟩
    rw [eqv_nil]
    generalize hH7 : upd H6 e1 (.lst []) = H7 at *
    cases hmr : ms.reverse with
    | nil => exact iteF (iteF (skip H7 _ _ _ s7))
    | cons z1 ms' =>
      refine iteT ?_
      have I7 := I6.same s7
      obtain ⟨ys, hy, hyp⟩ := I7.at_
      have hpl : ps.length ≤ 900 := by have := I7.out.2; omega
      have sa7 := sa6.trans s7
      refine ⟨_, rfl, nq, _, _, _, rfl, rfl, SqT.of (sa7 _ _ hnq), rfl, _, rfl, p, rfl, ⟨_, SqL.of hy⟩, parts_comp hy hyp hpl fun D H8 s8 hD h8 => ?_⟩
      refine ⟨.str n.1, (ps.map (·.1)).map PyData.str, .str _, .lst h8 (strs_reps _ _), (by simp [PyData.canLay0, (hwo n (by simp)).ok]), strs_lay (I7.parts hok), (by show 0 ≤ 60; decide), _, rfl, ?_⟩
      rw [any_str]
      have I8 := I7.same s8
      refine ite2 (fun c => ?_) (fun c => skip H8 _ _ _ (s7.trans s8))
      have hno : n.1 ∉ ps.map (·.1) := fun z => by
        rw [decide_eq_true z] at c
        exact absurd c (by decide)
      have s78 := s7.trans s8
      have sa8 := sa7.trans s8
      have h8v : H8 p6 = some (.lst (ms.reverse.map V.int)) := s78 _ _ h6
      have hlen : (ms.reverse.map V.int).length = ms.length := by rw [List.length_map, List.length_reverse]
      have hpos : (0 : Int) < ((ms.reverse.map V.int).length : Int) := by rw [hmr]; simp
      obtain ⟨z, hz9, hzm⟩ := at_ints (ns := ms.reverse) (i := tn % ((ms.reverse.map V.int).length : Int)) (Int.emod_nonneg _ (by omega)) (by rw [List.length_map]; rw [List.length_map] at hpos; exact Int.emod_lt_of_pos _ hpos)
      have hkey : (n.1, z) ∈ es.map keyOf := met_key (hpm.mem_iff.mp (List.mem_reverse.mp hzm))
      -- pick = (need[0], versions[turn % len(versions)])
      refine ⟨_, rfl, nq, _, _, _, rfl, rfl, SqT.of (sa8 _ _ hnq), rfl, _, rfl, _, rfl, _, rfl, p6, _, rfl, .inl (SqL.of h8v), _, _, rfl, rfl, hpos, p6, _, _, _, rfl, rfl, SqL.of h8v, hz9, (by show 2 ≤ sizeLine; decide), fun pk hpk => ?_⟩
      have s9 := same_new hpk (.tup [.str n.1, .int z])
      have I9 := I8.same s9
      have h9y := s9 _ _ (s8 _ _ hy)
      have hyp9 : Paired (PkAt (upd H8 pk (.tup [.str n.1, .int z]))) ys ps := Paired.mapP hyp fun _ _ y => PkAt.same (s8.trans s9) y
      -- turn = turn // 2; picks.append(pick)
      refine ⟨_, rfl, _, _, rfl, rfl, ⟨by decide, by decide⟩, ?_⟩
      have ly := Paired.length hyp
      refine ⟨_, rfl, .inl ⟨rfl, _, SqL.of h9y⟩, _, rfl, p, ys, _, rfl, rfl, h9y, small1000 (by omega), ?_⟩
      have IA := I9.add (v := .ref pk) (k := (n.1, z)) h9y hyp9 ⟨pk, rfl, upd_same⟩ hkey hno
      generalize hH9 : upd H8 pk (.tup [.str n.1, .int z]) = H9 at *
      have hpkA : PkAt (upd H9 p (.lst (ys ++ [.ref pk]))) (.ref pk) (n.1, z) := PkAt.updL h9y ⟨pk, rfl, by rw [← hH9]; exact upd_same⟩
      have h9b : H9 wb = some (.lst zs') := s9 _ _ (s78 _ _ h6b)
      have hAb : upd H9 p (.lst (ys ++ [.ref pk])) wb = some (.lst zs') := by rw [upd_ne (Ne.symm npb)]; exact h9b
      have hzA : Paired (NdAt (upd H9 p (.lst (ys ++ [.ref pk])))) zs' wn' := Paired.mapP hzp6 fun _ _ y => NdAt.updL h9y (NdAt.same (s78.trans s9) y)
      generalize hHA : upd H9 p (.lst (ys ++ [.ref pk])) = HA at *
      -- wanted.extend(needs_in(shelf, pick))
      refine ⟨_, rfl, .inl ⟨rfl, _, SqL.of hAb⟩, _, rfl, _, rfl, sh, .ref pk, es, (n.1, z), rfl, ShAt.same IA.sm hsh, hpkA, hnd, fun e he hke na zs2 hna hnz => ?_, fun hno2 => absurd hkey hno2⟩
      have lz' := Paired.length hzA
      have lz2 := Paired.length hnz
      have hfew := (hok e he).few
      have hll := leftE_less (k := (n.1, z)) hno hkey
      refine ⟨wb, na, zs', zs2, rfl, rfl, hAb, hna, by rw [sizeLine_eq]; omega, ?_⟩
      refine ⟨101 * leftE es (ps ++ [(n.1, z)]) + (wn' ++ e.2.2).length, by rw [List.length_append]; omega, ⟨wb, wn' ++ e.2.2, ps ++ [(n.1, z)], _, _, _, _, rfl, IA.updO hAb nwb npb, ⟨⟨_, upd_same, ?_⟩, nwb, fun x hx => ?_⟩, Ne.symm npb, rfl⟩, by rw [List.length_append]; omega⟩
      · have ap : ∀ {as bs : List V} {cs ds : List Nd}, Paired (NdAt HA) as cs → Paired (NdAt HA) bs ds → Paired (NdAt HA) (as ++ bs) (cs ++ ds) := by
          intro as bs cs ds r1 r2
          induction r1 with
          | nil => exact r2
          | cons h t ih => exact .cons h ih
        exact Paired.mapP (ap hzA hnz) fun _ _ y => NdAt.updL hAb y
      · rcases List.mem_append.mp hx with y | y
        · exact hwo' x y
        · exact (hok e he).nd x y
end
end FB

namespace FB
open PySem L2 PyProof.Rows
seal PSs PS PE PT PA
theorem pass0E {X : Cx} : Passes (CXE X.prog X.w) X (fun _ _ _ => False) := fun _ _ _ _ _ _ _ h => by
  obtain ⟨x, cls, H', oe, vs, T, oT, ts, rfl, ho, hg, u, hok, hx, hnx, ex, hc, hd, h1, nTx, hT, hnT, eT, dT, h3, q⟩ := h
  exact q.elim
/-- what stands when the program has answered -/
structure Late (H : Hp) (es : List En) (sn : List Nd) (ps : List Pk) (zs xs : List V) (sh st pk hd rw0 r0 r1 : Addr) : Prop where
  a1 : ShAt H sh es
  a2 : ShAt H hd es
  r : H rw0 = some (.lst [.ref r0, .ref r1])
  r0 : H r0 = some (.lst zs)
  r1 : H r1 = some (.lst xs)
  s : H st = some (.lst zs)
  p : H pk = some (.lst xs)
  zs : Paired (NdAt H) zs sn
  xs : Paired (PkAt H) xs ps
theorem Late.same {H H' : Hp} {es : List En} {sn : List Nd} {ps : List Pk} {zs xs : List V} {sh st pk hd rw0 r0 r1 : Addr} (L : Late H es sn ps zs xs sh st pk hd rw0 r0 r1) (e : Same H H') : Late H' es sn ps zs xs sh st pk hd rw0 r0 r1 :=
  ⟨ShAt.same e L.a1, ShAt.same e L.a2, e _ _ L.r, e _ _ L.r0, e _ _ L.r1, e _ _ L.s, e _ _ L.p, Paired.mapP L.zs fun _ _ z => NdAt.same e z, Paired.mapP L.xs fun _ _ z => PkAt.same e z⟩
theorem two_rep {H : Hp} {sn : List Nd} {ps : List Pk} {zs xs : List V} {l a b : Addr} (hl : H l = some (.lst [.ref a, .ref b])) (ha : H a = some (.lst zs)) (hb : H b = some (.lst xs)) (hz : Paired (NdAt H) zs sn) (hx : Paired (PkAt H) xs ps) : Rep H (.ref l) (.list [.list (sn.map ndD), .list (ps.map pkD)]) :=
  .lst hl (.cons (.lst ha (reps_of (fun _ _ z => NdAt.rep z) hz)) (.cons (.lst hb (reps_of (fun _ _ z => PkAt.rep z) hx)) .nil))
theorem two_ok {es : List En} {sn : List Nd} {ps : List Pk} (hs : ∀ n ∈ sn, PartOk n.1) (hp : onShelf es ps) (hok : ∀ e ∈ es, EnOk e) : okD 10 (.list [.list (sn.map ndD), .list (ps.map pkD)]) = true := by
  refine okD_mono 3 _ 10 (by decide) ?_
  rw [okD, List.all_cons, List.all_cons, nds_ok hs, pks_ok hp hok]
  rfl
theorem two_wgt {sn : List Nd} {ps : List Pk} (h1 : sn.length ≤ 63) (h2 : ps.length ≤ 900) : wgt (.list [.list (sn.map ndD), .list (ps.map pkD)]) ≤ 100000 := by
  have a := wgts_map ndD 4 sn fun n _ => Nat.le_of_eq (wgt_nd n)
  have b := wgts_map pkD 3 ps fun k _ => by simp [pkD, wgt, wgts]
  simp only [wgt, wgts]
  omega
def spLaw (K : PySem.W.Frag) : Sp := fun vs H Q _ => ∃ (a : Addr) (ns : List Int), vs = [.ref a] ∧ SqL K H a (ns.map V.int) ∧ ns.length ≤ 63 ∧ ∀ H', Q (.bl true) H'
/-- a def of the text with its promise -/
structure Gd (P : Program) (w : World) (K : PySem.W.Frag) (mg : Str → Option Value) (base : Heap) (CX : CXT) (k : Nat) (x : Str) (ps : List Str) (sp : Sp) : Prop where
  ex : ∃ g gd, FnOk P w K mg base CX k g gd ps sp ∧ Binds K gd ps [] ∧ PySem.W.keepIn K (.ref g) = true ∧ mg x = some (.ref g)
end FB

namespace FB
open PySem L2 PyProof.Rows
seal PSs PS PE PT PA
theorem NdAt.updO {H : Hp} {p : Addr} {o o' : HO} {v : V} {n : Nd} (hp : H p = some o) (ho : ∀ xs, HO.tup xs ≠ o) (h : NdAt H v n) : NdAt (upd H p o') v n := by
  obtain ⟨q, h1, h2⟩ := h
  exact ⟨q, h1, by rw [upd_ne (ne_of h2 hp (ho _))]; exact h2⟩
def spLFits : Sp := fun vs H Q _ => ∃ (sh st pk : Addr) (es : List En) (sn : List Nd) (ps : List Pk), vs = [.ref sh, .ref st, .ref pk] ∧ ShAt H sh es ∧ (es.map keyOf).Nodup ∧ (∀ e ∈ es, EnOk e) ∧ NdsAt H st sn ∧ (∀ n ∈ sn, PartOk n.1) ∧ sn.length ≤ 900 ∧ PksAt H pk ps ∧ onShelf es ps ∧ (ps.map (·.1)).Nodup ∧ ps.length ≤ 900 ∧
  ∀ b H', Same H H' → FitL es sn ps b → Q (.bl b) H'
def inRows (es : List En) (sn : List Nd) (ps : List Pk) (n : Nd) : Prop := ∃ ns ∈ rows es sn ps, n ∈ ns
structure LfI (H0 : Hp) (es : List En) (sn : List Nd) (ps : List Pk) (sh st pk vd wa sd : Addr) (m : Nat) (σ : L2.St) (H : Hp) : Prop where
  ex : ∃ zs an nm o4 o7, σ = [some (.ref sh), some (.ref st), some (.ref pk), some (.ref vd), o4, some (.ref wa), some (.ref sd), o7] ∧ H vd = some (.dK (pkv ps)) ∧ H sd = some (.dK (mkv nm)) ∧ H wa = some (.lst zs) ∧ Paired (NdAt H) zs an ∧ (∀ n ∈ an, PartOk n.1 ∧ inRows es sn ps n) ∧ nm.Nodup ∧ (∀ x ∈ nm, x ∈ ps.map (·.1)) ∧
    (∀ n ∈ sn, n ∈ an ∨ okN ps n) ∧ (∀ k ∈ ps, k.1 ∈ nm → ∀ n ∈ needsOf es k, n ∈ an ∨ okN ps n) ∧ (∀ fin, Wk es ps an nm fin → Wk es ps sn [] fin) ∧ nm.length + leftP ps nm ≤ ps.length ∧ 101 * leftP ps nm + an.length = m
  sm : Same H0 H
  le : m ≤ 100000
theorem lenb (fin : List Str) (ps : List Pk) : decide (V.int ((mkv fin).length : Int) = V.int (ps.length : Int)) = decide (fin.length = ps.length) := by
  have h1 : (mkv fin).length = fin.length := by unfold mkv; rw [List.length_map]
  rw [h1]
  by_cases z : fin.length = ps.length
  · rw [decide_eq_true z, decide_eq_true (by rw [z])]
  · rw [decide_eq_false z, decide_eq_false (fun y => z (by injection y with y; exact Int.ofNat.inj y))]
section
variable {P : Program} {w : World} {K : PySem.W.Frag} {mg : Str → Option Value} {base : Heap} {f : Addr} {fd : FuncData}
theorem scLf : FnScope ["_law_shelf", "_law_start", "_law_picks", "_law_version", "_law_pick", "_law_wanted", "_law_seen", "_law_need"] ["_law_shelf", "_law_start", "_law_picks"] (defScope sLFits) := ⟨rfl, rfl, rfl, by decide +kernel, rfl, by decide +kernel, by decide +kernel⟩
theorem ok_lfits {g g2 : Addr} {gd gd2 : FuncData} (F : Fun K "_law_fits" "_law_fits" sLFits f fd) (T : Txt K mg) (G : FnOk P w K mg base CX0 1 g gd ["_law_shelf", "_law_pick"] spNeedsIn) (bG : Binds K gd ["_law_shelf", "_law_pick"] []) (kG : PySem.W.keepIn K (.ref g) = true) (mG : mg "_law_needs_in" = some (.ref g))
    (G2 : FnOk P w K mg base CX0 1 g2 gd2 ["_law_need", "_law_version"] (spLMeets K)) (bG2 : Binds K gd2 ["_law_need", "_law_version"] []) (kG2 : PySem.W.keepIn K (.ref g2) = true) (mG2 : mg "_law_meets" = some (.ref g2)) :
    FnOk P w K mg base CX0 2 f fd ["_law_shelf", "_law_start", "_law_picks"] spLFits := by
  refine F.ok scLf (fun vs H Q E h => ?_) (fun cdv A outer s H vs Q E hr h => ?_)
  · obtain ⟨sh, st, pk, es, sn, ps, rfl, _⟩ := h
    rfl
  obtain ⟨sh, st, pk, es, sn, ps, rfl, hsh, hnd, hok, ⟨zs0, hst, hsn⟩, hsp, hsl, ⟨xs, hx, hp⟩, hon, hpn, hpl, q⟩ := h
  have hu := hu_of hr
  refine ⟨_, (pss_cons (ps_set (i := 3) scLf.nd rfl (Or.inl rfl) pe_dnewK)
    (pss_cons (ps_for PassesOwn.never rfl (pi_list (pv 2)) (pg_name (i := 4) scLf.nd rfl (Or.inl rfl))
      (pss_cons (ps_if (PW.pt (pw_or (pt_cmp (pc_din hu (pe_ix ix_tup (pv 4) pe_int (fun _ _ => rfl)) (pv 3))) (pw_or1 (pt_cmp (pc_isN (pe_call G hr rfl mG kG bG .nil pass0 (pa_cons (pv 0) (pa_cons (pv 4) pa_nil)))))))) (pss_one (ps_ret pe_bl)) pss_nil)
      (pss_one (ps_dput hu (pv 3) (pe_ix ix_tup (pv 4) pe_int (fun _ _ => rfl)) (pe_ix ix_tup (pv 4) pe_int (fun _ _ => rfl)) rfl))))
    (pss_cons (ps_set (i := 5) scLf.nd rfl (Or.inl rfl) (pe_callTy call_list_of rfl T.list boot_list (pa_cons (pv 1) pa_nil)))
    (pss_cons (ps_set (i := 6) scLf.nd rfl (Or.inl rfl) pe_dnewK)
    (pss_cons (ps_while PassesOwn.never (pt_cmpR (op_neD hr.units) (pv 5) (pe_lst pa_nil) (nomark _))
      (pss_cons (ps_set (i := 7) scLf.nd rfl (Or.inl rfl) (pe_bm0 PySem.F.plainAttrs_list PySem.F.slot_list_pop PySem.F.type_list_pop mt_pop (pv 5)))
      (pss_cons (ps_if (PW.pt (pw_or (pt_cmp (pc_dnotin hu (pe_ix ix_tup (pv 7) pe_int (fun _ _ => rfl)) (pv 3))) (pw_or1 (pt_not (pt_val (pe_call G2 hr rfl mG2 kG2 bG2 .nil pass0 (pa_cons (pv 7) (pa_cons (pe_dget hu (pv 3) (pe_ix ix_tup (pv 7) pe_int (fun _ _ => rfl)) (fun _ _ => rfl)) pa_nil)))))))) (pss_one (ps_ret pe_bl)) pss_nil)
      (pss_one (ps_if (pt_cmp (pc_dnotin hu (pe_ix ix_tup (pv 7) pe_int (fun _ _ => rfl)) (pv 6)))
        (pss_cons (ps_dput hu (pv 6) (pe_ix ix_tup (pv 7) pe_int (fun _ _ => rfl)) pe_bl rfl)
        (pss_one (ps_expr (pe_bm PySem.F.plainAttrs_list PySem.F.slot_list_extend PySem.F.type_list_extend mt_extend (pv 5) (pa_cons (pe_call G hr rfl mG kG bG .nil pass0 (pa_cons (pv 0) (pa_cons (pe_tup (pa_cons (pe_ix ix_tup (pv 7) pe_int (fun _ _ => rfl)) (pa_cons (pe_dget hu (pv 3) (pe_ix ix_tup (pv 7) pe_int (fun _ _ => rfl)) (fun _ _ => rfl)) pa_nil))) pa_nil))) pa_nil))))) pss_nil)))))
    (pss_one (ps_ret (pe_cmpR op_eq (pe_callB call_lenD rfl T.len PySem.boot_len (pa_cons (pv 6) pa_nil)) (pe_callB call_len_seq rfl T.len PySem.boot_len (pa_cons (pv 2) pa_nil)) (nomark _))))))))), ?_⟩
  have lx : xs.length = ps.length := Paired.length hp
  -- version = {}; for pick in picks
  refine fun vd hvd => ?_
  have s1 := same_new hvd (.dK [])
  refine ⟨_, rfl, pk, rfl, ⟨xs, SqL.of (s1 _ _ hx)⟩, for_list (K := K) (a := pk) (xs := xs) (fun i σ H2 => ∃ o4, σ = [some (.ref sh), some (.ref st), some (.ref pk), some (.ref vd), o4, none, none, none] ∧ Same H H2 ∧ H2 vd = some (.dK (pkv (ps.take i))))
    ⟨none, rfl, s1, upd_same⟩ (fun i σ H2 _ ⟨_, _, s, _⟩ => SqL.of (s _ _ hx)) ?_ ?_⟩
  · rintro i x σ H2 hi ⟨o4, rfl, s2, h2⟩
    obtain ⟨k, hk, kq, rfl, hkq⟩ := Paired.getR hp hi
    have g1 := s2 _ _ hkq
    have hil : i < ps.length := (List.getElem?_eq_some_iff.mp hk).1
    have ht : ps.take (i + 1) = ps.take i ++ [k] := by rw [List.take_succ, hk]; rfl
    have hkin := hon k (List.mem_of_getElem? hk)
    have hn2 : ((ps.take i ++ [k]).map (·.1)).Nodup := by rw [← ht, List.map_take]; exact nodup_of_take _ hpn
    have hvn : verOf (ps.take i) k.1 = none := by
      cases e : verOf (ps.take i) k.1 with
      | none => rfl
      | some z =>
        have := ver_in e
        rw [List.map_append, List.nodup_append] at hn2
        exact absurd rfl (hn2.2.2 k.1 (List.mem_map.mpr ⟨_, this, rfl⟩) k.1 (by simp))
    have hval := valV_pkv k.1 (ps.take i)
    rw [hvn] at hval
    refine ⟨_, rfl, kq, _, _, _, rfl, rfl, SqT.of g1, rfl, _, rfl, vd, _, rfl, DGet.k (k := Sum.inr k.1) h2, _, rfl, ?_⟩
    rw [hval]
    refine iteF ?_
    refine ⟨_, rfl, _, rfl, sh, .ref kq, es, k, rfl, ShAt.same s2 hsh, ⟨kq, rfl, g1⟩, hnd, fun e he hke na zs hna hnz => ?_, fun z => absurd hkin z⟩
    refine ⟨_, rfl, iteF ?_⟩
    refine ⟨_, rfl, kq, _, _, _, rfl, rfl, SqT.of g1, rfl, _, rfl, _, rfl, kq, _, _, _, rfl, rfl, SqT.of g1, rfl, vd, _, rfl, DPut.k (k := Sum.inr k.1) h2 (small1000 (by unfold pkv; rw [List.length_map, List.length_take]; omega)), ?_⟩
    refine ⟨_, rfl, Same.upd s2 hvd, ?_⟩
    have hm := merge_pkv [k] (ps.take i) hn2
    rw [upd_same, ht, ← hm]
    rfl
  rintro σ H2 ⟨o4, rfl, s2, h2⟩
  rw [lx, List.take_length] at h2
  -- wanted = list(start); seen = {}
  refine ⟨_, rfl, st, zs0, rfl, .inl (SqL.of (s2 _ _ hst)), fun wa hwa => ?_⟩
  have s3 := same_new hwa (.lst zs0)
  have waH : H wa = none := s2.free hwa
  refine fun sd hsd => ?_
  have s4 := s3.trans (same_new hsd (.dK []))
  have sdH : H sd = none := (s2.trans s3).free hsd
  have hwa4 : upd (upd H2 wa (.lst zs0)) sd (.dK []) wa = some (.lst zs0) := (same_new hsd _) _ _ upd_same
  have hsd4 : upd (upd H2 wa (.lst zs0)) sd (.dK []) sd = some (.dK (mkv [])) := upd_same
  generalize hH4 : upd (upd H2 wa (.lst zs0)) sd (.dK []) = H4 at *
  have s24 := s2.trans s4
  have hl0 := leftP_le ps []
  have nvs : vd ≠ sd := fun e => by
    have := s3 _ _ h2
    rw [e, hsd] at this
    cases this
  refine ⟨LfI H es sn ps sh st pk vd wa sd, ⟨101 * leftP ps [] + sn.length, ⟨zs0, sn, [], o4, none, rfl, s4 _ _ h2, hsd4, hwa4, Paired.mapP hsn fun _ _ z => NdAt.same s24 z, fun n hn => ⟨hsp n hn, sn, by simp [rows], hn⟩, List.nodup_nil, (fun x hx => nomatch hx), fun n hn => .inl hn, (fun k _ hk => nomatch hk), fun fin h => h, by rw [List.length_nil, Nat.zero_add]; exact hl0, rfl⟩, s24, by omega⟩, ?_⟩
  rintro m σ H5 ⟨⟨zs, an, nm, o4', o7, rfl, h5v, h5s, h5w, hz, hano, hnmn, hnms, hv1, hv2, hW, hnl, hm⟩, sm, hle⟩
  -- while wanted != []
  refine ⟨_, rfl, (by show 0 ≤ sizeLine; decide), fun e0 he0 => ?_⟩
  have s6 := same_new he0 (.lst [])
  refine ⟨.list (an.map ndD), .list [], .lst (s6 _ _ h5w) (reps_of (fun _ _ z => NdAt.rep z) (Paired.mapP hz fun _ _ z => NdAt.same s6 z)), .lst upd_same .nil, okD_shaped (nds_ok fun n hn => (hano n hn).1) (by decide), rfl, _, rfl, ?_⟩
  rw [eqv_nil]
  have sm6 := sm.trans s6
  have h6v := s6 _ _ h5v
  have h6s := s6 _ _ h5s
  have h6w := s6 _ _ h5w
  have hz6 : Paired (NdAt (upd H5 e0 (.lst []))) zs an := Paired.mapP hz fun _ _ z => NdAt.same s6 z
  generalize hH6 : upd H5 e0 (.lst []) = H6 at *
  by_cases hnil : an = []
  · subst hnil
    refine iteF ?_
    refine ⟨_, rfl, sd, mkv nm, rfl, h6s, _, rfl, pk, xs, rfl, .inl (SqL.of (sm6 _ _ hx)), rfl, ?_⟩
    rw [lx, lenb]
    refine q _ H6 sm6 (.inr ⟨nm, hW nm .done, hnmn, hnms, fun n hn => ?_, fun k hk hkn n hn => ?_, rfl⟩)
    · rcases hv1 n hn with y | y
      · cases y
      · exact y
    · rcases hv2 k hk hkn n hn with y | y
      · cases y
      · exact y
  obtain ⟨an', n, rfl⟩ : ∃ an' n, an = an' ++ [n] := ⟨an.dropLast, an.getLast hnil, (List.dropLast_concat_getLast hnil).symm⟩
  have hem : (List.map ndD (an' ++ [n])).isEmpty = false := by simp
  rw [hem]
  obtain ⟨zs', v, rfl, hz', hv⟩ : ∃ zs' v, zs = zs' ++ [v] ∧ Paired (NdAt H6) zs' an' ∧ NdAt H6 v n := by
    clear hano hv1 hv2 hW hm h5w h6w hnil hem hz
    induction an' generalizing zs with
    | nil =>
      cases hz6 with
      | cons h t => cases t; exact ⟨[], _, rfl, .nil, h⟩
    | cons a an' ih =>
      cases hz6 with
      | cons h t =>
        obtain ⟨zs', v, rfl, h1, h2⟩ := ih _ t
        exact ⟨_ :: zs', v, rfl, .cons h h1, h2⟩
  refine iteT ⟨fun σ' H' => ∃ m', m' < m ∧ LfI H es sn ps sh st pk vd wa sd m' σ' H', fun _ _ z => z, ?_⟩
  obtain ⟨nq, rfl, hnq⟩ := id hv
  have hlen : an'.length + 1 + 101 * leftP ps nm = m := by rw [List.length_append, List.length_singleton] at hm; omega
  -- need = wanted.pop()
  refine ⟨_, rfl, .inl ⟨rfl, _, SqL.of h6w⟩, wa, _, _, rfl, rfl, h6w, last_snoc _ _, ?_⟩
  have s7 : Same H (upd H6 wa (.lst (zs' ++ [V.ref nq]).dropLast)) := Same.upd sm6 waH
  have h7w : upd H6 wa (.lst (zs' ++ [V.ref nq]).dropLast) wa = some (.lst zs') := by rw [upd_same, List.dropLast_concat]
  have h7v : upd H6 wa (.lst (zs' ++ [V.ref nq]).dropLast) vd = some (.dK (pkv ps)) := by rw [upd_ne (ne_of h6v h6w (by intro z; cases z))]; exact h6v
  have h7s : upd H6 wa (.lst (zs' ++ [V.ref nq]).dropLast) sd = some (.dK (mkv nm)) := by rw [upd_ne (ne_of h6s h6w (by intro z; cases z))]; exact h6s
  have h7n : upd H6 wa (.lst (zs' ++ [V.ref nq]).dropLast) nq = some (.tup [.str n.1, .int n.2.1, .int n.2.2]) := by rw [upd_ne (ne_of hnq h6w (by intro z; cases z))]; exact hnq
  have hz7 : Paired (NdAt (upd H6 wa (.lst (zs' ++ [V.ref nq]).dropLast))) zs' an' := Paired.mapP hz' fun _ _ y => NdAt.updL h6w y
  generalize hH7 : upd H6 wa (.lst (zs' ++ [V.ref nq]).dropLast) = H7 at *
  obtain ⟨hnp, row, hrow, hnrow⟩ := hano n (by simp)
  have hval := valV_pkv n.1 ps
  -- need[0] not in version or not meets(..)
  refine ⟨_, rfl, nq, _, _, _, rfl, rfl, SqT.of h7n, rfl, _, rfl, vd, _, rfl, DGet.k (k := Sum.inr n.1) h7v, _, rfl, ?_⟩
  cases hvz : verOf ps n.1 with
  | none =>
    rw [hvz] at hval
    rw [hval]
    refine iteT (iteT ?_)
    refine q false H7 s7 (.inl ⟨fun z => ?_, rfl⟩)
    have := z.2 row hrow n hnrow
    unfold lackB at this
    rw [hvz] at this
    cases this
  | some z =>
  rw [hvz] at hval
  rw [hval]
  refine iteF ?_
  have hgv : DGet H7 vd (.str n.1) (some (.int z)) := by
    have := DGet.k (k := Sum.inr n.1) h7v
    rw [hval] at this
    exact this
  refine ⟨_, rfl, _, rfl, _, rfl, nq, _, _, _, rfl, rfl, SqT.of h7n, rfl, vd, _, rfl, hgv, .ref nq, n, z, rfl, ⟨nq, rfl, h7n⟩, _, rfl, ?_⟩
  refine ite2 (fun c => ?_) (fun c => ?_)
  · refine q false H7 s7 (.inl ⟨fun y => ?_, rfl⟩)
    have := y.1 row hrow n hnrow
    unfold clwB at this
    rw [hvz] at this
    dsimp only at this
    unfold inB at this
    rw [c] at this
    cases this
  have hokn : okN ps n := by
    refine ⟨?_, ?_⟩
    · unfold clwB
      rw [hvz]
      exact Bool.eq_false_iff.mpr c
    · unfold lackB
      rw [hvz]
      rfl
  have hkps := ver_in hvz
  -- need[0] not in seen
  refine ⟨_, rfl, nq, _, _, _, rfl, rfl, SqT.of h7n, rfl, _, rfl, sd, _, rfl, DGet.k (k := Sum.inr n.1) h7s, _, rfl, ?_⟩
  rw [valV_mkv]
  by_cases hin : n.1 ∈ nm
  · rw [decide_eq_true hin]
    refine iteF ⟨101 * leftP ps nm + an'.length, by omega, ⟨zs', an', nm, _, _, rfl, h7v, h7s, h7w, hz7, fun x hx => hano x (by simp [hx]), hnmn, hnms, fun x hx => ?_, fun k hk hkn x hx => ?_, fun fin h => hW fin (.old hin h), hnl, rfl⟩, s7, by omega⟩
    · rcases hv1 x hx with y | y
      · rcases List.mem_append.mp y with y | y
        · exact .inl y
        · rw [List.mem_singleton.mp y]; exact .inr hokn
      · exact .inr y
    · rcases hv2 k hk hkn x hx with y | y
      · rcases List.mem_append.mp y with y | y
        · exact .inl y
        · rw [List.mem_singleton.mp y]; exact .inr hokn
      · exact .inr y
  · rw [decide_eq_false hin]
    refine iteT ?_
    have hll := leftP_less hin (ps := ps) (List.mem_map.mpr ⟨_, hkps, rfl⟩)
    have hlm : (mkv nm).length ≤ 900 := by unfold mkv; rw [List.length_map]; omega
    -- seen[need[0]] = True
    refine ⟨_, rfl, _, rfl, nq, _, _, _, rfl, rfl, SqT.of h7n, rfl, sd, _, rfl, DPut.k (k := Sum.inr n.1) h7s (small1000 (by omega)), ?_⟩
    rw [put_mkv hin]
    have s8 : Same H (upd H7 sd (.dK (mkv (nm ++ [n.1])))) := Same.upd s7 sdH
    have h8w : upd H7 sd (.dK (mkv (nm ++ [n.1]))) wa = some (.lst zs') := by rw [upd_ne (ne_of h7w h7s (by intro z; cases z))]; exact h7w
    have h8v : upd H7 sd (.dK (mkv (nm ++ [n.1]))) vd = some (.dK (pkv ps)) := by rw [upd_ne nvs]; exact h7v
    have h8s : upd H7 sd (.dK (mkv (nm ++ [n.1]))) sd = some (.dK (mkv (nm ++ [n.1]))) := upd_same
    have h8n : upd H7 sd (.dK (mkv (nm ++ [n.1]))) nq = some (.tup [.str n.1, .int n.2.1, .int n.2.2]) := by rw [upd_ne (ne_of h7n h7s (by intro z; cases z))]; exact h7n
    have hz8 : Paired (NdAt (upd H7 sd (.dK (mkv (nm ++ [n.1]))))) zs' an' := Paired.mapP hz7 fun _ _ y => NdAt.updO h7s (by intro xs z; cases z) y
    generalize hH8 : upd H7 sd (.dK (mkv (nm ++ [n.1]))) = H8 at *
    have hgv8 : DGet H8 vd (.str n.1) (some (.int z)) := by
      have := DGet.k (k := Sum.inr n.1) h8v
      rw [hval] at this
      exact this
    -- wanted.extend(needs_in(shelf, (need[0], version[need[0]])))
    refine ⟨_, rfl, .inl ⟨rfl, _, SqL.of h8w⟩, _, rfl, _, rfl, nq, _, _, _, rfl, rfl, SqT.of h8n, rfl, _, rfl, _, rfl, nq, _, _, _, rfl, rfl, SqT.of h8n, rfl, vd, _, rfl, hgv8, (by show 2 ≤ sizeLine; decide), fun kt hkt => ?_⟩
    have s9 := same_new hkt (.tup [.str n.1, .int z])
    refine ⟨sh, .ref kt, es, (n.1, z), rfl, ShAt.same (s8.trans s9) hsh, ⟨kt, rfl, upd_same⟩, hnd, fun e he hke na zs2 hna hnz => ?_, fun y => absurd (hon _ hkps) y⟩
    have heq : needsOf es (n.1, z) = e.2.2 := by rw [← hke, needs_found hnd he]
    rw [← heq] at hnz
    have lz' := Paired.length hz'
    have lz2 := Paired.length hnz
    have hfew := needs_few hok (n.1, z)
    have h9w := s9 _ _ h8w
    refine ⟨wa, na, zs', zs2, rfl, rfl, h9w, hna, by rw [sizeLine_eq]; omega, ?_⟩
    have nvw : vd ≠ wa := ne_of h8v h8w (by intro z; cases z)
    have nsw : sd ≠ wa := ne_of h8s h8w (by intro z; cases z)
    refine ⟨101 * leftP ps (nm ++ [n.1]) + (an' ++ needsOf es (n.1, z)).length, by rw [List.length_append]; omega, ⟨zs' ++ zs2, an' ++ needsOf es (n.1, z), nm ++ [n.1], _, _, rfl, by rw [upd_ne nvw]; exact s9 _ _ h8v, by rw [upd_ne nsw]; exact s9 _ _ h8s, upd_same, ?_, fun x hx => ?_, nd_snoc hnmn hin, fun x hx => ?_, fun x hx => ?_, fun k hk hkn x hx => ?_, fun fin h => hW fin (.new hin hvz h), by rw [List.length_append, List.length_singleton]; omega, rfl⟩, Same.upd (s8.trans s9) waH, by rw [List.length_append]; omega⟩
    · have ap : ∀ {as bs : List V} {cs ds : List Nd}, Paired (NdAt (upd H8 kt (.tup [.str n.1, .int z]))) as cs → Paired (NdAt (upd H8 kt (.tup [.str n.1, .int z]))) bs ds → Paired (NdAt (upd H8 kt (.tup [.str n.1, .int z]))) (as ++ bs) (cs ++ ds) := by
        intro as bs cs ds r1 r2
        induction r1 with
        | nil => exact r2
        | cons h t ih => exact .cons h ih
      exact Paired.mapP (ap (Paired.mapP hz8 fun _ _ y => NdAt.same s9 y) hnz) fun _ _ y => NdAt.updL h9w y
    · rcases List.mem_append.mp hx with y | y
      · exact hano x (by simp [y])
      · exact ⟨needs_parts hok _ x y, _, by unfold rows; exact List.mem_cons_of_mem _ (List.mem_map.mpr ⟨_, hkps, rfl⟩), y⟩
    · rcases List.mem_append.mp hx with y | y
      · exact hnms x y
      · rw [List.mem_singleton.mp y]; exact List.mem_map.mpr ⟨_, hkps, rfl⟩
    · rcases hv1 x hx with y | y
      · rcases List.mem_append.mp y with y | y
        · exact .inl (List.mem_append_left _ y)
        · rw [List.mem_singleton.mp y]; exact .inr hokn
      · exact .inr y
    · rcases List.mem_append.mp hkn with y | y
      · rcases hv2 k hk y x hx with y | y
        · rcases List.mem_append.mp y with y | y
          · exact .inl (List.mem_append_left _ y)
          · rw [List.mem_singleton.mp y]; exact .inr hokn
        · exact .inr y
      · have hk1 : k.1 = n.1 := List.mem_singleton.mp y
        have hkv := in_ver hpn hk
        rw [hk1, hvz] at hkv
        have hkk : k = (n.1, z) := Prod.ext hk1 (Option.some.inj hkv).symm
        rw [hkk] at hx
        exact .inl (List.mem_append_right _ hx)
end
end FB

namespace FB
open PySem L2 PyProof.Rows
theorem kit_bb (K : PySem.W.Frag) : PySem.W.kitOne K (.type "bool") (.type "bool") = some true := by kernel_rfl
theorem partD : PartOk "dawn" := ⟨by decide +kernel, by decide +kernel⟩
theorem partE : PartOk "eve" := ⟨by decide +kernel, by decide +kernel⟩
theorem partS : PartOk "self" := ⟨by decide +kernel, by decide +kernel⟩
abbrev nmL4 : List Str := ["_law_script", "_law_shelf", "_law_start", "_law_picks", "_law_seed", "_law_handed", "_law_rows", "_law_found"]
def stL4 (sc sh st pk : Addr) (seed : Int) : L2.St := [some (.ref sc), some (.ref sh), some (.ref st), some (.ref pk), some (.int seed), none, none, none]
/-- shelf, start and picks as they are handed on -/
structure Md (H : Hp) (es : List En) (sn : List Nd) (ps : List Pk) (sh st pk : Addr) : Prop where
  a : ShAt H sh es
  nd : (es.map keyOf).Nodup
  ok : ∀ e ∈ es, EnOk e
  s : NdsAt H st sn
  sp : ∀ n ∈ sn, PartOk n.1
  p : PksAt H pk ps
  on : onShelf es ps
  pn : (ps.map (·.1)).Nodup
theorem Md.same {H H' : Hp} {es : List En} {sn : List Nd} {ps : List Pk} {sh st pk : Addr} (M : Md H es sn ps sh st pk) (e : Same H H') : Md H' es sn ps sh st pk := ⟨ShAt.same e M.a, M.nd, M.ok, NdsAt.same e M.s, M.sp, PksAt.same e M.p, M.on, M.pn⟩
theorem Paired.app {α β : Type} {F : α → β → Prop} {as as' : List α} {bs bs' : List β} (h : Paired F as bs) (h' : Paired F as' bs') : Paired F (as ++ as') (bs ++ bs') := by
  induction h with
  | nil => exact h'
  | cons h t ih => exact .cons h ih
theorem Md.pl {H : Hp} {es : List En} {sn : List Nd} {ps : List Pk} {sh st pk : Addr} (M : Md H es sn ps sh st pk) : ps.length ≤ es.length := len_le ps es M.on M.pn
theorem scL4 : FnScope nmL4 ["_law_script"] (defScope sLaw) := ⟨rfl, rfl, rfl, by decide +kernel, rfl, by decide +kernel, by decide +kernel⟩
/-- a rest of the body, with what it wants -/
def Rest4 (P : Program) (w : World) (K : PySem.W.Frag) (mg : Str → Option Value) (base : Heap) (f : Addr) (cdv : Value) (A : Around) (outer : List Env) (s : Shared) (H : Hp) (Q : VK) (E : XK) (k m n : Nat) (G : List En → Prop) : Prop :=
  ∃ tR : TS, PSs (cxOf CX0 P w K mg base nmL4 "law" (defScope sLaw) f cdv A outer s H E).nox ((defBody sLaw).drop k) tR ∧
      ∀ (es : List En) (sn : List Nd) (ps : List Pk) (sc sh st pk : Addr) (seed : Int) (H' : Hp), Md H' es sn ps sh st pk → es.length < m → sn.length ≤ n → G es → tR { nx := fun _ H' => Q .non H', rt := Q } (stL4 sc sh st pk seed) H'
end FB

namespace FB
open PySem L2 PyProof.Rows
seal PSs PS PE PT PA
section
variable {P : Program} {w : World} {K : PySem.W.Frag} {mg : Str → Option Value} {base : Heap} {f : Addr} {fd : FuncData} {cdv : Value} {A : Around} {outer : List Env} {s : Shared} {H : Hp} {Q : VK} {E : XK}
theorem law7 (T : Txt K mg) (gCopy : Gd P w K mg base CX0 4 "_law_copy_of" ["_law_shelf"] spCopy) (gSt : Gd P w K mg base CX0 4 "_law_stays_so" ["_law_handed", "_law_own"] spStays) (gLf : Gd P w K mg base CX0 4 "_law_fits" ["_law_shelf", "_law_start", "_law_picks"] spLFits) (gFt : Gd P w K mg base (CXE P w) 4 "fits" ["shelf", "start", "picks"] spFits) (hr : Room 4 (A.deeper (envOfC "law" (defScope sLaw) s.heap.objs.size f cdv))) (q : ∀ H', Q (.bl true) H') : Rest4 P w K mg base f cdv A outer s H Q E 7 64 63 (fun _ => True) := by
  obtain ⟨_, _, Cp, bC, kC, mC⟩ := gCopy.ex
  obtain ⟨_, _, St, bT, kT, mT⟩ := gSt.ex
  obtain ⟨_, _, Lf, bL, kL, mL⟩ := gLf.ex
  obtain ⟨_, _, Ft, bF, kF, mF⟩ := gFt.ex
  -- from the copy on
  have r8 : ∃ tR : TS, PSs (cxOf CX0 P w K mg base nmL4 "law" (defScope sLaw) f cdv A outer s H E).nox ((defBody sLaw).drop 8) tR ∧
      ∀ (es : List En) (sn : List Nd) (ps : List Pk) (sc sh st pk : Addr) (seed : Int) (H' : Hp), Md H' es sn ps sh st pk → es.length < 64 → sn.length ≤ 64 → tR { nx := fun _ H' => Q .non H', rt := Q } (stL4 sc sh st pk seed) H' := by
    refine ⟨_, (pss_cons (ps_set (i := 5) scL4.nd rfl (Or.inl rfl) (pe_call Cp hr rfl mC kC bC .nil pass0 (pa_cons (pv 1) pa_nil)))
      (pss_cons (ps_set (i := 6) scL4.nd rfl (Or.inl rfl) (pe_lst (pa_cons (pe_callTy call_list_of rfl T.list boot_list (pa_cons (pv 2) pa_nil)) (pa_cons (pe_callTy call_list_of rfl T.list boot_list (pa_cons (pv 3) pa_nil)) pa_nil))))
      (pss_cons (ps_set (i := 7) scL4.nd rfl (Or.inl rfl) (pe_call (E := fun _ _ _ => False) Ft hr rfl mF kF bF .nil pass0E (pa_cons (pv 5) (pa_cons (pe_ix ix_list (pv 6) pe_int (fun _ _ => rfl)) (pa_cons (pe_ix ix_list (pv 6) pe_int (fun _ _ => rfl)) pa_nil)))))
      (pss_cons (ps_if (PW.pt (pw_or (pt_not (pt_val (pe_call St hr rfl mT kT bT .nil pass0 (pa_cons (pv 5) (pa_cons (pv 1) pa_nil))))) (pw_or1 (pt_not (pt_val (pe_call St hr rfl mT kT bT .nil pass0 (pa_cons (pv 6) (pa_cons (pe_lst (pa_cons (pv 2) (pa_cons (pv 3) pa_nil))) pa_nil)))))))) (pss_one (ps_ret pe_bl)) pss_nil)
      (pss_one (ps_ret (pe_and (pe_callB call_isinst rfl T.isin boot_isinstance (pa_cons (pv 7) (pa_cons (pe_ty rfl T.bool boot_bool) pa_nil))) (pe_one (pe_cmpR op_eq (pv 7) (pe_call Lf hr rfl mL kL bL .nil pass0 (pa_cons (pv 1) (pa_cons (pv 2) (pa_cons (pv 3) pa_nil)))) (nomark _)))))))))), ?_⟩
    intro es sn ps sc sh st pk seed H' M hel hsl
    obtain ⟨zs, hz, hzp⟩ := M.s
    obtain ⟨xs, hx, hxp⟩ := M.p
    have hpl := M.pl
    refine ⟨_, rfl, sh, es, rfl, M.a, by omega, fun hd H1 s1 h1 => ?_⟩
    refine ⟨_, rfl, st, zs, rfl, .inl (SqL.of (s1 _ _ hz)), fun r0 hr0 => ?_⟩
    have sA := same_new hr0 (.lst zs)
    refine ⟨_, rfl, pk, xs, rfl, .inl (SqL.of ((s1.trans sA) _ _ hx)), fun r1 hr1 => ?_⟩
    have sB := sA.trans (same_new hr1 (.lst xs))
    refine ⟨(by show 2 ≤ sizeLine; decide), fun rw0 hrw => ?_⟩
    have sC := sB.trans (same_new hrw (.lst [.ref r0, .ref r1]))
    have hCr0 : upd (upd (upd H1 r0 (.lst zs)) r1 (.lst xs)) rw0 (.lst [.ref r0, .ref r1]) r0 = some (.lst zs) := (same_new hrw _) _ _ ((same_new hr1 _) _ _ upd_same)
    have hCr1 : upd (upd (upd H1 r0 (.lst zs)) r1 (.lst xs)) rw0 (.lst [.ref r0, .ref r1]) r1 = some (.lst xs) := (same_new hrw _) _ _ upd_same
    have hCrw : upd (upd (upd H1 r0 (.lst zs)) r1 (.lst xs)) rw0 (.lst [.ref r0, .ref r1]) rw0 = some (.lst [.ref r0, .ref r1]) := upd_same
    generalize hHC : upd (upd (upd H1 r0 (.lst zs)) r1 (.lst xs)) rw0 (.lst [.ref r0, .ref r1]) = HC at *
    have s1C := s1.trans sC
    have L : Late HC es sn ps zs xs sh st pk hd rw0 r0 r1 := ⟨ShAt.same s1C M.a, ShAt.same sC h1, hCrw, hCr0, hCr1, s1C _ _ hz, s1C _ _ hx, Paired.mapP hzp fun _ _ z => NdAt.same s1C z, Paired.mapP hxp fun _ _ z => PkAt.same s1C z⟩
    have hpo : ∀ k ∈ ps, PartOk k.1 := fun k hk => by
      obtain ⟨e, he, rfl⟩ := List.mem_map.mp (M.on k hk)
      exact (M.ok e he).pt
    refine ⟨_, rfl, _, rfl, rw0, _, _, _, rfl, rfl, SqL.of L.r, atI_nat (j := 0) (v := V.ref r0) rfl, _, rfl, rw0, _, _, _, rfl, rfl, SqL.of L.r, atI_nat (j := 1) (v := V.ref r1) rfl, hd, r1, r0, es, sn, ps, xs, rfl, L.a2, M.ok, hel, M.nd, ⟨zs, L.r0, L.zs⟩, by omega, L.r1, L.xs, hpo, M.on, M.pn, by omega, fun b HD sD hb => ?_⟩
    have LD := L.same sD
    refine ⟨_, rfl, _, rfl, .ref hd, .ref sh, _, rfl, LD.a2.rep, LD.a1.rep, okD_mono 4 _ 10 (by decide) (shD_ok M.ok), Nat.le_trans (wgt_sh M.ok (by omega)) (by decide), fun H3 s3 => ⟨_, rfl, iteF ?_⟩⟩
    have L3 := LD.same s3
    refine ⟨_, rfl, _, rfl, _, rfl, (by show 2 ≤ sizeLine; decide), fun lp hlp => ?_⟩
    have s4 := same_new hlp (.lst [.ref st, .ref pk])
    have L4 := L3.same s4
    refine ⟨.ref rw0, .ref lp, _, rfl, two_rep L4.r L4.r0 L4.r1 L4.zs L4.xs, two_rep upd_same L4.s L4.p L4.zs L4.xs, two_ok M.sp M.on M.ok, ?_, fun H5 s5 => ⟨_, rfl, iteF ?_⟩⟩
    · have a := wgts_map ndD 4 sn fun n _ => Nat.le_of_eq (wgt_nd n)
      have b := wgts_map pkD 3 ps fun k _ => by simp [pkD, wgt, wgts]
      simp only [wgt, wgts]
      omega
    have L5 := L4.same s5
    refine ⟨_, rfl, .bl b, "bool", _, _, rfl, TyOf.bl b, kit_bb K, _, rfl, iteT ?_⟩
    refine ⟨_, rfl, _, rfl, _, rfl, _, rfl, sh, st, pk, es, sn, ps, rfl, L5.a1, M.nd, M.ok, ⟨zs, L5.s, L5.zs⟩, M.sp, by omega, ⟨xs, L5.p, L5.xs⟩, M.on, M.pn, by omega, fun b' H6 s6 hb' => ⟨rfl, ?_⟩⟩
    rw [fit_same hb hb', decide_eq_true rfl]
    exact q H6
  obtain ⟨tR8, hR8, kR8⟩ := r8
  have r7 : ∃ tR : TS, PSs (cxOf CX0 P w K mg base nmL4 "law" (defScope sLaw) f cdv A outer s H E).nox ((defBody sLaw).drop 7) tR ∧
      ∀ (es : List En) (sn : List Nd) (ps : List Pk) (sc sh st pk : Addr) (seed : Int) (H' : Hp), Md H' es sn ps sh st pk → es.length < 64 → sn.length ≤ 63 → tR { nx := fun _ H' => Q .non H', rt := Q } (stL4 sc sh st pk seed) H' := by
    refine ⟨_, (pss_cons (ps_if (pt_cmpR op_eq (pe_op op_mod (pe_op op_fdiv (pv 4) pe_int) pe_int) pe_int (nomark _))
      (pss_one (ps_set (i := 2) scL4.nd rfl (Or.inl rfl) (pe_op op_cat (pv 2) (pe_lst (pa_cons (pe_tup (pa_cons (pe_ix ix_list (pe_lst (pa_cons pe_str (pa_cons pe_str (pa_cons pe_str pa_nil)))) (pe_op op_mod (pe_op op_fdiv (pv 4) pe_int) pe_int) (fun _ _ => rfl)) (pa_cons pe_int (pa_cons pe_int pa_nil)))) pa_nil))))) pss_nil) hR8), ?_⟩
    intro es sn ps sc sh st pk seed H' M hel hsl
    refine ⟨_, rfl, _, _, rfl, rfl, ⟨by decide, by decide⟩, _, _, rfl, rfl, (by show (0 : Int) < 4; decide), rfl, _, rfl, ?_⟩
    refine ite2 (fun _ => ?_) (fun _ => kR8 es sn ps sc sh st pk seed H' M hel (by omega))
    obtain ⟨zs, hz, hzp⟩ := M.s
    refine ⟨_, rfl, (by show 3 ≤ sizeLine; decide), fun l1 hl1 => ?_⟩
    have s1 := same_new hl1 (.lst [.str "eve", .str "dawn", .str "self"])
    obtain ⟨v, hv, hm⟩ := at_any (xs := [V.str "eve", V.str "dawn", V.str "self"]) (i := seed / 48 % 3) (Int.emod_nonneg _ (by decide)) (Int.emod_lt_of_pos _ (by decide))
    obtain ⟨x, rfl, hxp⟩ : ∃ x, v = .str x ∧ PartOk x := by
      simp only [List.mem_cons, List.not_mem_nil, or_false] at hm
      rcases hm with rfl | rfl | rfl
      · exact ⟨_, rfl, partE⟩
      · exact ⟨_, rfl, partD⟩
      · exact ⟨_, rfl, partS⟩
    refine ⟨_, rfl, _, _, rfl, rfl, ⟨by decide, by decide⟩, _, _, rfl, rfl, (by show (0 : Int) < 3; decide), l1, _, _, _, rfl, rfl, SqL.of upd_same, hv, (by show 3 ≤ sizeLine; decide), fun t1 ht1 => ⟨(by show 1 ≤ sizeLine; decide), fun l2 hl2 => ?_⟩⟩
    have s2 := same_new ht1 (.tup [.str x, .int 0, .int 9])
    have s3 := same_new hl2 (.lst [.ref t1])
    have s13 := (s1.trans s2).trans s3
    have lz := Paired.length hzp
    refine ⟨st, l2, zs, _, rfl, rfl, s13 _ _ hz, upd_same, by rw [sizeLine_eq]; show zs.length + 1 ≤ _; omega, fun p3 hp3 => ?_⟩
    have s4 := s13.trans (same_new hp3 (.lst (zs ++ [.ref t1])))
    have M4 := M.same s4
    refine kR8 es (sn ++ [(x, 0, 9)]) ps sc sh p3 pk seed _ ⟨M4.a, M4.nd, M4.ok, ⟨_, upd_same, Paired.snoc (Paired.mapP hzp fun _ _ z => NdAt.same s4 z) ⟨t1, rfl, (same_new hp3 _) _ _ (s3 _ _ upd_same)⟩⟩, fun n hn => ?_, M4.p, M4.on, M4.pn⟩ hel (by rw [List.length_append, List.length_singleton]; omega)
    rcases List.mem_append.mp hn with y | y
    · exact M.sp n y
    · rw [List.mem_singleton.mp y]; exact hxp
  obtain ⟨t, h, k⟩ := r7
  exact ⟨t, h, fun es sn ps sc sh st pk seed H' M a b _ => k es sn ps sc sh st pk seed H' M a b⟩
end
end FB

namespace FB
open PySem L2 PyProof.Rows
seal PSs PS PE PT PA
section
variable {P : Program} {w : World} {K : PySem.W.Frag} {mg : Str → Option Value} {base : Heap} {f : Addr} {fd : FuncData} {cdv : Value} {A : Around} {outer : List Env} {s : Shared} {H : Hp} {Q : VK} {E : XK}
theorem law6 (r7 : Rest4 P w K mg base f cdv A outer s H Q E 7 64 63 (fun _ => True)) : Rest4 P w K mg base f cdv A outer s H Q E 6 63 63 (fun es => ∀ e ∈ es, e.1 ≠ "self") := by
  obtain ⟨tR7, hR7, kR7⟩ := r7
  have r6 : ∃ tR : TS, PSs (cxOf CX0 P w K mg base nmL4 "law" (defScope sLaw) f cdv A outer s H E).nox ((defBody sLaw).drop 6) tR ∧
      ∀ (es : List En) (sn : List Nd) (ps : List Pk) (sc sh st pk : Addr) (seed : Int) (H' : Hp), Md H' es sn ps sh st pk → es.length < 63 → sn.length ≤ 63 → (∀ e ∈ es, e.1 ≠ "self") → tR { nx := fun _ H' => Q .non H', rt := Q } (stL4 sc sh st pk seed) H' := by
    refine ⟨_, (pss_cons (ps_if (pt_cmpR op_eq (pe_op op_mod (pv 4) pe_int) pe_int (nomark _))
      (pss_cons (ps_set (i := 1) scL4.nd rfl (Or.inl rfl) (pe_op op_cat (pe_lst (pa_cons (pe_tup (pa_cons pe_str (pa_cons pe_int (pa_cons (pe_lst (pa_cons (pe_tup (pa_cons pe_str (pa_cons pe_int (pa_cons pe_int pa_nil)))) pa_nil)) pa_nil)))) pa_nil)) (pv 1)))
      (pss_one (ps_set (i := 3) scL4.nd rfl (Or.inl rfl) (pe_op op_cat (pv 3) (pe_lst (pa_cons (pe_tup (pa_cons pe_str (pa_cons pe_int pa_nil))) pa_nil)))))) pss_nil) hR7), ?_⟩
    intro es sn ps sc sh st pk seed H' M hel hsl hself
    refine ⟨_, rfl, _, _, rfl, rfl, (by show (0 : Int) < 3; decide), rfl, _, rfl, ?_⟩
    refine ite2 (fun _ => ?_) (fun _ => kR7 es sn ps sc sh st pk seed H' M (by omega) hsl trivial)
    obtain ⟨ys, hy, hyp⟩ := M.a
    obtain ⟨xs, hx, hxp⟩ := M.p
    have ly := Paired.length hyp
    have lx := Paired.length hxp
    have hpl := M.pl
    -- [('self', 7, [('self', 0, 9)])] + shelf
    refine ⟨(by show 3 ≤ sizeLine; decide), fun t1 ht1 => ⟨(by show 1 ≤ sizeLine; decide), fun l1 hl1 => ⟨(by show 3 ≤ sizeLine; decide), fun t2 ht2 => ⟨(by show 1 ≤ sizeLine; decide), fun l2 hl2 => ?_⟩⟩⟩⟩
    have s1 := same_new ht1 (.tup [.str "self", .int 0, .int 9])
    have s2 := same_new hl1 (.lst [.ref t1])
    have s3 := same_new ht2 (.tup [.str "self", .int 7, .ref l1])
    have s4 := same_new hl2 (.lst [.ref t2])
    have s14 := ((s1.trans s2).trans s3).trans s4
    refine ⟨_, rfl, l2, sh, _, ys, rfl, rfl, upd_same, s14 _ _ hy, by rw [sizeLine_eq]; show 1 + ys.length ≤ _; omega, fun p5 hp5 => ?_⟩
    have s5 := same_new hp5 (.lst ([.ref t2] ++ ys))
    have s15 := s14.trans s5
    have he : EnAt (upd (upd (upd (upd (upd H' t1 (.tup [.str "self", .int 0, .int 9])) l1 (.lst [.ref t1])) t2 (.tup [.str "self", .int 7, .ref l1])) l2 (.lst [.ref t2])) p5 (.lst ([.ref t2] ++ ys))) (.ref t2) ("self", 7, [("self", 0, 9)]) :=
      ⟨t2, l1, [.ref t1], rfl, s5 _ _ (s4 _ _ upd_same), s5 _ _ (s4 _ _ (s3 _ _ upd_same)), .cons ⟨t1, rfl, s5 _ _ (s4 _ _ (s3 _ _ (s2 _ _ upd_same)))⟩ .nil⟩
    have hsh5 : ShAt (upd (upd (upd (upd (upd H' t1 (.tup [.str "self", .int 0, .int 9])) l1 (.lst [.ref t1])) t2 (.tup [.str "self", .int 7, .ref l1])) l2 (.lst [.ref t2])) p5 (.lst ([.ref t2] ++ ys))) p5 (("self", 7, [("self", 0, 9)]) :: es) := ⟨_, upd_same, .cons he (Paired.mapP hyp fun _ _ z => EnAt.same s15 z)⟩
    have M5 := M.same s15
    generalize hH5 : upd (upd (upd (upd (upd H' t1 (.tup [.str "self", .int 0, .int 9])) l1 (.lst [.ref t1])) t2 (.tup [.str "self", .int 7, .ref l1])) l2 (.lst [.ref t2])) p5 (.lst ([.ref t2] ++ ys)) = H5 at *
    -- picks + [('self', 7)]
    refine ⟨_, rfl, (by show 2 ≤ sizeLine; decide), fun t3 ht3 => ⟨(by show 1 ≤ sizeLine; decide), fun l3 hl3 => ?_⟩⟩
    have s6 := same_new ht3 (.tup [.str "self", .int 7])
    have s7 := same_new hl3 (.lst [.ref t3])
    have s67 := s6.trans s7
    refine ⟨pk, l3, xs, _, rfl, rfl, s67 _ _ (s15 _ _ hx), upd_same, by rw [sizeLine_eq]; show xs.length + 1 ≤ _; omega, fun p8 hp8 => ?_⟩
    have s8 := same_new hp8 (.lst (xs ++ [.ref t3]))
    have s68 := s67.trans s8
    have M8 := M5.same s68
    have hpe : ∀ k ∈ ps, k.1 ≠ "self" := fun k hk => by
      obtain ⟨e, he, rfl⟩ := List.mem_map.mp (M.on k hk)
      exact hself e he
    refine kR7 (("self", 7, [("self", 0, 9)]) :: es) sn (ps ++ [(("self", 7) : Pk)]) sc p5 st p8 seed _ ⟨ShAt.same s68 hsh5, ?_, fun e he => ?_, M8.s, M8.sp, ⟨_, upd_same, Paired.snoc (Paired.mapP hxp fun _ _ z => PkAt.same (s15.trans s68) z) ⟨t3, rfl, s8 _ _ (s7 _ _ upd_same)⟩⟩, fun k hk => ?_, ?_⟩ (by rw [List.length_cons]; omega) hsl trivial
    · rw [List.map_cons, List.nodup_cons]
      refine ⟨fun z => ?_, M.nd⟩
      obtain ⟨e, he, hke⟩ := List.mem_map.mp z
      exact hself e he (congrArg Prod.fst hke)
    · rcases List.mem_cons.mp he with y | y
      · subst y; exact ⟨partS, fun n hn => by rw [List.mem_singleton.mp hn]; exact partS, by show 1 ≤ 100; decide⟩
      · exact M.ok e y
    · rw [List.map_cons]
      rcases List.mem_append.mp hk with y | y
      · exact List.mem_cons_of_mem _ (M.on k y)
      · rw [List.mem_singleton.mp y]; exact List.mem_cons_self ..
    · rw [List.map_append]
      refine nd_snoc M.pn fun z => ?_
      obtain ⟨k, hk, hke⟩ := List.mem_map.mp z
      exact hpe k hk hke
  exact r6
end
end FB

namespace FB
open PySem L2 PyProof.Rows
seal PSs PS PE PT PA
section
variable {P : Program} {w : World} {K : PySem.W.Frag} {mg : Str → Option Value} {base : Heap} {f : Addr} {fd : FuncData} {cdv : Value} {A : Around} {outer : List Env} {s : Shared} {H : Hp} {Q : VK} {E : XK}
def both : List En := [("dawn", 0, [("eve", 0, 0)]), ("eve", 0, [("dawn", -1, 0)])]
theorem law5 (T : Txt K mg) (r6 : Rest4 P w K mg base f cdv A outer s H Q E 6 63 63 (fun es => ∀ e ∈ es, e.1 ≠ "self")) : Rest4 P w K mg base f cdv A outer s H Q E 5 60 63 (fun es => ∀ e ∈ es, e.1 ∈ four) := by
  obtain ⟨tR6, hR6, kR6⟩ := r6
  refine ⟨_, (pss_cons (ps_if (pt_cmpR op_eq (pe_op op_mod (pv 4) pe_int) pe_int (nomark _))
      (pss_cons (ps_set (i := 1) scL4.nd rfl (Or.inl rfl) (pe_op op_cat (pv 1) (pe_lst (pa_cons (pe_tup (pa_cons pe_str (pa_cons pe_int (pa_cons (pe_lst (pa_cons (pe_tup (pa_cons pe_str (pa_cons pe_int (pa_cons pe_int pa_nil)))) pa_nil)) pa_nil)))) (pa_cons (pe_tup (pa_cons pe_str (pa_cons pe_int (pa_cons (pe_lst (pa_cons (pe_tup (pa_cons pe_str (pa_cons (pe_un un_neg pe_int) (pa_cons pe_int pa_nil)))) pa_nil)) pa_nil)))) pa_nil)))))
      (pss_one (ps_set (i := 3) scL4.nd rfl (Or.inl rfl) (pe_op op_cat (pe_op op_cat (pe_op op_rep (pe_lst (pa_cons (pe_tup (pa_cons pe_str (pa_cons pe_int pa_nil))) pa_nil)) (pe_callTy call_int1 rfl T.int boot_int (pa_cons (pe_cmpR op_gt (pe_op op_mod (pe_op op_fdiv (pv 4) pe_int) pe_int) pe_int (nomark _)) pa_nil))) (pv 3)) (pe_lst (pa_cons (pe_tup (pa_cons pe_str (pa_cons pe_int pa_nil))) pa_nil)))))) pss_nil) hR6), ?_⟩
  intro es sn ps sc sh st pk seed H' M hel hsl h4
  have hnew : ∀ x : Str, x ∉ four → ∀ e ∈ es, e.1 ≠ x := fun x hx e he z => hx (z ▸ h4 e he)
  have hD := hnew "dawn" (by decide +kernel)
  have hE := hnew "eve" (by decide +kernel)
  have hS := hnew "self" (by decide +kernel)
  refine ⟨_, rfl, _, _, rfl, rfl, (by show (0 : Int) < 3; decide), rfl, _, rfl, ?_⟩
  refine ite2 (fun _ => ?_) (fun _ => kR6 es sn ps sc sh st pk seed H' M (by omega) hsl hS)
  obtain ⟨ys, hy, hyp⟩ := M.a
  obtain ⟨xs, hx, hxp⟩ := M.p
  have ly := Paired.length hyp
  have lx := Paired.length hxp
  have hpl := M.pl
  refine ⟨_, rfl, (by show 3 ≤ sizeLine; decide), fun t1 ht1 => ⟨(by show 1 ≤ sizeLine; decide), fun l1 hl1 => ⟨(by show 3 ≤ sizeLine; decide), fun t2 ht2 => ⟨1, rfl, (by show 3 ≤ sizeLine; decide), fun t3 ht3 => ⟨(by show 1 ≤ sizeLine; decide), fun l3 hl3 => ⟨(by show 3 ≤ sizeLine; decide), fun t4 ht4 => ⟨(by show 2 ≤ sizeLine; decide), fun l2 hl2 => ?_⟩⟩⟩⟩⟩⟩⟩
  have s1 := same_new ht1 (.tup [.str "eve", .int 0, .int 0])
  have s2 := same_new hl1 (.lst [.ref t1])
  have s3 := same_new ht2 (.tup [.str "dawn", .int 0, .ref l1])
  have s4 := same_new ht3 (.tup [.str "dawn", .int (-1), .int 0])
  have s5 := same_new hl3 (.lst [.ref t3])
  have s6 := same_new ht4 (.tup [.str "eve", .int 0, .ref l3])
  have s7 := same_new hl2 (.lst [.ref t2, .ref t4])
  have s17 := (((((s1.trans s2).trans s3).trans s4).trans s5).trans s6).trans s7
  refine ⟨sh, l2, ys, _, rfl, rfl, s17 _ _ hy, upd_same, by rw [sizeLine_eq]; show ys.length + 2 ≤ _; omega, fun p8 hp8 => ?_⟩
  have s8 := same_new hp8 (.lst (ys ++ [.ref t2, .ref t4]))
  have s18 := s17.trans s8
  have s38 := ((((s4.trans s5).trans s6).trans s7).trans s8)
  have s68 := (s7.trans s8)
  have e1 := (s2.trans (s3.trans s38)) _ _ upd_same
  have e2 := (s3.trans s38) _ _ upd_same
  have e3 := s38 _ _ upd_same
  have e4 := (s5.trans (s6.trans s68)) _ _ upd_same
  have e5 := (s6.trans s68) _ _ upd_same
  have e6 := s68 _ _ upd_same
  have e7 := s8 _ _ upd_same
  have e8 : (upd (upd (upd (upd (upd (upd (upd (upd H' t1 (.tup [.str "eve", .int 0, .int 0])) l1 (.lst [.ref t1])) t2 (.tup [.str "dawn", .int 0, .ref l1])) t3 (.tup [.str "dawn", .int (-1), .int 0])) l3 (.lst [.ref t3])) t4 (.tup [.str "eve", .int 0, .ref l3])) l2 (.lst [.ref t2, .ref t4])) p8 (.lst (ys ++ [.ref t2, .ref t4]))) p8 = some (.lst (ys ++ [.ref t2, .ref t4])) := upd_same
  generalize hH8 : upd (upd (upd (upd (upd (upd (upd (upd H' t1 (.tup [.str "eve", .int 0, .int 0])) l1 (.lst [.ref t1])) t2 (.tup [.str "dawn", .int 0, .ref l1])) t3 (.tup [.str "dawn", .int (-1), .int 0])) l3 (.lst [.ref t3])) t4 (.tup [.str "eve", .int 0, .ref l3])) l2 (.lst [.ref t2, .ref t4])) p8 (.lst (ys ++ [.ref t2, .ref t4])) = H8 at *
  have M8 := M.same s18
  have hsh8 : ShAt H8 p8 (es ++ both) :=
    ⟨_, e8, Paired.app (Paired.mapP hyp fun _ _ z => EnAt.same s18 z) (.cons ⟨t2, l1, [.ref t1], rfl, e3, e2, .cons ⟨t1, rfl, e1⟩ .nil⟩ (.cons ⟨t4, l3, [.ref t3], rfl, e6, e5, .cons ⟨t3, rfl, e4⟩ .nil⟩ .nil))⟩
  -- the picks
  refine ⟨(by show 2 ≤ sizeLine; decide), fun t5 ht5 => ⟨(by show 1 ≤ sizeLine; decide), fun l5 hl5 => ?_⟩⟩
  have u1 := same_new ht5 (.tup [.str "dawn", .int 0])
  have u2 := same_new hl5 (.lst [.ref t5])
  refine ⟨_, rfl, _, _, rfl, rfl, ⟨by decide, by decide⟩, _, _, rfl, rfl, (by show (0 : Int) < 4; decide), _, _, rfl, rfl, .inr ⟨_, rfl, ?_⟩⟩
  obtain ⟨k, hk, hk1⟩ : ∃ k : Nat, (if decide (0 < seed / 3 % 4) = true then (1 : Int) else 0) = (k : Int) ∧ k ≤ 1 := by
    cases decide (0 < seed / 3 % 4)
    · exact ⟨0, rfl, by decide⟩
    · exact ⟨1, rfl, by decide⟩
  have hrep : (List.replicate (k : Int).toNat [V.ref t5]).flatten = List.replicate k (V.ref t5) := by
    rw [Int.toNat_natCast]
    match k, hk1 with
    | 0, _ => rfl
    | 1, _ => rfl
  show rRep (.ref l5) (.int (if decide (0 < seed / 3 % 4) = true then (1 : Int) else 0)) _ _
  rw [hk]
  refine ⟨l5, _, _, rfl, rfl, upd_same, by omega, by omega, by rw [sizeLine_eq, Int.toNat_natCast]; show 1 * k ≤ _; omega, fun p6 hp6 => ?_⟩
  have u3 := same_new hp6 (.lst (List.replicate k (V.ref t5)))
  rw [hrep]
  have u13 := (u1.trans u2).trans u3
  refine ⟨_, rfl, p6, pk, _, xs, rfl, rfl, upd_same, u13 _ _ (s18 _ _ hx), by rw [sizeLine_eq, List.length_replicate]; omega, fun p7 hp7 => ?_⟩
  have u4 := same_new hp7 (.lst (List.replicate k (V.ref t5) ++ xs))
  refine ⟨(by show 2 ≤ sizeLine; decide), fun t6 ht6 => ⟨(by show 1 ≤ sizeLine; decide), fun l6 hl6 => ?_⟩⟩
  have u5 := same_new ht6 (.tup [.str "eve", .int 0])
  have u6 := same_new hl6 (.lst [.ref t6])
  refine ⟨p7, l6, _, _, rfl, rfl, (u5.trans u6) _ _ upd_same, upd_same, by rw [sizeLine_eq, List.length_append, List.length_replicate]; show k + xs.length + 1 ≤ _; omega, fun p9 hp9 => ?_⟩
  have u7 := same_new hp9 (.lst (List.replicate k (V.ref t5) ++ xs ++ [.ref t6]))
  have u47 := ((u4.trans u5).trans u6).trans u7
  have u17 := u13.trans u47
  have d5 := ((u2.trans u3).trans u47) _ _ upd_same
  have d6 := (u6.trans u7) _ _ upd_same
  have hpe : ∀ x, (∀ e ∈ es, e.1 ≠ x) → ∀ p ∈ ps, p.1 ≠ x := fun x hx p hp => by
    obtain ⟨e, he, rfl⟩ := List.mem_map.mp (M.on p hp)
    exact hx e he
  have M9 := M8.same u17
  refine kR6 (es ++ both) sn (List.replicate k (("dawn", 0) : Pk) ++ ps ++ [(("eve", 0) : Pk)]) sc p8 st p9 seed _ ⟨ShAt.same u17 hsh8, ?_, fun e he => ?_, M9.s, M9.sp, ⟨_, upd_same, Paired.snoc (Paired.app ?_ (Paired.mapP hxp fun _ _ z => PkAt.same (s18.trans u17) z)) ⟨t6, rfl, d6⟩⟩, fun p hp => ?_, ?_⟩ (by rw [List.length_append]; show es.length + 2 < 63; omega) hsl (fun e he => ?_)
  · rw [List.map_append, show both.map keyOf = [keyOf ("dawn", 0, [("eve", 0, 0)])] ++ [keyOf ("eve", 0, [("dawn", -1, 0)])] from rfl, ← List.append_assoc]
    refine nd_snoc (nd_snoc M.nd fun z => ?_) fun z => ?_
    · obtain ⟨e, he, hke⟩ := List.mem_map.mp z
      exact hD e he (congrArg Prod.fst hke)
    · rcases List.mem_append.mp z with z | z
      · obtain ⟨e, he, hke⟩ := List.mem_map.mp z
        exact hE e he (congrArg Prod.fst hke)
      · exact absurd (congrArg Prod.fst (List.mem_singleton.mp z)) (by show ("eve" : Str) ≠ "dawn"; decide +kernel)
  · rcases List.mem_append.mp he with y | y
    · exact M.ok e y
    · simp only [both, List.mem_cons, List.not_mem_nil, or_false] at y
      rcases y with rfl | rfl
      · exact ⟨partD, fun n hn => by rw [List.mem_singleton.mp hn]; exact partE, by show 1 ≤ 100; decide⟩
      · exact ⟨partE, fun n hn => by rw [List.mem_singleton.mp hn]; exact partD, by show 1 ≤ 100; decide⟩
  · match k, hk1 with
    | 0, _ => exact .nil
    | 1, _ => exact .cons ⟨t5, rfl, d5⟩ .nil
  · rw [List.map_append]
    rcases List.mem_append.mp hp with y | y
    · rcases List.mem_append.mp y with y | y
      · rw [(List.mem_replicate.mp y).2]
        exact List.mem_append.mpr (.inr (List.mem_cons_self ..))
      · exact List.mem_append.mpr (.inl (M.on p y))
    · rw [List.mem_singleton.mp y]
      exact List.mem_append.mpr (.inr (List.mem_cons_of_mem _ (List.mem_cons_self ..)))
  · rw [List.map_append]
    refine nd_snoc ?_ fun z => ?_
    · match k, hk1 with
      | 0, _ => exact M.pn
      | 1, _ =>
        show (("dawn" : Str) :: ps.map (·.1)).Nodup
        rw [List.nodup_cons]
        refine ⟨fun z => ?_, M.pn⟩
        obtain ⟨p, hp, hke⟩ := List.mem_map.mp z
        exact hpe "dawn" hD p hp hke
    · obtain ⟨p, hp, hke⟩ := List.mem_map.mp z
      rcases List.mem_append.mp hp with y | y
      · rw [(List.mem_replicate.mp y).2] at hke
        exact absurd hke (by show ("dawn" : Str) ≠ "eve"; decide +kernel)
      · exact hpe "eve" hE p y hke
  · rcases List.mem_append.mp he with y | y
    · exact hS e y
    · simp only [both, List.mem_cons, List.not_mem_nil, or_false] at y
      rcases y with rfl | rfl
      · show ("dawn" : Str) ≠ "self"; decide +kernel
      · show ("eve" : Str) ≠ "self"; decide +kernel
end
end FB

namespace FB
open PySem L2 PyProof.Rows
seal PSs PS PE PT PA
section
variable {P : Program} {w : World} {K : PySem.W.Frag} {mg : Str → Option Value} {base : Heap} {f : Addr} {fd : FuncData}
theorem ok_law (F : Fun K "law" "law" sLaw f fd) (T : Txt K mg) (gAt : Gd P w K mg base CX0 4 "_law_at" ["_law_script", "_law_k"] (spAt K)) (gAsk : Gd P w K mg base CX0 4 "_law_asked_by" ["_law_script"] (spAsked K)) (gPb : Gd P w K mg base CX0 4 "_law_picks_by" ["_law_shelf", "_law_start", "_law_seed"] spPicksBy)
    (gCopy : Gd P w K mg base CX0 4 "_law_copy_of" ["_law_shelf"] spCopy) (gSt : Gd P w K mg base CX0 4 "_law_stays_so" ["_law_handed", "_law_own"] spStays) (gMix : Gd P w K mg base CX0 4 "_law_mixed" ["_law_script"] (spMixed K)) (gLf : Gd P w K mg base CX0 4 "_law_fits" ["_law_shelf", "_law_start", "_law_picks"] spLFits) (gFt : Gd P w K mg base (CXE P w) 4 "fits" ["shelf", "start", "picks"] spFits) :
    FnOk P w K mg base CX0 5 f fd ["_law_script"] (spLaw K) := by
  refine F.ok scL4 (fun vs H Q E h => ?_) (fun cdv A outer s H vs Q E hr h => ?_)
  · obtain ⟨a, ns, rfl, _⟩ := h
    rfl
  obtain ⟨a, ns, rfl, hS, h63, q⟩ := h
  obtain ⟨_, _, At, bA, kA, mA⟩ := gAt.ex
  obtain ⟨_, _, Ask, bAk, kAk, mAk⟩ := gAsk.ex
  obtain ⟨_, _, Pb, bP, kP, mP⟩ := gPb.ex
  obtain ⟨_, _, Mx, bX, kX, mX⟩ := gMix.ex
  obtain ⟨tR5, hR5, kR5⟩ := law5 (A := A) (outer := outer) (cdv := cdv) (s := s) (H := H) (Q := Q) (E := E) (f := f) T (law6 (law7 T gCopy gSt gLf gFt hr q))
  refine ⟨_, (pss_cons (ps_set (i := 0) scL4.nd rfl (Or.inl rfl) (pe_slice sl_list (pv 0) po_none (po_some pe_int)))
    (pss_cons (ps_set (i := 0) scL4.nd rfl (Or.inl rfl) (pe_call Mx hr rfl mX kX bX .nil pass0 (pa_cons (pv 0) pa_nil)))
    (pss_cons (ps_asg (pe_call Ask hr rfl mAk kAk bAk .nil pass0 (pa_cons (pv 0) pa_nil)) (pg_tup rfl (pgs_cons (pg_name (i := 1) scL4.nd rfl (Or.inl rfl)) (pgs_cons (pg_name (i := 2) scL4.nd rfl (Or.inl rfl)) pgs_nil))))
    (pss_cons (ps_set (i := 3) scL4.nd rfl (Or.inl rfl) (pe_call Pb hr rfl mP kP bP .nil pass0 (pa_cons (pv 1) (pa_cons (pv 2) (pa_cons (pe_op op_mod (pe_op op_fdiv (pe_call At hr rfl mA kA bA .nil pass0 (pa_cons (pv 0) (pa_cons pe_int pa_nil))) pe_int) pe_int) pa_nil)))))
    (pss_cons (ps_set (i := 4) scL4.nd rfl (Or.inl rfl) (pe_op op_mod (pe_call At hr rfl mA kA bA .nil pass0 (pa_cons (pv 0) (pa_cons pe_int pa_nil))) pe_int))
    hR5))))), ?_⟩
  obtain ⟨m1, e1, l1⟩ := cut_ints ns none (some 500)
  refine ⟨_, rfl, 500, rfl, a, _, rfl, hS, fun p1 hp1 => ?_⟩
  rw [e1]
  refine ⟨_, rfl, p1, m1, rfl, SqL.of upd_same, by omega, fun p2 m2 H2 s2 h2 l2 => ?_⟩
  refine ⟨_, rfl, p2, m2, rfl, SqL.of h2, by omega, fun t sh st es sn H3 s3 h3 hsh hnd hok hel h4 hst hsp hsl => ?_⟩
  refine ⟨t, _, rfl, SqT.of h3, rfl, _, _, rfl, _, _, rfl, rfl, ?_⟩
  refine ⟨_, rfl, _, rfl, _, rfl, p2, m2, 0, rfl, SqL.of (s3 _ _ h2), Int.le_refl 0, fun z0 => ⟨_, _, rfl, rfl, ⟨by decide, by decide⟩, _, _, rfl, rfl, (by show (0 : Int) < 1000; decide), sh, st, _, es, sn, rfl, hsh, hnd, hok, hel, hst, hsp, hsl, fun pk ps H4 s4 hpk hon hpn hpl => ?_⟩⟩
  refine ⟨_, rfl, p2, m2, 1, rfl, SqL.of (s4 _ _ (s3 _ _ h2)), by decide, fun z1 => ⟨_, _, rfl, rfl, (by show (0 : Int) < 1000; decide), ?_⟩⟩
  exact kR5 es sn ps p2 sh st pk _ H4 ⟨ShAt.same s4 hsh, hnd, hok, NdsAt.same s4 hst, hsp, hpk, hon, hpn⟩ (by omega) hsl h4
end
end FB

namespace FB
open PySem L2
theorem all_mk {l : PySem.W.OpenLaw} {w : World} {K : PySem.W.Frag} {h : Heap} {mg : Str → Option Value} {fa C CT CN CV f1 f2 f3 f4 f5 f6 f7 f8 f9 f10 f11 f12 f13 f14 f15 f16 f17 f18 f19 f20 f21 f22 f23 fm1 : Addr} (X : K.In h) (G : h.Ns mainGlobals mg) (hfa : mg "law" = some (.ref fa))
    {od1 an1 od2 an2 od3 an3 od4 an4 od5 an5 od6 an6 od7 an7 od8 an8 od9 an9 od10 an10 od11 an11 od12 an12 od13 an13 od14 an14 od15 an15 od16 an16 od17 an17 od18 an18 od19 an19 od20 an20 od21 an21 od22 an22 od23 an23 odm1 anm1 : Option Addr} {sl1 sl2 sl3 sl4 sl5 sl6 sl7 sl8 sl9 sl10 sl11 sl12 sl13 sl14 sl15 sl16 sl17 sl18 sl19 sl20 sl21 sl22 sl23 slm1 : Array (Option Value)} {oc1 kV1 dc1 pm1 cd1 ct1 oc2 kV2 dc2 pm2 cd2 ct2 oc3 kV3 dc3 pm3 cd3 ct3 oc4 kV4 dc4 pm4 cd4 ct4 oc5 kV5 dc5 pm5 cd5 ct5 oc6 kV6 dc6 pm6 cd6 ct6 oc7 kV7 dc7 pm7 cd7 ct7 oc8 kV8 dc8 pm8 cd8 ct8 oc9 kV9 dc9 pm9 cd9 ct9 oc10 kV10 dc10 pm10 cd10 ct10 oc11 kV11 dc11 pm11 cd11 ct11 oc12 kV12 dc12 pm12 cd12 ct12 oc13 kV13 dc13 pm13 cd13 ct13 oc14 kV14 dc14 pm14 cd14 ct14 oc15 kV15 dc15 pm15 cd15 ct15 oc16 kV16 dc16 pm16 cd16 ct16 oc17 kV17 dc17 pm17 cd17 ct17 oc18 kV18 dc18 pm18 cd18 ct18 oc19 kV19 dc19 pm19 cd19 ct19 oc20 kV20 dc20 pm20 cd20 ct20 oc21 kV21 dc21 pm21 cd21 ct21 oc22 kV22 dc22 pm22 cd22 ct22 oc23 kV23 dc23 pm23 cd23 ct23 ocm1 kVm1 dcm1 pmm1 cdm1 ctm1 : Value}
    (a1 : PySem.W.nsIn K mainGlobals "clashes" = some (some (.ref f1))) (l1 : K.lookup f1 = some ⟨oc1, od1, .func (PySem.W.fnOf "clashes" "clashes" (defArgs sClashes) (defBody sClashes) (defScope sClashes) .none kV1 dc1 pm1 an1 cd1 ct1), sl1⟩) (c1 : PySem.W.codeIn K cd1 "clashes" = true) (k1 : PySem.W.keepIn K (.ref f1) = true)
    (a2 : PySem.W.nsIn K mainGlobals "fits" = some (some (.ref f2))) (l2 : K.lookup f2 = some ⟨oc2, od2, .func (PySem.W.fnOf "fits" "fits" (defArgs sFits) (defBody sFits) (defScope sFits) .none kV2 dc2 pm2 an2 cd2 ct2), sl2⟩) (c2 : PySem.W.codeIn K cd2 "fits" = true) (k2 : PySem.W.keepIn K (.ref f2) = true)
    (a3 : PySem.W.nsIn K mainGlobals "checked_board" = some (some (.ref f3))) (l3 : K.lookup f3 = some ⟨oc3, od3, .func (PySem.W.fnOf "checked_board" "checked_board" (defArgs sChecked) (defBody sChecked) (defScope sChecked) .none kV3 dc3 pm3 an3 cd3 ct3), sl3⟩) (c3 : PySem.W.codeIn K cd3 "checked_board" = true) (k3 : PySem.W.keepIn K (.ref f3) = true)
    (a4 : PySem.W.nsIn K mainGlobals "check_picks" = some (some (.ref f4))) (l4 : K.lookup f4 = some ⟨oc4, od4, .func (PySem.W.fnOf "check_picks" "check_picks" (defArgs sCheckP) (defBody sCheckP) (defScope sCheckP) .none kV4 dc4 pm4 an4 cd4 ct4), sl4⟩) (c4 : PySem.W.codeIn K cd4 "check_picks" = true) (k4 : PySem.W.keepIn K (.ref f4) = true)
    (a5 : PySem.W.nsIn K mainGlobals "clashes_with" = some (some (.ref f5))) (l5 : K.lookup f5 = some ⟨oc5, od5, .func (PySem.W.fnOf "clashes_with" "clashes_with" (defArgs sClw) (defBody sClw) (defScope sClw) .none kV5 dc5 pm5 an5 cd5 ct5), sl5⟩) (c5 : PySem.W.codeIn K cd5 "clashes_with" = true) (k5 : PySem.W.keepIn K (.ref f5) = true)
    (a6 : PySem.W.nsIn K mainGlobals "lacks_pick" = some (some (.ref f6))) (l6 : K.lookup f6 = some ⟨oc6, od6, .func (PySem.W.fnOf "lacks_pick" "lacks_pick" (defArgs sLack) (defBody sLack) (defScope sLack) .none kV6 dc6 pm6 an6 cd6 ct6), sl6⟩) (c6 : PySem.W.codeIn K cd6 "lacks_pick" = true) (k6 : PySem.W.keepIn K (.ref f6) = true)
    (a7 : PySem.W.nsIn K mainGlobals "first_need" = some (some (.ref f7))) (l7 : K.lookup f7 = some ⟨oc7, od7, .func (PySem.W.fnOf "first_need" "first_need" (defArgs sFirst) (defBody sFirst) (defScope sFirst) .none kV7 dc7 pm7 an7 cd7 ct7), sl7⟩) (c7 : PySem.W.codeIn K cd7 "first_need" = true) (k7 : PySem.W.keepIn K (.ref f7) = true)
    (a8 : PySem.W.nsIn K mainGlobals "named_parts" = some (some (.ref f8))) (l8 : K.lookup f8 = some ⟨oc8, od8, .func (PySem.W.fnOf "named_parts" "named_parts" (defArgs sNamed) (defBody sNamed) (defScope sNamed) .none kV8 dc8 pm8 an8 cd8 ct8), sl8⟩) (c8 : PySem.W.codeIn K cd8 "named_parts" = true) (k8 : PySem.W.keepIn K (.ref f8) = true)
    (a9 : PySem.W.nsIn K mainGlobals "_law_at" = some (some (.ref f9))) (l9 : K.lookup f9 = some ⟨oc9, od9, .func (PySem.W.fnOf "_law_at" "_law_at" (defArgs sAt) (defBody sAt) (defScope sAt) .none kV9 dc9 pm9 an9 cd9 ct9), sl9⟩) (c9 : PySem.W.codeIn K cd9 "_law_at" = true) (k9 : PySem.W.keepIn K (.ref f9) = true)
    (a10 : PySem.W.nsIn K mainGlobals "_law_version_by" = some (some (.ref f10))) (l10 : K.lookup f10 = some ⟨oc10, od10, .func (PySem.W.fnOf "_law_version_by" "_law_version_by" (defArgs sVer) (defBody sVer) (defScope sVer) .none kV10 dc10 pm10 an10 cd10 ct10), sl10⟩) (c10 : PySem.W.codeIn K cd10 "_law_version_by" = true) (k10 : PySem.W.keepIn K (.ref f10) = true)
    (a11 : PySem.W.nsIn K mainGlobals "_law_need_by" = some (some (.ref f11))) (l11 : K.lookup f11 = some ⟨oc11, od11, .func (PySem.W.fnOf "_law_need_by" "_law_need_by" (defArgs sNeed) (defBody sNeed) (defScope sNeed) .none kV11 dc11 pm11 an11 cd11 ct11), sl11⟩) (c11 : PySem.W.codeIn K cd11 "_law_need_by" = true) (k11 : PySem.W.keepIn K (.ref f11) = true)
    (a12 : PySem.W.nsIn K mainGlobals "_law_shelf_by" = some (some (.ref f12))) (l12 : K.lookup f12 = some ⟨oc12, od12, .func (PySem.W.fnOf "_law_shelf_by" "_law_shelf_by" (defArgs sShelf) (defBody sShelf) (defScope sShelf) .none kV12 dc12 pm12 an12 cd12 ct12), sl12⟩) (c12 : PySem.W.codeIn K cd12 "_law_shelf_by" = true) (k12 : PySem.W.keepIn K (.ref f12) = true)
    (a13 : PySem.W.nsIn K mainGlobals "_law_start_by" = some (some (.ref f13))) (l13 : K.lookup f13 = some ⟨oc13, od13, .func (PySem.W.fnOf "_law_start_by" "_law_start_by" (defArgs sStartBy) (defBody sStartBy) (defScope sStartBy) .none kV13 dc13 pm13 an13 cd13 ct13), sl13⟩) (c13 : PySem.W.codeIn K cd13 "_law_start_by" = true) (k13 : PySem.W.keepIn K (.ref f13) = true)
    (a14 : PySem.W.nsIn K mainGlobals "_law_copy_of" = some (some (.ref f14))) (l14 : K.lookup f14 = some ⟨oc14, od14, .func (PySem.W.fnOf "_law_copy_of" "_law_copy_of" (defArgs sCopy) (defBody sCopy) (defScope sCopy) .none kV14 dc14 pm14 an14 cd14 ct14), sl14⟩) (c14 : PySem.W.codeIn K cd14 "_law_copy_of" = true) (k14 : PySem.W.keepIn K (.ref f14) = true)
    (a15 : PySem.W.nsIn K mainGlobals "_law_needs_in" = some (some (.ref f15))) (l15 : K.lookup f15 = some ⟨oc15, od15, .func (PySem.W.fnOf "_law_needs_in" "_law_needs_in" (defArgs sNeedsIn) (defBody sNeedsIn) (defScope sNeedsIn) .none kV15 dc15 pm15 an15 cd15 ct15), sl15⟩) (c15 : PySem.W.codeIn K cd15 "_law_needs_in" = true) (k15 : PySem.W.keepIn K (.ref f15) = true)
    (a16 : PySem.W.nsIn K mainGlobals "_law_meets" = some (some (.ref f16))) (l16 : K.lookup f16 = some ⟨oc16, od16, .func (PySem.W.fnOf "_law_meets" "_law_meets" (defArgs sLMeets) (defBody sLMeets) (defScope sLMeets) .none kV16 dc16 pm16 an16 cd16 ct16), sl16⟩) (c16 : PySem.W.codeIn K cd16 "_law_meets" = true) (k16 : PySem.W.keepIn K (.ref f16) = true)
    (a17 : PySem.W.nsIn K mainGlobals "_law_newest" = some (some (.ref f17))) (l17 : K.lookup f17 = some ⟨oc17, od17, .func (PySem.W.fnOf "_law_newest" "_law_newest" (defArgs sNewest) (defBody sNewest) (defScope sNewest) .none kV17 dc17 pm17 an17 cd17 ct17), sl17⟩) (c17 : PySem.W.codeIn K cd17 "_law_newest" = true) (k17 : PySem.W.keepIn K (.ref f17) = true)
    (a18 : PySem.W.nsIn K mainGlobals "_law_fits" = some (some (.ref f18))) (l18 : K.lookup f18 = some ⟨oc18, od18, .func (PySem.W.fnOf "_law_fits" "_law_fits" (defArgs sLFits) (defBody sLFits) (defScope sLFits) .none kV18 dc18 pm18 an18 cd18 ct18), sl18⟩) (c18 : PySem.W.codeIn K cd18 "_law_fits" = true) (k18 : PySem.W.keepIn K (.ref f18) = true)
    (a19 : PySem.W.nsIn K mainGlobals "_law_asked_by" = some (some (.ref f19))) (l19 : K.lookup f19 = some ⟨oc19, od19, .func (PySem.W.fnOf "_law_asked_by" "_law_asked_by" (defArgs sAsked) (defBody sAsked) (defScope sAsked) .none kV19 dc19 pm19 an19 cd19 ct19), sl19⟩) (c19 : PySem.W.codeIn K cd19 "_law_asked_by" = true) (k19 : PySem.W.keepIn K (.ref f19) = true)
    (a20 : PySem.W.nsIn K mainGlobals "_law_picks_by" = some (some (.ref f20))) (l20 : K.lookup f20 = some ⟨oc20, od20, .func (PySem.W.fnOf "_law_picks_by" "_law_picks_by" (defArgs sPicksBy) (defBody sPicksBy) (defScope sPicksBy) .none kV20 dc20 pm20 an20 cd20 ct20), sl20⟩) (c20 : PySem.W.codeIn K cd20 "_law_picks_by" = true) (k20 : PySem.W.keepIn K (.ref f20) = true)
    (a21 : PySem.W.nsIn K mainGlobals "_law_stays_so" = some (some (.ref f21))) (l21 : K.lookup f21 = some ⟨oc21, od21, .func (PySem.W.fnOf "_law_stays_so" "_law_stays_so" (defArgs sStays) (defBody sStays) (defScope sStays) .none kV21 dc21 pm21 an21 cd21 ct21), sl21⟩) (c21 : PySem.W.codeIn K cd21 "_law_stays_so" = true) (k21 : PySem.W.keepIn K (.ref f21) = true)
    (a22 : PySem.W.nsIn K mainGlobals "_law_mixed" = some (some (.ref f22))) (l22 : K.lookup f22 = some ⟨oc22, od22, .func (PySem.W.fnOf "_law_mixed" "_law_mixed" (defArgs sMixed) (defBody sMixed) (defScope sMixed) .none kV22 dc22 pm22 an22 cd22 ct22), sl22⟩) (c22 : PySem.W.codeIn K cd22 "_law_mixed" = true) (k22 : PySem.W.keepIn K (.ref f22) = true)
    (a23 : PySem.W.nsIn K mainGlobals "law" = some (some (.ref f23))) (l23 : K.lookup f23 = some ⟨oc23, od23, .func (PySem.W.fnOf "law" "law" (defArgs sLaw) (defBody sLaw) (defScope sLaw) .none kV23 dc23 pm23 an23 cd23 ct23), sl23⟩) (c23 : PySem.W.codeIn K cd23 "law" = true) (k23 : PySem.W.keepIn K (.ref f23) = true)
    (am1 : PySem.W.findIn K (.ref C) "__init__" = some (some (.ref fm1))) (im1 : PySem.W.isFn K (.ref fm1) = true) (lm1 : K.lookup fm1 = some ⟨ocm1, odm1, .func (PySem.W.fnOf "__init__" "Board.__init__" (defArgs sInit) (defBody sInit) (defScope sInit) .none kVm1 dcm1 pmm1 anm1 cdm1 ctm1), slm1⟩) (cm1 : PySem.W.codeIn K cdm1 "Board.__init__" = true) (km1 : PySem.W.keepIn K (.ref fm1) = true)
    (aC : PySem.W.nsIn K mainGlobals "Board" = some (some (.ref C))) (pgC : PySem.W.plainGet K C Str.empty = true) (hdC : PySem.W.hasDictIn K C = true) (poC : PySem.W.plainOver K C = true) (saC : PySem.W.findIn K (.ref C) "__setattr__" = some (some (.builtin "object.__setattr__"))) (mkC : PySem.W.makesIn K C = true) (kcC : PySem.W.keepIn K (.ref C) = true) (nCneeds : PySem.W.findIn K (.ref C) "needs" = some none) (nCversions : PySem.W.findIn K (.ref C) "versions" = some none)
    (aCT : PySem.W.nsIn K mainGlobals "TwiceThere" = some (some (.ref CT))) (xCT : PySem.W.excIn K CT [.type "ValueError", .type "Exception", .type "BaseException", .type "object"] "ValueError.__new__" = true)
    (aCN : PySem.W.nsIn K mainGlobals "NoEntry" = some (some (.ref CN))) (xCN : PySem.W.excIn K CN [.type "ValueError", .type "Exception", .type "BaseException", .type "object"] "ValueError.__new__" = true)
    (aCV : PySem.W.nsIn K mainGlobals "TwoVersions" = some (some (.ref CV))) (xCV : PySem.W.excIn K CV [.type "ValueError", .type "Exception", .type "BaseException", .type "object"] "ValueError.__new__" = true)
    (z1 : PySem.W.nsIn K mainGlobals "len" = some none) (z2 : PySem.W.nsIn K mainGlobals "range" = some none) (z3 : PySem.W.nsIn K mainGlobals "list" = some none) (z4 : PySem.W.nsIn K mainGlobals "tuple" = some none) (z5 : PySem.W.nsIn K mainGlobals "str" = some none) (z6 : PySem.W.nsIn K mainGlobals "int" = some none) (z7 : PySem.W.nsIn K mainGlobals "bool" = some none) (z8 : PySem.W.nsIn K mainGlobals "isinstance" = some none) (z9 : PySem.W.nsIn K mainGlobals "sorted" = some none) (z10 : PySem.W.nsIn K mainGlobals "reversed" = some none) (z11 : PySem.W.nsIn K mainGlobals "dict" = some none) (z12 : PySem.W.nsIn K mainGlobals "enumerate" = some none) :
    ∃ fd : FuncData, (∀ (s : Shared) (v : Value), BindsTo s fd ⟨[v], []⟩ [("_law_script", v)]) ∧ ∀ base : Heap, K.In base → base.Ns mainGlobals mg → FnOk l.prog w K mg base CX0 5 fa fd ["_law_script"] (spLaw K) := by
  have e := hfa.symm.trans (PySem.W.mg_of X G a23)
  cases e
  have T : Txt K mg := ⟨(PySem.W.mg_none_of X G z1), (PySem.W.mg_none_of X G z2), (PySem.W.mg_none_of X G z3), (PySem.W.mg_none_of X G z4), (PySem.W.mg_none_of X G z5), (PySem.W.mg_none_of X G z6), (PySem.W.mg_none_of X G z7), (PySem.W.mg_none_of X G z8), (PySem.W.mg_none_of X G z9), (PySem.W.mg_none_of X G z10)⟩
  have F1 := fun_mk (st := sClashes) l1 c1 k1
  have b1 := F1.binds (ps := ["need", "pick"]) fun _ _ _ _ _ _ us hl => match us, hl with | [_, _], _ => rfl
  have m1 := PySem.W.mg_of X G a1
  have F2 := fun_mk (st := sFits) l2 c2 k2
  have b2 := F2.binds (ps := ["shelf", "start", "picks"]) fun _ _ _ _ _ _ us hl => match us, hl with | [_, _, _], _ => rfl
  have m2 := PySem.W.mg_of X G a2
  have F3 := fun_mk (st := sChecked) l3 c3 k3
  have b3 := F3.binds (ps := ["shelf", "start", "picks"]) fun _ _ _ _ _ _ us hl => match us, hl with | [_, _, _], _ => rfl
  have m3 := PySem.W.mg_of X G a3
  have F4 := fun_mk (st := sCheckP) l4 c4 k4
  have b4 := F4.binds (ps := ["board", "picks"]) fun _ _ _ _ _ _ us hl => match us, hl with | [_, _], _ => rfl
  have m4 := PySem.W.mg_of X G a4
  have F5 := fun_mk (st := sClw) l5 c5 k5
  have b5 := F5.binds (ps := ["need", "picked"]) fun _ _ _ _ _ _ us hl => match us, hl with | [_, _], _ => rfl
  have m5 := PySem.W.mg_of X G a5
  have F6 := fun_mk (st := sLack) l6 c6 k6
  have b6 := F6.binds (ps := ["need", "picked"]) fun _ _ _ _ _ _ us hl => match us, hl with | [_, _], _ => rfl
  have m6 := PySem.W.mg_of X G a6
  have F7 := fun_mk (st := sFirst) l7 c7 k7
  have b7 := F7.binds (ps := ["board", "picks", "wrong"]) fun _ _ _ _ _ _ us hl => match us, hl with | [_, _, _], _ => rfl
  have m7 := PySem.W.mg_of X G a7
  have F8 := fun_mk (st := sNamed) l8 c8 k8
  have b8 := F8.binds (ps := ["board", "picks"]) fun _ _ _ _ _ _ us hl => match us, hl with | [_, _], _ => rfl
  have m8 := PySem.W.mg_of X G a8
  have F9 := fun_mk (st := sAt) l9 c9 k9
  have b9 := F9.binds (ps := ["_law_script", "_law_k"]) fun _ _ _ _ _ _ us hl => match us, hl with | [_, _], _ => rfl
  have m9 := PySem.W.mg_of X G a9
  have F10 := fun_mk (st := sVer) l10 c10 k10
  have b10 := F10.binds (ps := ["_law_cell"]) fun _ _ _ _ _ _ us hl => match us, hl with | [_], _ => rfl
  have m10 := PySem.W.mg_of X G a10
  have F11 := fun_mk (st := sNeed) l11 c11 k11
  have b11 := F11.binds (ps := ["_law_cell"]) fun _ _ _ _ _ _ us hl => match us, hl with | [_], _ => rfl
  have m11 := PySem.W.mg_of X G a11
  have F12 := fun_mk (st := sShelf) l12 c12 k12
  have b12 := F12.binds (ps := ["_law_cells"]) fun _ _ _ _ _ _ us hl => match us, hl with | [_], _ => rfl
  have m12 := PySem.W.mg_of X G a12
  have F13 := fun_mk (st := sStartBy) l13 c13 k13
  have b13 := F13.binds (ps := ["_law_cells"]) fun _ _ _ _ _ _ us hl => match us, hl with | [_], _ => rfl
  have m13 := PySem.W.mg_of X G a13
  have F14 := fun_mk (st := sCopy) l14 c14 k14
  have b14 := F14.binds (ps := ["_law_shelf"]) fun _ _ _ _ _ _ us hl => match us, hl with | [_], _ => rfl
  have m14 := PySem.W.mg_of X G a14
  have F15 := fun_mk (st := sNeedsIn) l15 c15 k15
  have b15 := F15.binds (ps := ["_law_shelf", "_law_pick"]) fun _ _ _ _ _ _ us hl => match us, hl with | [_, _], _ => rfl
  have m15 := PySem.W.mg_of X G a15
  have F16 := fun_mk (st := sLMeets) l16 c16 k16
  have b16 := F16.binds (ps := ["_law_need", "_law_version"]) fun _ _ _ _ _ _ us hl => match us, hl with | [_, _], _ => rfl
  have m16 := PySem.W.mg_of X G a16
  have F17 := fun_mk (st := sNewest) l17 c17 k17
  have b17 := F17.binds (ps := ["_law_shelf", "_law_need"]) fun _ _ _ _ _ _ us hl => match us, hl with | [_, _], _ => rfl
  have m17 := PySem.W.mg_of X G a17
  have F18 := fun_mk (st := sLFits) l18 c18 k18
  have b18 := F18.binds (ps := ["_law_shelf", "_law_start", "_law_picks"]) fun _ _ _ _ _ _ us hl => match us, hl with | [_, _, _], _ => rfl
  have m18 := PySem.W.mg_of X G a18
  have F19 := fun_mk (st := sAsked) l19 c19 k19
  have b19 := F19.binds (ps := ["_law_script"]) fun _ _ _ _ _ _ us hl => match us, hl with | [_], _ => rfl
  have m19 := PySem.W.mg_of X G a19
  have F20 := fun_mk (st := sPicksBy) l20 c20 k20
  have b20 := F20.binds (ps := ["_law_shelf", "_law_start", "_law_seed"]) fun _ _ _ _ _ _ us hl => match us, hl with | [_, _, _], _ => rfl
  have m20 := PySem.W.mg_of X G a20
  have F21 := fun_mk (st := sStays) l21 c21 k21
  have b21 := F21.binds (ps := ["_law_handed", "_law_own"]) fun _ _ _ _ _ _ us hl => match us, hl with | [_, _], _ => rfl
  have m21 := PySem.W.mg_of X G a21
  have F22 := fun_mk (st := sMixed) l22 c22 k22
  have b22 := F22.binds (ps := ["_law_script"]) fun _ _ _ _ _ _ us hl => match us, hl with | [_], _ => rfl
  have m22 := PySem.W.mg_of X G a22
  have F23 := fun_mk (st := sLaw) l23 c23 k23
  have Fm1 := fun_mk (st := sInit) lm1 cm1 km1
  have bm1 := Fm1.binds (ps := ["self", "shelf", "start"]) fun _ _ _ _ _ _ us hl => match us, hl with | [_, _, _], _ => rfl
  have mm1 : Meth K C "__init__" fm1 := ⟨am1, im1, km1⟩
  refine ⟨PySem.W.fnOf "law" "law" (defArgs sLaw) (defBody sLaw) (defScope sLaw) .none kV23 dc23 pm23 an23 cd23 ct23, fun s v => .of_eq rfl, fun base _ _ => ?_⟩
  have TBd : TB K mg C := ⟨⟨pgC, hdC, poC, saC⟩, nCneeds, nCversions, PySem.W.mg_of X G aC, (PySem.W.mg_none_of X G z3), (PySem.W.mg_none_of X G z9)⟩
  have V := ok_ver (P := l.prog) (w := w) (mg := mg) (base := base) F10
  have N := ok_need F11 V b10 k10 m10
  have M := ok_lmeets (P := l.prog) (w := w) (mg := mg) (base := base) F16
  have CL := ok_clashes (P := l.prog) (w := w) (mg := mg) (base := base) F1
  have BI := ok_init (P := l.prog) (w := w) (base := base) Fm1 TBd (PySem.W.mg_of X G aCT) xCT
  have CP := ok_checkP (P := l.prog) (w := w) (base := base) F4 TBd (PySem.W.mg_of X G aCN) xCN (PySem.W.mg_of X G aCV) xCV
  have CB := ok_checked F3 TBd ⟨mkC, am1, im1, kcC⟩ BI bm1 CP b4 k4 m4
  have CW := ok_clw F5 CL b1 k1 m1
  have LK := (ok_lack (P := l.prog) (w := w) (mg := mg) (base := base) F6).mono (show 1 ≤ 2 by decide)
  have FN := ok_first (P := l.prog) (w := w) (base := base) F7 TBd (PySem.W.mg_none_of X G z11) (PySem.W.mg_none_of X G z12)
  have SB := ok_startBy F13 N b11 k11 m11
  have NI := ok_needsIn (P := l.prog) (w := w) (mg := mg) (base := base) F15
  have AT := ok_at (P := l.prog) (w := w) (base := base) F9 T
  have SH := ok_shelf F12 T V b10 k10 m10 N b11 k11 m11
  have NW := ok_newest F17 T M b16 k16 m16
  have g9 : Gd l.prog w K mg base CX0 4 "_law_at" ["_law_script", "_law_k"] (spAt K) := ⟨_, _, (AT).mono (by decide), b9, k9, m9⟩
  have g19 : Gd l.prog w K mg base CX0 4 "_law_asked_by" ["_law_script"] (spAsked K) := ⟨_, _, (ok_asked F19 SH b12 k12 m12 SB b13 k13 m13 AT b9 k9 m9).mono (by decide), b19, k19, m19⟩
  have g20 : Gd l.prog w K mg base CX0 4 "_law_picks_by" ["_law_shelf", "_law_start", "_law_seed"] spPicksBy := ⟨_, _, (ok_picksBy F20 T NW b17 k17 m17 NI b15 k15 m15).mono (by decide), b20, k20, m20⟩
  have g14 : Gd l.prog w K mg base CX0 4 "_law_copy_of" ["_law_shelf"] spCopy := ⟨_, _, (ok_copy F14 T).mono (by decide), b14, k14, m14⟩
  have g21 : Gd l.prog w K mg base CX0 4 "_law_stays_so" ["_law_handed", "_law_own"] spStays := ⟨_, _, (ok_stays F21 T).mono (by decide), b21, k21, m21⟩
  have g22 : Gd l.prog w K mg base CX0 4 "_law_mixed" ["_law_script"] (spMixed K) := ⟨_, _, (ok_mixed F22 T).mono (by decide), b22, k22, m22⟩
  have NP := ok_named (P := l.prog) (w := w) (base := base) F8 TBd (PySem.W.mg_none_of X G z11)
  have g18 : Gd l.prog w K mg base CX0 4 "_law_fits" ["_law_shelf", "_law_start", "_law_picks"] spLFits := ⟨_, _, (ok_lfits F18 T NI b15 k15 m15 M b16 k16 m16).mono (by decide), b18, k18, m18⟩
  have g2 : Gd l.prog w K mg base (CXE l.prog w) 4 "fits" ["shelf", "start", "picks"] spFits := ⟨_, _, (ok_fits F2 (PySem.W.mg_none_of X G z1) FN b7 k7 m7 CB b3 k3 m3 CW b5 k5 m5 LK b6 k6 m6 NP b8 k8 m8).mono (by decide), b2, k2, m2⟩
  exact ok_law F23 T g9 g19 g20 g14 g21 g22 g18 g2
theorem walk {l : PySem.W.OpenLaw} {q : Program} {loose : List Str} {XP : (Str → Option Value) → Heap → Prop} {YP : World → Heap → Prop} {d : DefRec} {K : Params → PySem.W.Frag} (hn : l.most = some 63) (hdf : d.params.defaults = [])
    (hY : ∀ (w : World) (h : Heap), YP w h → (K w.params).In h)
    (F : ∀ (w : World) (mg : Str → Option Value) (fa : Addr) (h : Heap), (K w.params).In h → h.Ns mainGlobals mg → mg d.name = some (.ref fa) →
      ∃ fd : FuncData, (∀ (s : Shared) (u : Value), BindsTo s fd ⟨[u], []⟩ [("_law_script", u)]) ∧ ∀ base : Heap, (K w.params).In base → base.Ns mainGlobals mg → FnOk l.prog w (K w.params) mg base CX0 5 fa fd ["_law_script"] (spLaw (K w.params))) :
    PySem.W.WalkO q loose XP YP l.row.toRowW d [] (fun f vs => PySem.call f vs) :=
  L2.walk_of (n := 63) (k := 5) (x := "_law_script") (CX := fun _ => CX0) (sp := fun w => spLaw (K w.params)) hn (by decide) hdf ⟨rfl, by decide, by decide⟩ hY F (fun _ _ a ns hl _ hS => ⟨a, ns, rfl, hS, hl, fun _ => rfl⟩) fun _ _ _ _ _ z => z
end FB
open PySem PySem.W PyProof.Rows
set_option maxRecDepth 100000 in
set_option maxHeartbeats 0 in
theorem PySem.Challenge.cw_fitboard_k04_fitting_picks_holds : PySem.Challenge.rw_fitboard_k04_fitting_picks.Holds := by
  w_on; o_law; k_head; (case hw => w_witness2)
  k_fill
  refine FB.walk (l := PySem.Challenge.rw_fitboard_k04_fitting_picks) rfl rfl (fun w h Y => PySem.W.kIn_of Y) ?F
  case F =>
    intro w mg fa h KX G hmg
    refine' FB.all_mk KX G hmg ?a1 ?l1 ?c1 ?k1 ?a2 ?l2 ?c2 ?k2 ?a3 ?l3 ?c3 ?k3 ?a4 ?l4 ?c4 ?k4 ?a5 ?l5 ?c5 ?k5 ?a6 ?l6 ?c6 ?k6 ?a7 ?l7 ?c7 ?k7 ?a8 ?l8 ?c8 ?k8 ?a9 ?l9 ?c9 ?k9 ?a10 ?l10 ?c10 ?k10 ?a11 ?l11 ?c11 ?k11 ?a12 ?l12 ?c12 ?k12 ?a13 ?l13 ?c13 ?k13 ?a14 ?l14 ?c14 ?k14 ?a15 ?l15 ?c15 ?k15 ?a16 ?l16 ?c16 ?k16 ?a17 ?l17 ?c17 ?k17 ?a18 ?l18 ?c18 ?k18 ?a19 ?l19 ?c19 ?k19 ?a20 ?l20 ?c20 ?k20 ?a21 ?l21 ?c21 ?k21 ?a22 ?l22 ?c22 ?k22 ?a23 ?l23 ?c23 ?k23 ?am1 ?im1 ?lm1 ?cm1 ?km1 ?aC ?pgC ?hdC ?poC ?saC ?mkC ?kcC ?nCneeds ?nCversions ?aCT ?xCT ?aCN ?xCN ?aCV ?xCV ?z1 ?z2 ?z3 ?z4 ?z5 ?z6 ?z7 ?z8 ?z9 ?z10 ?z11 ?z12
    (case aC => k_is); (case aCT => k_is); (case aCN => k_is); (case aCV => k_is); (case a1 => k_is); (case l1 => k_is); (case c1 => k_is); (case k1 => k_is)
    (case a2 => k_is); (case l2 => k_is); (case c2 => k_is); (case k2 => k_is); (case a3 => k_is); (case l3 => k_is); (case c3 => k_is); (case k3 => k_is)
    (case a4 => k_is); (case l4 => k_is); (case c4 => k_is); (case k4 => k_is); (case a5 => k_is); (case l5 => k_is); (case c5 => k_is); (case k5 => k_is)
    (case a6 => k_is); (case l6 => k_is); (case c6 => k_is); (case k6 => k_is); (case a7 => k_is); (case l7 => k_is); (case c7 => k_is); (case k7 => k_is)
    (case a8 => k_is); (case l8 => k_is); (case c8 => k_is); (case k8 => k_is); (case a9 => k_is); (case l9 => k_is); (case c9 => k_is); (case k9 => k_is)
    (case a10 => k_is); (case l10 => k_is); (case c10 => k_is); (case k10 => k_is); (case a11 => k_is); (case l11 => k_is); (case c11 => k_is); (case k11 => k_is)
    (case a12 => k_is); (case l12 => k_is); (case c12 => k_is); (case k12 => k_is); (case a13 => k_is); (case l13 => k_is); (case c13 => k_is); (case k13 => k_is)
    (case a14 => k_is); (case l14 => k_is); (case c14 => k_is); (case k14 => k_is); (case a15 => k_is); (case l15 => k_is); (case c15 => k_is); (case k15 => k_is)
    (case a16 => k_is); (case l16 => k_is); (case c16 => k_is); (case k16 => k_is); (case a17 => k_is); (case l17 => k_is); (case c17 => k_is); (case k17 => k_is)
    (case a18 => k_is); (case l18 => k_is); (case c18 => k_is); (case k18 => k_is); (case a19 => k_is); (case l19 => k_is); (case c19 => k_is); (case k19 => k_is)
    (case a20 => k_is); (case l20 => k_is); (case c20 => k_is); (case k20 => k_is); (case a21 => k_is); (case l21 => k_is); (case c21 => k_is); (case k21 => k_is)
    (case a22 => k_is); (case l22 => k_is); (case c22 => k_is); (case k22 => k_is); (case a23 => k_is); (case l23 => k_is); (case c23 => k_is); (case k23 => k_is)
    (case am1 => k_is); (case im1 => k_is); (case lm1 => k_is); (case cm1 => k_is); (case km1 => k_is); (case pgC => k_is); (case hdC => k_is); (case poC => k_is)
    (case saC => k_is); (case mkC => k_is); (case kcC => k_is); (case nCneeds => k_is); (case nCversions => k_is); (case xCT => k_exc); (case xCN => k_exc); (case xCV => k_exc)
    (case z1 => k_is); (case z2 => k_is); (case z3 => k_is); (case z4 => k_is); (case z5 => k_is); (case z6 => k_is); (case z7 => k_is); (case z8 => k_is)
    (case z9 => k_is); (case z10 => k_is); (case z11 => k_is); (case z12 => k_is)
