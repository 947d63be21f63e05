import PyProof.Rows.All
import Wide.All
import OpenK.AllK
import Wide.FinOn
import PyProof.EqAt
import PyProof.EqKinds
import PyProof.TupleCall
import Lean
import PySem.Challenge.RW_fitboard_k05_lines_looked_through
set_option Elab.async false
set_option linter.all false
set_option maxRecDepth 100000
namespace L2
open PySem PySem.Spec PyProof.Rows
abbrev Key := Sum Int Str
def keyIs : Key → Value → Bool
  | .inl k, v => Value.isInt k v
  | .inr x, v => Value.isStrOf x v
def keyH (w : World) : Key → Int
  | .inl k => hashInt k
  | .inr x => hashStr w x
theorem keyIs_shape : ∀ {k : Key} {v : Value}, keyIs k v = true → (∃ i t, k = Sum.inl i ∧ v = Value.int i t) ∨ (∃ x t, k = Sum.inr x ∧ v = Value.str x t)
  | .inl i, v, h => by
    obtain ⟨t, e⟩ := Value.isInt_shape (k := i) (v := v) h
    exact .inl ⟨i, t, rfl, e⟩
  | .inr x, v, h => by
    obtain ⟨t, e⟩ := Value.isStrOf_shape (x := x) (v := v) h
    exact .inr ⟨x, t, rfl, e⟩
theorem keyIs_int (i : Int) (t : Tok) : keyIs (.inl i) (.int i t) = true := by simp [keyIs, Value.isInt]
theorem keyIs_str (x : Str) (t : Tok) : keyIs (.inr x) (.str x t) = true := by simp [keyIs, Value.isStrOf]
theorem key_ll (a b : Int) : decide ((Sum.inl a : Key) = Sum.inl b) = (a == b) := by
  by_cases e : a = b
  · subst e; simp
  · have h : ¬ (Sum.inl a : Key) = Sum.inl b := fun q => e (Sum.inl.inj q)
    rw [decide_eq_false h]
    exact (beq_eq_false_iff_ne.mpr e).symm
theorem key_rr (a b : Str) : decide ((Sum.inr a : Key) = Sum.inr b) = decide (a = b) := by
  by_cases e : a = b
  · subst e; simp
  · have h : ¬ (Sum.inr a : Key) = Sum.inr b := fun q => e (Sum.inr.inj q)
    rw [decide_eq_false h, decide_eq_false e]
theorem key_lr (a : Int) (b : Str) : decide ((Sum.inl a : Key) = Sum.inr b) = false := decide_eq_false (fun q => nomatch q)
theorem key_rl (a : Str) (b : Int) : decide ((Sum.inr a : Key) = Sum.inl b) = false := decide_eq_false (fun q => nomatch q)
def mixKind (prog : Program) (w : World) : PySem.KeyKind prog w Key where
  is := keyIs
  hash := keyH w
  inj := fun v a b ha hb => by
    rcases keyIs_shape ha with ⟨i, t, rfl, rfl⟩ | ⟨x, t, rfl, rfl⟩
    · rcases keyIs_shape hb with ⟨j, u, rfl, e⟩ | ⟨y, u, rfl, e⟩
      · injection e with e1 _; rw [e1]
      · exact nomatch e
    · rcases keyIs_shape hb with ⟨j, u, rfl, e⟩ | ⟨y, u, rfl, e⟩
      · exact nomatch e
      · injection e with e1 _; rw [e1]
  byValue := fun k v h => by
    rcases keyIs_shape h with ⟨i, t, rfl, rfl⟩ | ⟨x, t, rfl, rfl⟩ <;> rfl
  pyHash := fun hv h => by
    rcases keyIs_shape hv with ⟨i, t, rfl, rfl⟩ | ⟨x, t, rfl, rfl⟩
    · exact wpAny_pyHash_int h
    · exact wpAny_pyHash_str h
  eqBool := fun hu hv h => by
    rcases keyIs_shape hu with ⟨i, t, rfl, rfl⟩ | ⟨x, t, rfl, rfl⟩
    · rcases keyIs_shape hv with ⟨j, u, rfl, rfl⟩ | ⟨y, u, rfl, rfl⟩
      · rw [key_ll] at h; exact wpAny_eqBool_int h
      · rw [key_lr] at h; exact SeqAt.EqAt.int_str i t y u _ _ _ _ h
    · rcases keyIs_shape hv with ⟨j, u, rfl, rfl⟩ | ⟨y, u, rfl, rfl⟩
      · rw [key_rl] at h; exact SeqAt.EqAt.str_int x t j u _ _ _ _ h
      · rw [key_rr] at h; exact wpAny_eqBool_str h
  «strs» := fun k x t v h => by
    rcases keyIs_shape h with ⟨i, u, rfl, e⟩ | ⟨y, u, rfl, e⟩
    · exact nomatch e
    · injection e with e1 _
      subst e1
      cases v <;> rfl
theorem mixKind_int (prog : Program) (w : World) (i : Int) (t : Tok) : (mixKind prog w).is (.inl i) (.int i t) = true := keyIs_int i t
theorem mixKind_str (prog : Program) (w : World) (x : Str) (t : Tok) : (mixKind prog w).is (.inr x) (.str x t) = true := keyIs_str x t
end L2
namespace L2
open PySem PySem.Spec PyProof.Rows
inductive V where
  | non | bl (b : Bool) | int (i : Int) | str (x : Str) | byt (b : Array UInt8) | flt (b : UInt64) | ref (a : Addr) | ty (n : String)
  deriving DecidableEq
def RelV : V → Value → Prop
  | .non, u => u = Value.none
  | .bl b, u => u = Value.bool b
  | .int i, u => ∃ t, u = Value.int i t
  | .str x, u => ∃ t, u = Value.str x t
  | .byt b, u => ∃ t, u = Value.bytes b t
  | .flt b, u => ∃ t, u = Value.float b t
  | .ref a, u => u = Value.ref a
  | .ty n, u => u = Value.type n
abbrev Vals : List V → List Value → Prop := Paired RelV
theorem Vals.length {xs : List V} {us : List Value} (r : Vals xs us) : xs.length = us.length := Paired.length r
theorem Vals.get : ∀ {xs : List V} {us : List Value} {i : Nat} {x : V}, Vals xs us → xs[i]? = some x → ∃ u, us[i]? = some u ∧ RelV x u
  | _, _, _, _, .nil, e => by simp at e
  | _, _, 0, _, .cons r _, e => by simp at e; subst e; exact ⟨_, rfl, r⟩
  | _, _, i + 1, x, .cons _ t, e => by
    obtain ⟨u, h1, h2⟩ := Vals.get (i := i) (x := x) t (by simpa using e)
    exact ⟨u, by simpa using h1, h2⟩
theorem Vals.set {x : V} {u : Value} (r : RelV x u) : ∀ {xs : List V} {us : List Value} (i : Nat), Vals xs us → Vals (xs.set i x) (us.set i u)
  | _, _, _, .nil => .nil
  | _, _, 0, .cons _ t => .cons r t
  | _, _, i + 1, .cons q t => .cons q (Vals.set r i t)
theorem Vals.append : ∀ {xs ys : List V} {us ws : List Value}, Vals xs us → Vals ys ws → Vals (xs ++ ys) (us ++ ws)
  | _, _, _, _, .nil, s => s
  | _, _, _, _, .cons r t, s => .cons r (Vals.append t s)
theorem Vals.take : ∀ {xs : List V} {us : List Value} (n : Nat), Vals xs us → Vals (xs.take n) (us.take n)
  | _, _, 0, _ => .nil
  | _, _, _ + 1, .nil => .nil
  | _, _, n + 1, .cons r t => .cons r (Vals.take n t)
theorem Vals.drop : ∀ {xs : List V} {us : List Value} (n : Nat), Vals xs us → Vals (xs.drop n) (us.drop n)
  | _, _, 0, r => r
  | _, _, _ + 1, .nil => .nil
  | _, _, n + 1, .cons _ t => Vals.drop n t
theorem Vals.none_of : ∀ {xs : List V} {us : List Value} {i : Nat}, Vals xs us → xs[i]? = none → us[i]? = none := fun {xs us i} r e => by
  have h1 := r.length
  have h2 : xs.length ≤ i := List.getElem?_eq_none_iff.mp e
  exact List.getElem?_eq_none_iff.mpr (by omega)
def RelO : Option V → Option Value → Prop
  | some v, some u => RelV v u
  | none, none => True
  | _, _ => False
def KV {κ : Type} : List (κ × V) → List (κ × Value) → Prop := Paired fun (p : κ × V) (q : κ × Value) => p.1 = q.1 ∧ RelV p.2 q.2
def kV : Key → V
  | .inl i => .int i
  | .inr x => .str x
inductive HO where
    | lst (xs : List V)
    | tup (xs : List V)
    | dK (kvs : List (Key × V)) | dT (kvs : List (List Key × V)) | dN (kvs : List (Option (List Key) × V))
    | set (S : Int → Bool) (n : Nat)
    | ins (C dx : Addr) (fs : List (Str × V))
    | own (x : Addr)
    | xd (fs : List (Str × V))
    | met (f x : Addr)
    | rng (lo hi : Int)
    | frz (o : Obj) (u : HO)
    | tbl (ps : Array Value)
    | ext (φ : Heap → Prop)
abbrev Hp := Addr → Option HO
abbrev NKey := Option (List Key)
def KeyN (H : Hp) : NKey → Value → Prop
  | none, u => u = .none
  | some ks, u => ∃ b, u = .ref b ∧ H b = some (.tup (ks.map kV))
def hashN (P : Program) (w : World) : NKey → Int
  | none => PySem.W.hashW w.params .none
  | some ks => (tupleKind (mixKind P w)).hash ks
def entN (P : Program) (w : World) (x : NKey × Value × Value) : DictEntry := ⟨hashN P w x.1, x.2.1, x.2.2⟩
abbrev KNv (H : Hp) : List (NKey × V) → List (NKey × Value × Value) → Prop := Paired fun p q => p.1 = q.1 ∧ KeyN H p.1 q.2.1 ∧ RelV p.2 q.2.2
def upd (H : Hp) (a : Addr) (o : HO) : Hp := fun b => if b = a then some o else H b
theorem upd_same {H : Hp} {a : Addr} {o : HO} : upd H a o a = some o := by unfold upd; rw [if_pos rfl]
theorem upd_ne {H : Hp} {a b : Addr} {o : HO} (h : b ≠ a) : upd H a o b = H b := by unfold upd; rw [if_neg h]
theorem upd_upd {H : Hp} {a : Addr} {o u : HO} : upd (upd H a o) a u = upd H a u := by
  funext b; unfold upd; split <;> rfl
theorem ne_of {H : Hp} {a b : Addr} {o u : HO} (h : H a = some o) (h' : H b = some u) (d : o ≠ u) : a ≠ b := by
  intro e; subst e; rw [h] at h'; exact d (Option.some.inj h')
theorem ne_of_none {H : Hp} {a b : Addr} {o : HO} (h : H a = some o) (h' : H b = none) : a ≠ b := by
  intro e; subst e; rw [h] at h'; cases h'
section
variable (P : Program) (w : World)
def ObjOk (H : Hp) (h : Heap) (a : Addr) : HO → Prop
  | .lst xs => xs.length ≤ sizeLine ∧ ∃ (its : List Value) (n : Nat), Vals xs its ∧ h.get? a = some { cls := .type "list", data := .seq its.toArray n }
  | .tup xs => xs.length ≤ sizeLine ∧ ∃ its : List Value, Vals xs its ∧ IsTup h a its.toArray
  | .dK kvs => kvs.length ≤ sizeLine ∧ (a == sysModules) = false ∧ ∃ vs, KV kvs vs ∧ h.DictOf (mixKind P w) a vs
  | .dT kvs => kvs.length ≤ sizeLine ∧ (a == sysModules) = false ∧ ∃ xs : List (List Key × Addr × Value),
      Paired (fun (p : List Key × V) (q : List Key × Addr × Value) => p.1 = q.1 ∧ H q.2.1 = some (.tup (p.1.map kV)) ∧ RelV p.2 q.2.2) kvs xs ∧
      ∃ o es ep, h.get? a = some o ∧ o.ExactDict ∧ o.data = .dict es ep ∧ es.toList = xs.map (entryOfKey (tupleKind (mixKind P w))) ∧ (xs.map (·.1)).Nodup
  | .dN kvs => kvs.length ≤ sizeLine ∧ (a == sysModules) = false ∧ ∃ xs, KNv H kvs xs ∧ ∃ o es ep, h.get? a = some o ∧ o.ExactDict ∧ o.data = .dict es ep ∧ es.toList = xs.map (entN P w) ∧ (xs.map (·.1)).Nodup
  | .set S n => h.SetOf (intKind P w) a S n
  | .ins C dx fs => H dx = some (.own a) ∧ fs.length ≤ 1000 ∧ dx ≠ a ∧ h.get? a = some (PySem.W.instObj C dx) ∧
      ∃ mA, h.Ns1 dx mA ∧ (∀ f, RelO (fs.lookup f) (mA f)) ∧ PySem.Within mA (fs.map (·.1))
  | .own _ => ∃ o, h.get? a = some o
  | .xd fs => ∃ mA, h.Ns1 a mA ∧ ∀ f, RelO (fs.lookup f) (mA f)
  | .rng lo hi => ∃ t u v, h.get? a = some { cls := .type "range", data := .fields #[.int lo t, .int hi u, .int 1 v] }
  | .frz o u => h.get? a = some o ∧ ObjOk H h a u
  | .tbl ps => h.get? a = some { cls := .none, data := .fields ps }
  | .met f x => h.get? a = some (PySem.W.methodObj (.ref f) (.ref x))
  | .ext φ => φ h ∧ (∃ o, h.get? a = some o) ∧ ∀ h1 h2 : Heap, φ h1 → (∀ o, h1.get? a = some o → h2.get? a = some o) → φ h2
def HOk (H : Hp) (h : Heap) : Prop := ∀ a o, H a = some o → ObjOk P w H h a o
end
section
variable {P : Program} {w : World} {H H' : Hp} {h h' : Heap} {a : Addr} {o : HO}
theorem ObjOk.lt (x : ObjOk P w H h a o) : a < h.objs.size := by
  cases o with
  | lst xs => obtain ⟨_, _, _, _, e⟩ := x; exact Heap.lt_size e
  | tup xs => obtain ⟨_, _, _, p⟩ := x; exact p.lt
  | dK kvs => obtain ⟨_, _, _, _, o, _, _, e, _⟩ := x; exact Heap.lt_size e
  | dT kvs => obtain ⟨_, _, _, _, o, _, _, e, _⟩ := x; exact Heap.lt_size e
  | dN kvs => obtain ⟨_, _, _, _, o, _, _, e, _⟩ := x; exact Heap.lt_size e
  | set S n => obtain ⟨o, _, _, _, e, _⟩ := x; exact Heap.lt_size e
  | ins C dx fs => obtain ⟨_, _, _, e, _⟩ := x; exact Heap.lt_size e
  | own y => obtain ⟨_, e⟩ := x; exact Heap.lt_size e
  | xd fs => obtain ⟨_, ⟨_, _, _, e, _⟩, _⟩ := x; exact Heap.lt_size e
  | rng lo hi => obtain ⟨_, _, _, e⟩ := x; exact Heap.lt_size e
  | frz ob u => obtain ⟨e, _⟩ := x; exact Heap.lt_size e
  | tbl ps => exact Heap.lt_size (show h.get? a = some _ from x)
  | met f y => exact Heap.lt_size (show h.get? a = some _ from x)
  | ext φ => obtain ⟨_, ⟨_, e⟩, _⟩ := x; exact Heap.lt_size e
theorem Paired.mapP {α β : Type} {F G : α → β → Prop} : ∀ {l₁ : List α} {l₂ : List β}, Paired F l₁ l₂ → (∀ a b, F a b → G a b) → Paired G l₁ l₂
  | _, _, .nil, _ => .nil
  | _, _, .cons r t, f => .cons (f _ _ r) (Paired.mapP t f)
theorem ObjOk.stay (x : ObjOk P w H h a o) (k : ∀ b u, (b = a ∨ H b = some (.own a)) → h.get? b = some u → h'.get? b = some u)
    (ho : ∀ b, H b = some (.own a) → H' b = some (.own a)) (ht : ∀ b xs, H b = some (.tup xs) → H' b = some (.tup xs)) : ObjOk P w H' h' a o := by
  induction o with
  | lst xs => obtain ⟨z, its, n, r, e⟩ := x; exact ⟨z, its, n, r, k _ _ (.inl rfl) e⟩
  | tup xs => obtain ⟨z, its, r, ob, e, c⟩ := x; exact ⟨z, its, r, ob, k _ _ (.inl rfl) e, c⟩
  | dK kvs => obtain ⟨z, y, vs, r, ob, es, ep, e, c⟩ := x; exact ⟨z, y, vs, r, ob, es, ep, k _ _ (.inl rfl) e, c⟩
  | dT kvs =>
    obtain ⟨z, y, xs, r, ob, es, ep, e, c⟩ := x
    exact ⟨z, y, xs, Paired.mapP r fun p q z => ⟨z.1, ht _ _ z.2.1, z.2.2⟩, ob, es, ep, k _ _ (.inl rfl) e, c⟩
  | dN kvs =>
    obtain ⟨z, y, xs, r, ob, es, ep, e, c⟩ := x
    refine ⟨z, y, xs, Paired.mapP r fun p q z => ⟨z.1, ?_, z.2.2⟩, ob, es, ep, k _ _ (.inl rfl) e, c⟩
    obtain ⟨p1, p2⟩ := p
    cases p1 with
    | none => exact z.2.1
    | some ks => obtain ⟨b, hb, hq⟩ := z.2.1; exact ⟨b, hb, ht _ _ hq⟩
  | set S n => obtain ⟨ob, es, ep, t, e, c⟩ := x; exact ⟨ob, es, ep, t, k _ _ (.inl rfl) e, c⟩
  | ins C dx fs =>
    obtain ⟨d, z, ne, e, mA, ⟨od, es, ep, e2, c⟩, r⟩ := x
    exact ⟨ho _ d, z, ne, k _ _ (.inl rfl) e, mA, ⟨od, es, ep, k _ _ (.inr d) e2, c⟩, r⟩
  | own y => obtain ⟨ob, e⟩ := x; exact ⟨ob, k _ _ (.inl rfl) e⟩
  | xd fs => obtain ⟨mA, ⟨od, es, ep, e, c⟩, r⟩ := x; exact ⟨mA, ⟨od, es, ep, k _ _ (.inl rfl) e, c⟩, r⟩
  | rng lo hi => obtain ⟨t, u, v, e⟩ := x; exact ⟨t, u, v, k _ _ (.inl rfl) e⟩
  | frz ob u ih => obtain ⟨e, q⟩ := x; exact ⟨k _ _ (.inl rfl) e, ih q⟩
  | tbl ps =>
    have e : h.get? a = some { cls := .none, data := .fields ps } := x
    show h'.get? a = some { cls := .none, data := .fields ps }
    exact k a _ (.inl rfl) e
  | met f y =>
    have e : h.get? a = some (PySem.W.methodObj (.ref f) (.ref y)) := x
    show h'.get? a = some (PySem.W.methodObj (.ref f) (.ref y))
    exact k a _ (.inl rfl) e
  | ext φ => obtain ⟨p, ⟨o, e⟩, st⟩ := x; exact ⟨st _ _ p fun o q => k _ _ (.inl rfl) q, ⟨o, k _ _ (.inl rfl) e⟩, st⟩
theorem HOk.lt (x : HOk P w H h) (e : H a = some o) : a < h.objs.size := (x a o e).lt
theorem HOk.fresh (x : HOk P w H h) (e : h.objs.size ≤ a) : H a = none := by
  cases q : H a with
  | none => rfl
  | some u => exact absurd (Nat.lt_of_lt_of_le (x.lt q) e) (Nat.lt_irrefl _)
theorem HOk.kept (x : HOk P w H h) (k : ∀ b u, h.get? b = some u → h'.get? b = some u) : HOk P w H h' := fun a o e =>
  (x a o e).stay (fun b u _ q => k b u q) (fun _ q => q) fun _ _ q => q
theorem HOk.laid (x : HOk P w H h) (k : ∀ b u, h.get? b = some u → h'.get? b = some u) (hp : h.objs.size ≤ a) (new : ObjOk P w (upd H a o) h' a o) : HOk P w (upd H a o) h' := fun b u e => by
  have hn := x.fresh hp
  by_cases hb : b = a
  · subst hb; rw [upd_same] at e; cases e; exact new
  · rw [upd_ne hb] at e
    exact (x b u e).stay (fun c v _ q => k c v q) (fun c q => by rw [upd_ne (ne_of_none q hn)]; exact q) fun c xs q => by rw [upd_ne (ne_of_none q hn)]; exact q
end
def Rd (H : Hp) (a : Addr) (u : HO) : Prop := H a = some u ∨ ∃ o, H a = some (.frz o u)
theorem Rd.of {H : Hp} {a : Addr} {u : HO} (h : H a = some u) : Rd H a u := .inl h
theorem Rd.ok {P : Program} {w : World} {H : Hp} {h : Heap} {a : Addr} {u : HO} (r : Rd H a u) (x : HOk P w H h) : ObjOk P w H h a u := by
  rcases r with r | ⟨o, r⟩
  · exact x a u r
  · obtain ⟨_, q⟩ := x a _ r
    exact q
def Mut : Option HO → Prop
  | some (.lst _) => True
  | some (.dK _) => True
  | some (.dT _) => True
  | some (.dN _) => True
  | some (.set _ _) => True
  | some (.ins _ _ _) => True
  | some (.ext _) => True
  | _ => False
section
variable {P : Program} {w : World} {H : Hp} {h h' : Heap} {x e : Addr} {o' : HO}
theorem HOk.write (ok : HOk P w H h) (mu : Mut (H x)) (he : e = x ∨ H e = some (.own x)) (k : ∀ b u, b ≠ e → h.get? b = some u → h'.get? b = some u) (heo : ∃ u, h'.get? e = some u)
    (new : ObjOk P w (upd H x o') h' x o') : HOk P w (upd H x o') h' := fun b u q => by
  have nown : ∀ c y, H c = some (.own y) → c ≠ x := fun c y r z => by subst z; rw [r] at mu; exact mu
  have ntup : ∀ c xs, H c = some (.tup xs) → c ≠ x := fun c xs r z => by subst z; rw [r] at mu; exact mu
  by_cases hb : b = x
  · subst hb; rw [upd_same] at q; cases q; exact new
  · rw [upd_ne hb] at q
    by_cases hbe : b = e
    · have q' : H b = some (.own x) := by
        rcases he with z | z
        · exact absurd (hbe.trans z) hb
        · rw [hbe]; exact z
      rw [q] at q'; cases q'
      obtain ⟨v, hv⟩ := heo
      exact ⟨v, by rw [hbe]; exact hv⟩
    · refine (ok b u q).stay (fun c v hc r => k c v ?_ r) (fun c r => by rw [upd_ne (nown c b r)]; exact r) fun c xs r => by rw [upd_ne (ntup c xs r)]; exact r
      rcases hc with rfl | hc
      · exact hbe
      · rintro rfl
        rcases he with z | z
        · exact nown c b hc z
        · rw [hc] at z; cases z; exact hb rfl
end
structure Un (fs ex : List Addr) (H H' : Hp) (h h' : Heap) : Prop where
  keep : ∀ b o, h.get? b = some o → H b = none → b ∉ fs → b ∉ ex → h'.get? b = some o
  slot : ∀ b o, h.get? b = some o → H b = none → b ∈ fs → b ∉ ex → ∃ sl, h'.get? b = some { o with slots := sl }
  free : ∀ b o, h.get? b = some o → H b = none → b ∉ ex → H' b = none
  there : ∀ b o, h.get? b = some o → b ∉ ex → ∃ o', h'.get? b = some o'
  tups : ∀ b xs, H b = some (.tup xs) → H' b = some (.tup xs)
  frzs : ∀ b o u, H b = some (.frz o u) → H' b = some (.frz o u)
  tbls : ∀ b ps, H b = some (.tbl ps) → ∃ more, H' b = some (.tbl (ps ++ more))
section
variable {fs fs' ex ex' : List Addr} {H H1 H2 : Hp} {h h1 h2 h' : Heap} {a x e : Addr} {o : HO}
theorem Un.any (u : Un fs ex H H1 h h1) {b : Addr} {ob : Obj} (q : h.get? b = some ob) (n : H b = none) (hx : b ∉ ex) : ∃ sl, h1.get? b = some { ob with slots := sl } := by
  by_cases hb : b ∈ fs
  · exact u.slot b ob q n hb hx
  · exact ⟨ob.slots, u.keep b ob q n hb hx⟩
theorem Un.trans (a : Un fs ex H H1 h h1) (b : Un fs ex H1 H2 h1 h2) : Un fs ex H H2 h h2 where
  keep := fun c ob q n hc hx => b.keep c ob (a.keep c ob q n hc hx) (a.free c ob q n hx) hc hx
  slot := fun c ob q n hc hx => by
    obtain ⟨sl, e1⟩ := a.slot c ob q n hc hx
    obtain ⟨sl', e2⟩ := b.slot c _ e1 (a.free c ob q n hx) hc hx
    exact ⟨sl', e2⟩
  free := fun c ob q n hx => by
    obtain ⟨o', e1⟩ := a.there c ob q hx
    exact b.free c o' e1 (a.free c ob q n hx) hx
  there := fun c ob q hx => by
    obtain ⟨o', e1⟩ := a.there c ob q hx
    exact b.there c o' e1 hx
  tups := fun c xs q => b.tups c xs (a.tups c xs q)
  frzs := fun c ob xs q => b.frzs c ob xs (a.frzs c ob xs q)
  tbls := fun c ps q => by
    obtain ⟨m1, e1⟩ := a.tbls c ps q
    obtain ⟨m2, e2⟩ := b.tbls c _ e1
    exact ⟨m1 ++ m2, by rw [e2, Array.append_assoc]⟩
theorem Un.kept (k : ∀ b u, h.get? b = some u → h'.get? b = some u) : Un fs ex H H h h' :=
  ⟨fun b ob q _ _ _ => k b ob q, fun b ob q _ _ _ => ⟨ob.slots, k b ob q⟩, fun _ _ _ n _ => n, fun b ob q _ => ⟨ob, k b ob q⟩, fun _ _ q => q, fun _ _ _ q => q, fun _ ps q => ⟨#[], by rw [q]; simp⟩⟩
theorem Un.refl : Un fs ex H H h h := Un.kept fun _ _ q => q
theorem Un.laid (k : ∀ b u, h.get? b = some u → h'.get? b = some u) (hp : h.objs.size ≤ a) (hn : H a = none) : Un fs ex H (upd H a o) h h' where
  keep := fun b u q _ _ _ => k b u q
  slot := fun b u q _ _ _ => ⟨u.slots, k b u q⟩
  free := fun b u q n _ => by rw [upd_ne (Nat.ne_of_lt (Nat.lt_of_lt_of_le (Heap.lt_size q) hp))]; exact n
  there := fun b u q _ => ⟨u, k b u q⟩
  tups := fun b xs q => by rw [upd_ne (ne_of_none q hn)]; exact q
  frzs := fun b u xs q => by rw [upd_ne (ne_of_none q hn)]; exact q
  tbls := fun b ps q => ⟨#[], by rw [upd_ne (ne_of_none q hn), q]; simp⟩
theorem Un.write (mu : Mut (H x)) (he : e = x ∨ H e = some (.own x)) (k : ∀ b u, b ≠ e → h.get? b = some u → h'.get? b = some u) (heo : ∃ u, h'.get? e = some u) : Un fs ex H (upd H x o) h h' := by
  have hx : ∀ b, H b = none → b ≠ x := fun b n z => by subst z; rw [n] at mu; exact mu
  have hb : ∀ b, H b = none → b ≠ e := fun b n z => by
    subst z
    rcases he with r | r
    · exact hx b n r
    · rw [n] at r; cases r
  have hm : ∀ b u, H b = some u → ¬ Mut (some u) → b ≠ x := fun b u q nm z => by subst z; rw [q] at mu; exact nm mu
  refine ⟨fun b u q n _ _ => k b u (hb b n) q, fun b u q n _ _ => ⟨u.slots, k b u (hb b n) q⟩, fun b u q n _ => by rw [upd_ne (hx b n)]; exact n, fun b u q _ => ?_,
    fun b xs q => by rw [upd_ne (hm b _ q fun z => z)]; exact q, fun b u xs q => by rw [upd_ne (hm b _ q fun z => z)]; exact q, fun b ps q => ⟨#[], by rw [upd_ne (hm b _ q fun z => z), q]; simp⟩⟩
  by_cases hbe : b = e
  · subst hbe; exact heo
  · exact ⟨u, k b u hbe q⟩
theorem Un.mono (u : Un fs ex H H1 h h1) (hs : ∀ b ∈ fs, b ∈ fs') (hx : ∀ b ∈ ex, b ∈ ex') : Un fs' ex' H H1 h h1 :=
  ⟨fun b ob q n hb he => u.keep b ob q n (fun z => hb (hs b z)) fun z => he (hx b z), fun _ _ q n _ he => u.any q n fun z => he (hx _ z), fun b ob q n he => u.free b ob q n fun z => he (hx b z), fun b ob q he => u.there b ob q fun z => he (hx b z), u.tups, u.frzs, u.tbls⟩
end
def trk (h : Heap) (H : Hp) : List Addr := (List.range h.objs.size).filter fun a => (H a).isSome
def hidT (h : Heap) (H : Hp) : Heap := PySem.W.hideAll h (trk h H)
theorem hidT_size (h : Heap) (H : Hp) : (hidT h H).objs.size = h.objs.size := PySem.W.hideAll_size _ _
theorem hidT_get {h : Heap} {H : Hp} {b : Addr} {o : Obj} (e : h.get? b = some o) (n : H b = none) : (hidT h H).get? b = some o :=
  PySem.W.hideAll_get _ e fun hm => by
    have q : (H b).isSome = true := (List.mem_filter.mp hm).2
    rw [n] at q; simp at q
theorem of_hidT {h : Heap} {H : Hp} {b : Addr} {o : Obj} (e : (hidT h H).get? b = some o) : h.get? b = some o ∧ H b = none := by
  have e' : h.get? b = some o := PySem.W.of_hideAll (trk h H) e
  refine ⟨e', ?_⟩
  cases q : H b with
  | none => rfl
  | some x =>
    have hm : b ∈ trk h H := List.mem_filter.mpr ⟨List.mem_range.mpr (Heap.lt_size e'), by simp [q]⟩
    have z : (hidT h H).get? b = none := PySem.W.hideAll_none (trk h H) hm
    rw [z] at e; cases e
def allNews (g h : Heap) (L : Addr) : List (Addr × Obj) := (List.range h.objs.size).filterMap fun a => if a = L ∨ (g.get? a).isSome = true then none else (h.get? a).map fun o => (a, o)
def rest (g h : Heap) (L d : Addr) : List (Addr × Obj) := (allNews g h L).filter fun p => decide (p.1 ≠ d)
end L2
namespace L2
open PySem PySem.Spec PyProof.Rows
structure Mod (K : PySem.W.Frag) (mg : Str → Option Value) (base : Heap) : Prop where
  kin : K.In base
  glob : base.Ns mainGlobals mg
  blt : ∃ mb, base.Ns builtinsNs mb ∧ ∀ x : Str, x ≠ "__name__" → mb x = bootBuiltins x
  nolimit : base.NoLimit
structure Cx where
  prog : Program
  w : World
  K : PySem.W.Frag
  mg : Str → Option Value
  base : Heap
  A : Around
  N : List Str
  s₀ : Shared
  H₀ : Hp
  env : Env
  outer : List Env
  stack : List Env
  ex : List Addr
  fn : Str → Bool
  calm : Bool
  pn : List (Addr × Obj)
  xe : Value → Shared → Prop
def frs (l : List Env) : List Addr := l.filterMap (·.frame)
abbrev Cx.fs (X : Cx) : List Addr := frs X.outer
def Vis (sc : Scope) (x : Str) : Prop := sc.names.lookup x = some .local ∨ sc.names.lookup x = some .cell ∨ sc.names.lookup x = some .free
def Loc (sc : Scope) (x : Str) : Prop := sc.names.lookup x = some .local ∨ sc.names.lookup x = some .cell
def Look (env : Env) (h : Heap) (m : Str → Option Value) (x : Str) (u : Value) : Prop :=
  (env.kindOf x = some .local ∧ m x = some u) ∨ ((env.kindOf x = some .cell ∨ env.kindOf x = some .free) ∧ ∃ c, env.cells.lookup x = some c ∧ h.IsCell c (some u))
structure Cx.Ok (X : Cx) : Prop where
  mod : Mod X.K X.mg X.base
  kind : X.env.scope.kind = .function
  glob : X.env.globals = mainGlobals
  blt : X.env.builtins = builtinsNs
  above : X.s₀.heap.objs.size ≤ X.env.locals
  inj : ∀ x y c, X.env.cells.lookup x = some c → X.env.cells.lookup y = some c → x = y
  has : ∀ x, (X.env.kindOf x = some .cell ∨ X.env.kindOf x = some .free) → ∃ c, X.env.cells.lookup x = some c
  cab : ∀ x c, X.fn x = true → X.env.cells.lookup x = some c → X.s₀.heap.objs.size ≤ c
  hd : X.calm = true → X.A.handled = none
  frames : X.A.frames = some X.stack
  stk : X.stack = X.outer ∨ (X.stack = X.env :: X.outer ∧ X.env.frame = some X.env.locals)
  exf : ∀ b ∈ X.ex, b ≠ X.env.locals ∧ ∀ x c, X.env.cells.lookup x = some c → c ≠ b
  bs : ∀ b o, X.base.get? b = some o → X.s₀.heap.get? b = some o ∧ X.H₀ b = none
  bsz : X.base.objs.size ≤ X.s₀.heap.objs.size
  noex : ∀ b o, X.base.get? b = some o → b ∉ X.ex
  exfs : ∀ b ∈ X.ex, b ∉ X.fs
  funs : X.s₀.heap.FunFrames X.base X.outer
  frf : ∀ b ∈ X.fs, X.H₀ b = none
structure Inv (X : Cx) (pins : List (Addr × Obj)) (σ : List (Option V)) (H : Hp) (s : Shared) : Prop where
  ok : X.Ok
  os : s.os = X.s₀.os
  bare : AllBare s.gens
  base : Un X.fs X.ex X.H₀ H X.s₀.heap s.heap
  loc : ∃ m, s.heap.Ns X.env.locals m ∧ ∀ (i : Nat) (x : Str) (v : V), X.N[i]? = some x → σ[i]? = some (some v) → Vis X.env.scope x → ∃ u, RelV v u ∧ Look X.env s.heap m x u
  cell : ∀ x c, X.env.cells.lookup x = some c → ∃ v, s.heap.IsCell c v
  free : H X.env.locals = none
  freeC : ∀ x c, X.env.cells.lookup x = some c → H c = none
  pin : ∀ p ∈ X.pn ++ pins, s.heap.get? p.1 = some p.2 ∧ H p.1 = none ∧ p.1 ≠ X.env.locals ∧ p.1 ∉ X.fs ∧ ∀ v, p.2.data ≠ .cell v
  hok : HOk X.prog X.w H s.heap
  len : σ.length = X.N.length
section
variable {X : Cx} {pins : List (Addr × Obj)} {σ : List (Option V)} {H H' : Hp} {s : Shared} {h' : Heap}
theorem Cx.Ok.nofr (ok : X.Ok) {b : Addr} {o : Obj} (e : X.base.get? b = some o) : b ∉ X.fs := fun hb => by
  have := (ok.funs.mem hb).1
  rw [e] at this; cases this
theorem Inv.bs (I : Inv X pins σ H s) : ∀ b o, X.base.get? b = some o → s.heap.get? b = some o ∧ H b = none := fun b o e =>
  ⟨I.base.keep b o (I.ok.bs b o e).1 (I.ok.bs b o e).2 (I.ok.nofr e) (I.ok.noex b o e), I.base.free b o (I.ok.bs b o e).1 (I.ok.bs b o e).2 (I.ok.noex b o e)⟩
theorem Inv.bk (I : Inv X pins σ H s) : ∀ b o, X.base.get? b = some o → s.heap.get? b = some o := fun b o e => (I.bs b o e).1
theorem Inv.mod (I : Inv X pins σ H s) : Mod X.K X.mg X.base := I.ok.mod
theorem Inv.kIn (I : Inv X pins σ H s) : X.K.In s.heap := I.ok.mod.kin.keeps I.bk
theorem Inv.nolimit (I : Inv X pins σ H s) : s.heap.NoLimit := I.ok.mod.nolimit.keeps I.bk
theorem Inv.fr (I : Inv X pins σ H s) : ∃ m, Fr X.base X.env.locals s.heap m :=
  let ⟨m, hn, _⟩ := I.loc
  ⟨m, hn, I.bk, Nat.le_trans I.ok.bsz I.ok.above⟩
theorem Inv.lt (I : Inv X pins σ H s) : X.env.locals < s.heap.objs.size := let ⟨_, hn, _⟩ := I.loc; hn.lt
theorem Inv.sz (I : Inv X pins σ H s) : X.s₀.heap.objs.size ≤ s.heap.objs.size := Nat.le_trans I.ok.above (Nat.le_of_lt I.lt)
theorem Inv.nofs (I : Inv X pins σ H s) {a : Addr} (h : s.heap.objs.size ≤ a) : a ∉ X.fs := fun hb => by
  obtain ⟨_, o, ho, _⟩ := I.ok.funs.mem hb
  exact absurd (Nat.lt_of_lt_of_le (Heap.lt_size ho) (Nat.le_trans I.sz h)) (Nat.lt_irrefl _)
theorem Inv.cne (I : Inv X pins σ H s) : ∀ x c, X.env.cells.lookup x = some c → c ≠ X.env.locals := fun x c e z => by
  obtain ⟨v, o, ho, hd⟩ := I.cell x c e
  obtain ⟨m, ⟨o', es, ep, ho', hd', _⟩, _⟩ := I.loc
  rw [z, ho'] at ho; cases ho; rw [hd'] at hd; cases hd
theorem Inv.funs (I : Inv X pins σ H s) : s.heap.FunFrames X.base X.outer := by
  have all : ∀ (l : List Env), (∀ b ∈ frs l, b ∈ X.fs) → X.s₀.heap.FunFrames X.base l → s.heap.FunFrames X.base l := by
    intro l
    induction l with
    | nil => intro _ _; trivial
    | cons env r ih =>
      intro hs hl
      obtain ⟨hk, ⟨L, o, hf, hn, ho, hd⟩, hr⟩ := hl
      have hL : L ∈ X.fs := hs L (by unfold frs; rw [List.filterMap_cons, hf]; exact List.mem_cons_self)
      obtain ⟨sl, e⟩ := I.base.slot L o ho (I.ok.frf L hL) hL fun z => I.ok.exfs L z hL
      exact ⟨hk, ⟨L, _, hf, hn, e, hd⟩, ih (fun b hb => hs b (by unfold frs; rw [List.filterMap_cons, hf]; exact List.mem_cons_of_mem _ hb)) hr⟩
  exact all X.outer (fun _ hb => hb) I.ok.funs
theorem Inv.stack (I : Inv X pins σ H s) : s.heap.FunFrames X.base X.stack := by
  rcases I.ok.stk with e | ⟨e, hf⟩
  · rw [e]; exact I.funs
  · rw [e]
    obtain ⟨m, hn, _⟩ := I.loc
    refine .cons (by rw [I.ok.kind]; decide) hf hn ?_ I.funs
    exact Heap.get?_none_of_le (Nat.le_trans I.ok.bsz I.ok.above)
theorem Inv.stkSub (I : Inv X pins σ H s) : ∀ b ∈ frs X.stack, b ∈ X.env.locals :: X.fs := fun b hb => by
  rcases I.ok.stk with e | ⟨e, hf⟩
  · rw [e] at hb; exact List.mem_cons_of_mem _ hb
  · rw [e] at hb
    unfold frs at hb
    rw [List.filterMap_cons, hf] at hb
    exact hb
theorem Inv.stkFree (I : Inv X pins σ H s) : ∀ b ∈ frs X.stack, H b = none := fun b hb => by
  rcases List.mem_cons.mp (I.stkSub b hb) with e | hb
  · rw [e]; exact I.free
  · obtain ⟨_, o, ho, _⟩ := I.ok.funs.mem hb
    exact I.base.free b o ho (I.ok.frf b hb) fun z => I.ok.exfs b z hb
theorem Inv.step {g' : Array GenState} {t' : Nat} {d' : Drawn} {ch : List Addr} (I : Inv X pins σ H s)
    (hch : ∀ b ∈ ch, (b ∈ X.ex ∨ X.s₀.heap.get? b = none) ∧ b ≠ X.env.locals ∧ (∀ x c, X.env.cells.lookup x = some c → c ≠ b) ∧ ∀ p ∈ X.pn ++ pins, p.1 ≠ b)
    (keep : ∀ b o, b ≠ X.env.locals → b ∉ X.fs → b ∉ ch → s.heap.get? b = some o → H b = none → h'.get? b = some o)
    (slot : ∀ b o, b ≠ X.env.locals → b ∈ X.fs → b ∉ ch → s.heap.get? b = some o → H b = none → ∃ sl, h'.get? b = some { o with slots := sl }) (free : ∀ b o, b ∉ ch → s.heap.get? b = some o → H b = none → H' b = none)
    (there : ∀ b o, b ∉ ch → s.heap.get? b = some o → ∃ o', h'.get? b = some o')
    (tups : ∀ b xs, H b = some (.tup xs) → H' b = some (.tup xs)) (frzs : ∀ b o u, H b = some (.frz o u) → H' b = some (.frz o u)) (tbls : ∀ b ps, H b = some (.tbl ps) → ∃ more, H' b = some (.tbl (ps ++ more)))
    (ns : ∀ m, s.heap.Ns X.env.locals m → h'.Ns X.env.locals m) (hok : HOk X.prog X.w H' h') (hg : AllBare g') :
    Inv X pins σ H' { s with heap := h', gens := g', drawn := d', toks := t' } := by
  have neL : ∀ b o, X.s₀.heap.get? b = some o → b ≠ X.env.locals := fun b o e => Nat.ne_of_lt (Nat.lt_of_lt_of_le (Heap.lt_size e) I.ok.above)
  have neC : ∀ b o, X.s₀.heap.get? b = some o → b ∉ X.ex → b ∉ ch := fun b o e hx hb => by
    rcases (hch b hb).1 with z | z
    · exact hx z
    · rw [e] at z; cases z
  have cellK : ∀ x c, X.env.cells.lookup x = some c → ∀ v, s.heap.IsCell c v → h'.IsCell c v := fun x c e v ⟨o, ho, hd⟩ => by
    have nch : c ∉ ch := fun z => (hch c z).2.2.1 x c e rfl
    by_cases hc : c ∈ X.fs
    · obtain ⟨sl, q⟩ := slot c o (I.cne x c e) hc nch ho (I.freeC x c e)
      exact ⟨_, q, hd⟩
    · exact ⟨o, keep c o (I.cne x c e) hc nch ho (I.freeC x c e), hd⟩
  refine ⟨I.ok, I.os, hg, ⟨fun b o e n hb hx => ?_, fun b o e n hb hx => ?_, fun b o e n hx => ?_, fun b o e hx => ?_, fun b xs e => tups b xs (I.base.tups b xs e), fun b o xs e => frzs b o xs (I.base.frzs b o xs e), fun b ps e => ?_⟩, ?_, fun x c e => ?_, ?_, fun x c e => ?_, fun p hp => ?_, hok, I.len⟩
  · exact keep b o (neL b o e) hb (neC b o e hx) (I.base.keep b o e n hb hx) (I.base.free b o e n hx)
  · obtain ⟨sl, e1⟩ := I.base.slot b o e n hb hx
    obtain ⟨sl', e2⟩ := slot b _ (neL b o e) hb (neC b o e hx) e1 (I.base.free b o e n hx)
    exact ⟨sl', e2⟩
  · obtain ⟨o', e1⟩ := I.base.there b o e hx
    exact free b o' (neC b o e hx) e1 (I.base.free b o e n hx)
  · obtain ⟨o', e1⟩ := I.base.there b o e hx
    exact there b o' (neC b o e hx) e1
  · obtain ⟨m1, e1⟩ := I.base.tbls b ps e
    obtain ⟨m2, e2⟩ := tbls b _ e1
    exact ⟨m1 ++ m2, by rw [e2, Array.append_assoc]⟩
  · obtain ⟨m, hn, hl⟩ := I.loc
    refine ⟨m, ns m hn, fun i x v e1 e2 e3 => ?_⟩
    obtain ⟨u, r, l⟩ := hl i x v e1 e2 e3
    refine ⟨u, r, ?_⟩
    rcases l with l | ⟨k, c, e, z⟩
    · exact .inl l
    · exact .inr ⟨k, c, e, cellK x c e _ z⟩
  · obtain ⟨v, z⟩ := I.cell x c e
    exact ⟨v, cellK x c e v z⟩
  · obtain ⟨m, ⟨o, _, _, ho, _⟩, _⟩ := I.loc
    exact free _ o (fun z => (hch _ z).2.1 rfl) ho I.free
  · obtain ⟨v, o, ho, hd⟩ := I.cell x c e
    exact free c o (fun z => (hch c z).2.2.1 x c e rfl) ho (I.freeC x c e)
  · obtain ⟨e, n, ne, nf, d⟩ := I.pin p hp
    have nch : p.1 ∉ ch := fun z => (hch p.1 z).2.2.2 p hp rfl
    exact ⟨keep p.1 p.2 ne nf nch e n, free p.1 p.2 nch e n, ne, nf, d⟩
theorem Inv.un {t' : Nat} (I : Inv X pins σ H s) (u : Un X.fs [] H H' s.heap h') (hok : HOk X.prog X.w H' h') : Inv X pins σ H' { s with heap := h', toks := t' } := by
  obtain ⟨m, ⟨o, es, ep, ho, r⟩, _⟩ := id I.loc
  obtain ⟨sl, hL⟩ := u.any ho I.free (by simp)
  exact I.step (g' := s.gens) (d' := s.drawn) (ch := []) (fun _ z => nomatch z) (fun b o _ hb _ e n => u.keep b o e n hb (by simp)) (fun b o _ hb _ e n => u.slot b o e n hb (by simp)) (fun b o _ e n => u.free b o e n (by simp)) (fun b o _ e => u.there b o e (by simp)) u.tups u.frzs u.tbls (fun m' hm => by
    obtain ⟨o', es', ep', ho', r'⟩ := hm
    rw [ho] at ho'; cases ho'
    exact ⟨_, es', ep', hL, r'⟩) hok I.bare
theorem Inv.call {g' : Array GenState} {t' : Nat} {d' : Drawn} {ch : List Addr} (I : Inv X pins σ H s) (u : Un (frs X.stack) ch H H' s.heap h') (hok : HOk X.prog X.w H' h') (hg : AllBare g')
    (hch : ∀ b ∈ ch, (b ∈ X.ex ∨ X.s₀.heap.get? b = none) ∧ b ≠ X.env.locals ∧ (∀ x c, X.env.cells.lookup x = some c → c ≠ b) ∧ ∀ p ∈ X.pn ++ pins, p.1 ≠ b) :
    Inv X pins σ H' { s with heap := h', gens := g', drawn := d', toks := t' } := by
  obtain ⟨m, ⟨o, es, ep, ho, r⟩, _⟩ := id I.loc
  obtain ⟨sl, hL⟩ := u.any ho I.free fun z => (hch _ z).2.1 rfl
  exact I.step (ch := ch) hch (fun b o hL hb hc e n => u.keep b o e n (fun z => (List.mem_cons.mp (I.stkSub b z)).elim hL hb) hc) (fun b o _ _ hc e n => u.any e n hc) (fun b o hc e n => u.free b o e n hc) (fun b o hc e => u.there b o e hc) u.tups u.frzs u.tbls (fun m' hm => by
    obtain ⟨o', es', ep', ho', r'⟩ := hm
    rw [ho] at ho'; cases ho'
    exact ⟨_, es', ep', hL, r'⟩) hok hg
theorem Inv.turned {t' : Nat} {it : Addr} (I : Inv X pins σ H s) (k : ∀ b o, b ≠ it → s.heap.get? b = some o → h'.get? b = some o) (hn : H it = none) (hL : it ≠ X.env.locals)
    (h1 : it ∈ X.ex ∨ X.s₀.heap.get? it = none) (h2 : ∀ x c, X.env.cells.lookup x = some c → c ≠ it) (h3 : ∀ p ∈ X.pn ++ pins, p.1 ≠ it) : Inv X pins σ H { s with heap := h', toks := t' } := by
  have nit : ∀ b u, H b = some u → b ≠ it := fun b u e z => by rw [z, hn] at e; cases e
  refine I.step (g' := s.gens) (d' := s.drawn) (ch := [it]) (fun b hb => ?_) (fun b o _ _ hc e _ => k b o (fun z => hc (by simp [z])) e) (fun b o _ _ hc e _ => ⟨o.slots, k b o (fun z => hc (by simp [z])) e⟩) (fun _ _ _ _ n => n)
    (fun b o hc e => ⟨o, k b o (fun z => hc (by simp [z])) e⟩) (fun _ _ e => e) (fun _ _ _ e => e) (fun b ps e => ⟨#[], by rw [e]; simp⟩) (fun m hm => ?_) (fun b u e => ?_) I.bare
  · have e : b = it := by simpa using hb
    subst e
    exact ⟨h1, hL, h2, h3⟩
  · obtain ⟨o, es, ep, ho, r⟩ := hm
    exact ⟨o, es, ep, k _ o (Ne.symm hL) ho, r⟩
  · refine (I.hok b u e).stay (fun c v hc q => k c v ?_ q) (fun _ q => q) fun _ _ q => q
    rcases hc with z | z
    · rw [z]; exact nit b u e
    · exact nit c _ z
theorem Inv.tok (I : Inv X pins σ H s) (t : Nat) : Inv X pins σ H { s with toks := t } := I.un (h' := s.heap) (t' := t) Un.refl I.hok
theorem Inv.kept {t' : Nat} (I : Inv X pins σ H s) (k : ∀ b u, s.heap.get? b = some u → h'.get? b = some u) : Inv X pins σ H { s with heap := h', toks := t' } := I.un (Un.kept k) (I.hok.kept k)
theorem Inv.laid {a : Addr} {o : HO} {t' : Nat} (I : Inv X pins σ H s) (k : ∀ b u, s.heap.get? b = some u → h'.get? b = some u) (hp : s.heap.objs.size ≤ a) (new : ObjOk X.prog X.w (upd H a o) h' a o) :
    Inv X pins σ (upd H a o) { s with heap := h', toks := t' } := I.un (Un.laid k hp (I.hok.fresh hp)) (I.hok.laid k hp new)
theorem Inv.write {x e : Addr} {o : HO} {t' : Nat} (I : Inv X pins σ H s) (mu : Mut (H x)) (he : e = x ∨ H e = some (.own x)) (k : ∀ b u, b ≠ e → s.heap.get? b = some u → h'.get? b = some u) (heo : ∃ u, h'.get? e = some u)
    (new : ObjOk X.prog X.w (upd H x o) h' x o) : Inv X pins σ (upd H x o) { s with heap := h', toks := t' } := I.un (Un.write mu he k heo) (I.hok.write mu he k heo new)
theorem Inv.weak {σ' : List (Option V)} (I : Inv X pins σ H s) (hl : σ'.length = σ.length) (w : ∀ (i : Nat) v, σ'[i]? = some (some v) → σ[i]? = some (some v)) : Inv X pins σ' H s :=
  ⟨I.ok, I.os, I.bare, I.base, let ⟨m, hn, hl'⟩ := I.loc; ⟨m, hn, fun i x v e1 e2 e3 => hl' i x v e1 (w i v e2) e3⟩, I.cell, I.free, I.freeC, I.pin, I.hok, hl.trans I.len⟩
theorem Inv.pins_of {pins' : List (Addr × Obj)} (I : Inv X pins σ H s) (h : ∀ p ∈ pins', s.heap.get? p.1 = some p.2 ∧ H p.1 = none ∧ p.1 ≠ X.env.locals ∧ p.1 ∉ X.fs ∧ ∀ v, p.2.data ≠ .cell v) : Inv X pins' σ H s :=
  ⟨I.ok, I.os, I.bare, I.base, I.loc, I.cell, I.free, I.freeC, fun p hp => (List.mem_append.mp hp).elim (fun z => I.pin p (List.mem_append_left _ z)) (h p), I.hok, I.len⟩
theorem nodup_ix {N : List Str} (hN : N.Nodup) {i j : Nat} {x : Str} (a : N[i]? = some x) (b : N[j]? = some x) : i = j := by
  obtain ⟨h1, e1⟩ := List.getElem?_eq_some_iff.mp a
  obtain ⟨h2, e2⟩ := List.getElem?_eq_some_iff.mp b
  exact (List.getElem_inj hN).mp (e1.trans e2.symm)
theorem store_ok2 {M : Model} {A : Around} {E : Value → Shared → Prop} {i : Nat} {x : Str} {v : V} {u : Value} {Q : Unit → Shared → Prop} (I : Inv X pins σ H s) (hN : X.N.Nodup) (hi : X.N[i]? = some x) (hx : Loc X.env.scope x) (r : RelV v u)
    (h : ∀ s', Inv X pins (σ.set i (some v)) H s' → (∃ a, Heap.SameBut a s.heap s'.heap ∧ (a = X.env.locals ∨ X.env.cells.lookup x = some a)) → Q () s') (hf : X.fn x = true ∨ X.env.scope.names.lookup x = some .local := by first | exact .inl rfl | exact .inr rfl | assumption) : wpAny M A (storeName X.env x u) Q E s := by
  obtain ⟨m, hn, hl⟩ := id I.loc
  have hcls : (X.env.scope.kind == .class || (X.env.scope.kind == .module && X.env.locals != X.env.globals)) = false := by rw [I.ok.kind]; rfl
  have hiσ : i < σ.length := by rw [I.len]; exact (List.getElem?_eq_some_iff.mp hi).1
  have cne := I.cne
  have tracked : ∀ {a : Addr} {h' : Heap}, (∃ o, s.heap.get? a = some o ∧ H a = none) → Heap.SameBut a s.heap h' → HOk X.prog X.w H h' := fun {a h'} ha hs b ob e => by
    obtain ⟨_, _, hfree⟩ := ha
    refine (I.hok b ob e).stay (fun c w' hc q => (hs.2 c ?_).trans q) (fun _ q => q) fun _ _ q => q
    rintro rfl
    rcases hc with rfl | hc
    · rw [hfree] at e; cases e
    · rw [hfree] at hc; cases hc
  rcases hx with hk | hk
  · refine wpAny_storeName_local hk hn (fun h' hn' hs => ?_) hcls
    obtain ⟨oL, _, _, hoL, _⟩ := id hn
    refine h _ ⟨I.ok, I.os, I.bare, ⟨fun b o e n hb hx => ?_, fun b o e n hb hx => ?_, I.base.free, fun b o e hx => ?_, I.base.tups, I.base.frzs, I.base.tbls⟩, ⟨_, hn', fun j y v' e1 e2 e3 => ?_⟩, fun y c e => ?_, I.free, I.freeC, fun p hp => ?_, tracked ⟨oL, hoL, I.free⟩ hs, by simpa using I.len⟩ ⟨_, hs, .inl rfl⟩
    · exact (hs.2 b (Nat.ne_of_lt (Nat.lt_of_lt_of_le (Heap.lt_size e) I.ok.above))).trans (I.base.keep b o e n hb hx)
    · obtain ⟨sl, e1⟩ := I.base.slot b o e n hb hx
      exact ⟨sl, (hs.2 b (Nat.ne_of_lt (Nat.lt_of_lt_of_le (Heap.lt_size e) I.ok.above))).trans e1⟩
    · obtain ⟨o', e1⟩ := I.base.there b o e hx
      exact ⟨o', (hs.2 b (Nat.ne_of_lt (Nat.lt_of_lt_of_le (Heap.lt_size e) I.ok.above))).trans e1⟩
    · by_cases hj : j = i
      · subst hj
        rw [hi] at e1; cases e1
        rw [List.getElem?_set_self hiσ] at e2
        cases e2
        exact ⟨u, r, .inl ⟨hk, by simp⟩⟩
      · rw [List.getElem?_set_ne (Ne.symm hj)] at e2
        obtain ⟨u', r', q⟩ := hl j y v' e1 e2 e3
        refine ⟨u', r', ?_⟩
        rcases q with ⟨k, e⟩ | ⟨k, c, e, z⟩
        · refine .inl ⟨k, ?_⟩
          have : y ≠ x := fun e => hj (nodup_ix hN e1 (e ▸ hi))
          simp [this, e]
        · exact .inr ⟨k, c, e, z.sameBut hs (cne y c e)⟩
    · obtain ⟨w', z⟩ := I.cell y c e
      exact ⟨w', z.sameBut hs (cne y c e)⟩
    · obtain ⟨e, n, ne, nf, d⟩ := I.pin p hp
      exact ⟨(hs.2 p.1 ne).trans e, n, ne, nf, d⟩
  · have hfn : X.fn x = true := by
      rcases hf with z | z
      · exact z
      · rw [z] at hk; cases hk
    obtain ⟨c, hc⟩ := I.ok.has x (.inl hk)
    obtain ⟨w', z⟩ := I.cell x c hc
    refine wpAny_storeName_cell I.ok.kind hk hc z (fun h' hc' hs => ?_)
    obtain ⟨oc, hoc, hocd⟩ := id z
    refine h { s with heap := h' } ⟨I.ok, I.os, I.bare, ⟨fun b o e n hb hx => ?_, fun b o e n hb hx => ?_, I.base.free, fun b o e hx => ?_, I.base.tups, I.base.frzs, I.base.tbls⟩, ⟨m, hn.sameBut hs (Ne.symm (cne x c hc)), fun j y v' e1 e2 e3 => ?_⟩, fun y c' e => ?_, I.free, I.freeC, fun p hp => ?_, tracked ⟨oc, hoc, I.freeC x c hc⟩ hs, by simpa using I.len⟩ ⟨c, hs, .inr hc⟩
    · exact (hs.2 b (Nat.ne_of_lt (Nat.lt_of_lt_of_le (Heap.lt_size e) (I.ok.cab x c hfn hc)))).trans (I.base.keep b o e n hb hx)
    · obtain ⟨sl, e1⟩ := I.base.slot b o e n hb hx
      exact ⟨sl, (hs.2 b (Nat.ne_of_lt (Nat.lt_of_lt_of_le (Heap.lt_size e) (I.ok.cab x c hfn hc)))).trans e1⟩
    · obtain ⟨o', e1⟩ := I.base.there b o e hx
      exact ⟨o', (hs.2 b (Nat.ne_of_lt (Nat.lt_of_lt_of_le (Heap.lt_size e) (I.ok.cab x c hfn hc)))).trans e1⟩
    · by_cases hj : j = i
      · subst hj
        rw [hi] at e1; cases e1
        rw [List.getElem?_set_self hiσ] at e2
        cases e2
        exact ⟨u, r, .inr ⟨.inl hk, c, hc, hc'⟩⟩
      · rw [List.getElem?_set_ne (Ne.symm hj)] at e2
        obtain ⟨u', r', q⟩ := hl j y v' e1 e2 e3
        refine ⟨u', r', ?_⟩
        rcases q with q | ⟨k, c', e, z'⟩
        · exact .inl q
        · refine .inr ⟨k, c', e, z'.sameBut hs ?_⟩
          rintro rfl
          exact hj (nodup_ix hN e1 (I.ok.inj _ _ _ e hc ▸ hi))
    · by_cases hcc : c' = c
      · subst hcc; exact ⟨_, hc'⟩
      · obtain ⟨w2, z2⟩ := I.cell y c' e
        exact ⟨w2, z2.sameBut hs hcc⟩
    · obtain ⟨e, n, ne, nf, d⟩ := I.pin p hp
      refine ⟨(hs.2 p.1 ?_).trans e, n, ne, nf, d⟩
      intro q
      rw [q, hoc] at e
      have q' : oc = p.2 := Option.some.inj e
      exact d w' (by rw [← q']; exact hocd)
theorem store_ok {M : Model} {A : Around} {E : Value → Shared → Prop} {i : Nat} {x : Str} {v : V} {u : Value} {Q : Unit → Shared → Prop} (I : Inv X pins σ H s) (hN : X.N.Nodup) (hi : X.N[i]? = some x) (hx : Loc X.env.scope x) (r : RelV v u)
    (h : ∀ s', Inv X pins (σ.set i (some v)) H s' → Q () s') (hf : X.fn x = true ∨ X.env.scope.names.lookup x = some .local := by first | exact .inl rfl | exact .inr rfl | assumption) : wpAny M A (storeName X.env x u) Q E s :=
  store_ok2 I hN hi hx r (fun s' I' _ => h s' I') hf
theorem Inv.call' {s' : Shared} {ch : List Addr} (I : Inv X pins σ H s) (ho : s'.os = s.os) (u : Un (frs X.stack) ch H H' s.heap s'.heap) (hok : HOk X.prog X.w H' s'.heap) (hg : AllBare s'.gens)
    (hch : ∀ b ∈ ch, (b ∈ X.ex ∨ X.s₀.heap.get? b = none) ∧ b ≠ X.env.locals ∧ (∀ x c, X.env.cells.lookup x = some c → c ≠ b) ∧ ∀ p ∈ X.pn ++ pins, p.1 ≠ b) : Inv X pins σ H' s' := by
  obtain ⟨h', g', d', t', o'⟩ := s'
  have e : o' = s.os := ho
  subst e
  exact I.call (g' := g') (t' := t') (d' := d') u hok hg hch
end
abbrev XK := Value → Option Addr → Hp → Prop
abbrev St := List (Option V)
abbrev VK := V → Hp → Prop
abbrev TE := St → Hp → VK → Prop
abbrev TT := St → Hp → (Bool → Hp → Prop) → Prop
abbrev TA := St → Hp → (List V → Hp → Prop) → Prop
structure Ends where
  nx : St → Hp → Prop
  rt : VK
  bk : St → Hp → Prop := fun _ _ => False
  ct : St → Hp → Prop := fun _ _ => False
abbrev TS := Ends → St → Hp → Prop
def EP (X : Cx) (pins : List (Addr × Obj)) (σ : St) (Q : VK) (u : Value) (s' : Shared) : Prop := ∃ v H', Inv X pins σ H' s' ∧ RelV v u ∧ Q v H'
def TP (X : Cx) (pins : List (Addr × Obj)) (σ : St) (Q : Bool → Hp → Prop) (b : Bool) (s' : Shared) : Prop := ∃ H', Inv X pins σ H' s' ∧ Q b H'
def AP (X : Cx) (pins : List (Addr × Obj)) (σ : St) (Q : List V → Hp → Prop) (us : List Value) (s' : Shared) : Prop := ∃ vs H', Inv X pins σ H' s' ∧ Vals vs us ∧ Q vs H'
def SP (X : Cx) (pins : List (Addr × Obj)) (D : Ends) (f : Flow) (s' : Shared) : Prop :=
  match f with
  | .next => ∃ σ' H', Inv X pins σ' H' s' ∧ D.nx σ' H'
  | .brk => ∃ σ' H', Inv X pins σ' H' s' ∧ D.bk σ' H'
  | .cont => ∃ σ' H', Inv X pins σ' H' s' ∧ D.ct σ' H'
  | .ret u => ∃ v σ' H', Inv X pins σ' H' s' ∧ RelV v u ∧ D.rt v H'
def PE (X : Cx) (e : Expr) (t : TE) : Prop :=
  ∀ (pins : List (Addr × Obj)) (s : Shared) (σ : St) (H : Hp) (Q : VK), Inv X pins σ H s → t σ H Q → wpAny (model X.prog X.w) X.A (eval e X.env) (EP X pins σ Q) X.xe s
def PT (X : Cx) (e : Expr) (t : TT) : Prop :=
  ∀ (pins : List (Addr × Obj)) (s : Shared) (σ : St) (H : Hp) (Q : Bool → Hp → Prop), Inv X pins σ H s → t σ H Q → wpAny (model X.prog X.w) X.A (isTrue e X.env (eval e X.env)) (TP X pins σ Q) X.xe s
def PW (X : Cx) (e : Expr) (t : TT) : Prop :=
  ∀ (whole : Sem Value) (pins : List (Addr × Obj)) (s : Shared) (σ : St) (H : Hp) (Q : Bool → Hp → Prop), Inv X pins σ H s → t σ H Q → wpAny (model X.prog X.w) X.A (isTrue e X.env whole) (TP X pins σ Q) X.xe s
theorem PW.pt {X : Cx} {e : Expr} {t : TT} (h : PW X e t) : PT X e t := h _
def PA (X : Cx) (es : List Expr) (t : TA) : Prop :=
  ∀ (pos : Pos) (pins : List (Addr × Obj)) (s : Shared) (σ : St) (H : Hp) (Q : List V → Hp → Prop), Inv X pins σ H s → t σ H Q → wpAny (model X.prog X.w) X.A (spliced (backTo pos (starEach es X.env))) (AP X pins σ Q) X.xe s
def PS (X : Cx) (st : Stmt) (t : TS) : Prop :=
  ∀ (pins : List (Addr × Obj)) (s : Shared) (σ : St) (H : Hp) (D : Ends), Inv X pins σ H s → t D σ H → wpAny (model X.prog X.w) X.A (exec st X.env) (SP X pins D) X.xe s
def PSs (X : Cx) (st : List Stmt) (t : TS) : Prop :=
  ∀ (pins : List (Addr × Obj)) (s : Shared) (σ : St) (H : Hp) (D : Ends), Inv X pins σ H s → t D σ H → wpAny (model X.prog X.w) X.A (execs st X.env) (SP X pins D) X.xe s
theorem thn {α : Type} {t : Sem α} {Q Q' : α → Shared → Prop} {M : Model} {A : Around} {E : Value → Shared → Prop} {s : Shared} (h : wpAny M A t Q E s) (hQ : ∀ a s, Q a s → Q' a s) : wpAny M A t Q' E s := wpAny_mono h hQ fun _ _ x => x
end L2
namespace L2
open PySem PySem.Spec PyProof.Rows
section
variable {X : Cx}
def tVar (i : Nat) : TE := fun σ H Q => ∃ v, σ[i]? = some (some v) ∧ Q v H
def tC (v : V) : TE := fun _ H Q => Q v H
theorem pe_var {i : Nat} {x : Str} {pos : Pos} (hN : X.N[i]? = some x) (hv : Vis X.env.scope x) (hd : (x == ("__debug__" : Str)) = false := by decide) (hcd : (x == ("__classdict__" : Str)) = false := by decide) : PE X (.Name x pos) (tVar i) := by
  intro pins s σ H Q I h
  obtain ⟨v, e, h⟩ := h
  obtain ⟨m, hn, hl⟩ := I.loc
  obtain ⟨u, r, l⟩ := hl i x v hN e hv
  have fin : EP X pins σ Q u s := ⟨v, H, I, r, h⟩
  rcases l with ⟨hk, hm⟩ | ⟨hk, c, hc, hcell⟩
  · exact wpAny_Name (wpAny_loadName_local I.ok.kind hk hn hm fin) hd
  · rcases hk with hk | hk
    · exact wpAny_Name (wpAny_loadName_cell I.ok.kind hk hc hcell fin) hd
    · exact wpAny_Name (wpAny_loadName_free I.ok.kind hk hc hcell fin hcd) hd
theorem pe_int {i j pos} : PE X (.Constant (.int i) j pos) (tC (.int i)) := fun _ _ _ H _ I h => wpAny_Constant_int ⟨.int i, H, I.tok _, ⟨_, rfl⟩, h⟩
theorem pe_bl {b j pos} : PE X (.Constant (.bool b) j pos) (tC (.bl b)) := fun _ _ _ H _ I h => Constant_bool ⟨.bl b, H, I, rfl, h⟩
theorem pe_non {j pos} : PE X (.Constant .none j pos) (tC .non) := fun _ _ _ H _ I h => Constant_none ⟨.non, H, I, rfl, h⟩
theorem pe_str {x j pos} : PE X (.Constant (.str x) j pos) (tC (.str x)) := fun _ _ _ H _ I h => Calls.Constant_str ⟨.str x, H, I.tok _, ⟨_, rfl⟩, h⟩
def Gl (X : Cx) (x : Str) : Prop := X.env.kindOf x = some .globalImplicit
theorem ld_glob {E : Value → Shared → Prop} {pins : List (Addr × Obj)} {s : Shared} {σ : St} {H : Hp} {x : Str} {u : Value} {pos : Pos} {Q : Value → Shared → Prop} (I : Inv X pins σ H s) (hg : Gl X x) (hm : X.mg x = some u) (h : Q u s)
    (hd : (x == ("__debug__" : Str)) = false := by decide) : wpAny (model X.prog X.w) X.A (eval (.Name x pos) X.env) Q E s :=
  Calls.Name_function_global I.ok.kind hg (Calls.loadGlobal_global (by rw [I.ok.glob]; exact I.mod.glob.keeps I.bk) hm h) hd
theorem ld_blt {E : Value → Shared → Prop} {pins : List (Addr × Obj)} {s : Shared} {σ : St} {H : Hp} {x : Str} {u : Value} {pos : Pos} {Q : Value → Shared → Prop} (I : Inv X pins σ H s) (hg : Gl X x) (hm : X.mg x = none) (hv : bootBuiltins x = some u) (h : Q u s)
    (hn : x ≠ "__name__" := by decide) (hd : (x == ("__debug__" : Str)) = false := by decide) : wpAny (model X.prog X.w) X.A (eval (.Name x pos) X.env) Q E s := by
  obtain ⟨mb, h1, h2⟩ := I.mod.blt
  exact Calls.Name_function_global I.ok.kind hg (Calls.loadGlobal_builtin (by rw [I.ok.glob]; exact I.mod.glob.keeps I.bk) hm (by rw [I.ok.blt]; exact h1.keeps I.bk) ((h2 x hn).trans hv) h) hd
theorem pe_bltn {x : Str} {v : V} {u : Value} {pos : Pos} (hg : Gl X x) (hm : X.mg x = none) (hv : bootBuiltins x = some u) (r : RelV v u) (hn : x ≠ "__name__" := by decide) (hd : (x == ("__debug__" : Str)) = false := by decide) : PE X (.Name x pos) (tC v) :=
  fun _ _ _ H _ I h => ld_blt I hg hm hv ⟨v, H, I, r, h⟩ hn hd
variable {a b : Expr} {ta tb : TE} {pos : Pos}
def PC (X : Cx) (op : CmpOp) (a b : Expr) (t : TE) : Prop :=
  ∀ (pins : List (Addr × Obj)) (s : Shared) (σ : St) (H : Hp) (Q : VK), Inv X pins σ H s → t σ H Q →
    wpAny (model X.prog X.w) X.A (eval a X.env) (fun v s₁ => wpAny (model X.prog X.w) X.A (eval b X.env) (fun u s₂ => wpAny (model X.prog X.w) X.A (compareOp op v u) (EP X pins σ Q) X.xe s₂) X.xe s₁) X.xe s
theorem nobehind (b : Expr) {op : CmpOp} (h : op ≠ .In) (h2 : op ≠ .NotIn) : behindInMarks op b = false := by
  have e1 : (op == CmpOp.In) = false := by cases op <;> first | rfl | exact absurd rfl h
  have e2 : (op == CmpOp.NotIn) = false := by cases op <;> first | rfl | exact absurd rfl h2
  cases b <;> simp [behindInMarks, e1, e2]
def tIsN (ta : TE) : TE := fun σ H Q => ta σ H fun x H1 => Q (.bl (decide (x = .non))) H1
def tNotN (ta : TE) : TE := fun σ H Q => ta σ H fun x H1 => Q (.bl (!decide (x = .non))) H1
theorem RelV.none_iff {x : V} {v : Value} (r : RelV x v) : (v == Value.none) = decide (x = .non) := by
  cases x with
  | non => cases r; rfl
  | bl _ => cases r; rfl
  | int _ => obtain ⟨t, rfl⟩ := r; rfl
  | str _ => obtain ⟨t, rfl⟩ := r; rfl
  | byt _ => obtain ⟨t, rfl⟩ := r; rfl
  | flt _ => obtain ⟨t, rfl⟩ := r; rfl
  | ref _ => cases r; rfl
  | ty _ => cases r; rfl
theorem pc_isN {j pos'} (ha : PE X a ta) : PC X .Is a (.Constant .none j pos') (tIsN ta) := by
  intro pins s σ H Q I h
  refine thn (ha pins s σ H _ I h) fun v s1 ⟨x, H1, I1, r1, q1⟩ => ?_
  exact Constant_none (is_none_gen ⟨.bl _, H1, I1, by rw [r1.none_iff]; rfl, q1⟩)
theorem pc_notN {j pos'} (ha : PE X a ta) : PC X .IsNot a (.Constant .none j pos') (tNotN ta) := by
  intro pins s σ H Q I h
  refine thn (ha pins s σ H _ I h) fun v s1 ⟨x, H1, I1, r1, q1⟩ => ?_
  exact Constant_none (isnot_none_gen ⟨.bl _, H1, I1, by rw [r1.none_iff]; rfl, q1⟩)
def tB (t : TE) : TT := fun σ H Q => t σ H fun x H1 => ∃ c, x = .bl c ∧ Q c H1
theorem pe_cmp {op : CmpOp} {t : TE} (h : PC X op a b t) (h1 : behindInMarks op b = false := by first | exact nobehind _ (by decide) (by decide) | rfl) : PE X (.Compare a [op] [b] pos) t := fun pins s σ H Q I hw => wpAny_Compare1 (h pins s σ H Q I hw) h1
theorem pt_cmp {op : CmpOp} {t : TE} (h : PC X op a b t) (h1 : behindInMarks op b = false := by first | exact nobehind _ (by decide) (by decide) | rfl) : PT X (.Compare a [op] [b] pos) (tB t) := by
  intro pins s σ H Q I hw
  refine wpAny_isTrue_Compare1 (thn (h pins s σ H _ I hw) fun v s1 h1 => thn h1 fun u s2 h2 => thn h2 fun c s3 ⟨x, H1, I1, r1, q1⟩ => ?_) h1
  obtain ⟨d, rfl, q⟩ := q1
  cases r1
  exact wpAny_truthy_bool ⟨H1, I1, q⟩
theorem pt_val {e : Expr} {t : TE} (h : PE X e t) (he : ∀ whole, isTrue e X.env whole = (do let v ← whole; standAt e.pos; holding [v] (truthy v)) := by intro _; rfl) : PT X e (tB t) := by
  intro pins s σ H Q I hw
  refine isTrue_plain (thn (h pins s σ H _ I hw) fun v s1 ⟨x, H1, I1, r1, q1⟩ => ?_) (he _)
  obtain ⟨d, rfl, q⟩ := q1
  cases r1
  exact wpAny_truthy_bool ⟨H1, I1, q⟩
variable {tA tB' : TT} {rest : List Expr}
def tAnd (t u : TT) : TT := fun σ H Q => t σ H fun c H1 => if c = true then u σ H1 Q else Q false H1
def tOr (t u : TT) : TT := fun σ H Q => t σ H fun c H1 => if c = true then Q true H1 else u σ H1 Q
def tNot (t : TT) : TT := fun σ H Q => t σ H fun c H1 => Q (!c) H1
theorem pw_and1 (ha : PT X a tA) : PW X (.BoolOp .And [a] pos) tA := by
  intro wh pins s σ H Q I h
  refine isTrue_and (thn (ha pins s σ H Q I h) fun c s1 e => ?_)
  cases c with
  | true => exact isTrue_and_nil e
  | false => exact e
theorem pw_or1 (ha : PT X a tA) : PW X (.BoolOp .Or [a] pos) tA := by
  intro wh pins s σ H Q I h
  refine isTrue_or (thn (ha pins s σ H Q I h) fun c s1 e => ?_)
  cases c with
  | false => exact isTrue_or_nil e
  | true => exact e
theorem pw_and (ha : PT X a tA) (hb : PW X (.BoolOp .And (b :: rest) pos) tB') : PW X (.BoolOp .And (a :: b :: rest) pos) (tAnd tA tB') := by
  intro wh pins s σ H Q I h
  refine isTrue_and (thn (ha pins s σ H _ I h) fun c s1 ⟨H1, I1, q1⟩ => ?_)
  cases c with
  | true => exact hb wh pins s1 σ H1 Q I1 q1
  | false => exact ⟨H1, I1, q1⟩
theorem pw_or (ha : PT X a tA) (hb : PW X (.BoolOp .Or (b :: rest) pos) tB') : PW X (.BoolOp .Or (a :: b :: rest) pos) (tOr tA tB') := by
  intro wh pins s σ H Q I h
  refine isTrue_or (thn (ha pins s σ H _ I h) fun c s1 ⟨H1, I1, q1⟩ => ?_)
  cases c with
  | true => exact ⟨H1, I1, q1⟩
  | false => exact hb wh pins s1 σ H1 Q I1 q1
theorem pt_not (ha : PT X a tA) : PT X (.UnaryOp .Not a pos) (tNot tA) := by
  intro pins s σ H Q I h
  exact isTrue_not (ha pins s σ H (fun c H1 => Q (!c) H1) I h)
def tAndV (ta tb : TE) : TE := fun σ H Q => ta σ H fun x H1 => ∃ c, x = .bl c ∧ if c = true then tb σ H1 Q else Q (.bl false) H1
def tOrV (ta tb : TE) : TE := fun σ H Q => ta σ H fun x H1 => ∃ c, x = .bl c ∧ if c = true then Q (.bl true) H1 else tb σ H1 Q
def tNotV (ta : TE) : TE := fun σ H Q => ta σ H fun x H1 => ∃ c, x = .bl c ∧ Q (.bl (!c)) H1
theorem pe_one {op} {t : TE} (h : PE X a t) : PE X (.BoolOp op [a] pos) t := fun pins s σ H Q I hw => BoolOp_one (h pins s σ H Q I hw)
theorem pe_and (ha : PE X a ta) (hb : PE X (.BoolOp .And (b :: rest) pos) tb) : PE X (.BoolOp .And (a :: b :: rest) pos) (tAndV ta tb) := by
  intro pins s σ H Q I h
  refine BoolOp_and (thn (ha pins s σ H _ I h) fun v s1 ⟨x, H1, I1, r1, q1⟩ => ?_)
  obtain ⟨c, rfl, q1⟩ := q1
  cases r1
  refine wpAny_truthy_bool ?_
  cases c with
  | true => exact hb pins s1 σ H1 Q I1 q1
  | false => exact ⟨.bl false, H1, I1, rfl, q1⟩
theorem pe_or (ha : PE X a ta) (hb : PE X (.BoolOp .Or (b :: rest) pos) tb) : PE X (.BoolOp .Or (a :: b :: rest) pos) (tOrV ta tb) := by
  intro pins s σ H Q I h
  refine BoolOp_or (thn (ha pins s σ H _ I h) fun v s1 ⟨x, H1, I1, r1, q1⟩ => ?_)
  obtain ⟨c, rfl, q1⟩ := q1
  cases r1
  refine wpAny_truthy_bool ?_
  cases c with
  | false => exact hb pins s1 σ H1 Q I1 q1
  | true => exact ⟨.bl true, H1, I1, rfl, q1⟩
theorem pe_not (ha : PE X a ta) : PE X (.UnaryOp .Not a pos) (tNotV ta) := by
  intro pins s σ H Q I h
  refine UnaryOp_ (thn (ha pins s σ H _ I h) fun v s1 ⟨x, H1, I1, r1, q1⟩ => ?_)
  obtain ⟨c, rfl, q1⟩ := q1
  cases r1
  exact not_of (wpAny_truthy_bool ⟨.bl (!c), H1, I1, rfl, q1⟩)
end
end L2
namespace L2
open PySem PySem.Spec PyProof.Rows
def SqL (K : PySem.W.Frag) (H : Hp) (a : Addr) (xs : List V) : Prop :=
  Rd H a (.lst xs) ∨
    ∃ (o : Obj) (its : Array Value) (n : Nat), K.lookup a = some o ∧ o.cls = .type "list" ∧ o.dict = none ∧ o.data = .seq its n ∧ its.size ≤ sizeLine ∧ Vals xs its.toList
def SqT (K : PySem.W.Frag) (H : Hp) (a : Addr) (xs : List V) : Prop :=
  Rd H a (.tup xs) ∨
    ∃ (o : Obj) (its : Array Value) (n : Nat), K.lookup a = some o ∧ o.cls = .type "tuple" ∧ o.data = .seq its n ∧ its.size ≤ sizeLine ∧ Vals xs its.toList
def absV : Value → Option V
  | .none => some .non
  | .bool b => some (.bl b)
  | .int i _ => some (.int i)
  | .str x _ => some (.str x)
  | .bytes b _ => some (.byt b)
  | .float b _ => some (.flt b)
  | .ref a => some (.ref a)
  | .type n => some (.ty n)
  | _ => none
theorem RelV.abs {x : V} {u : Value} (r : RelV x u) : absV u = some x := by
  cases x with
  | non => cases r; rfl
  | bl _ => cases r; rfl
  | int _ => obtain ⟨t, rfl⟩ := r; rfl
  | str _ => obtain ⟨t, rfl⟩ := r; rfl
  | byt _ => obtain ⟨t, rfl⟩ := r; rfl
  | flt _ => obtain ⟨t, rfl⟩ := r; rfl
  | ref _ => cases r; rfl
  | ty _ => cases r; rfl
theorem RelV.inj {x y : V} {u : Value} (r : RelV x u) (q : RelV y u) : x = y := Option.some.inj (r.abs.symm.trans q.abs)
theorem Vals.inj : ∀ {xs ys : List V} {us : List Value}, Vals xs us → Vals ys us → xs = ys
  | _, _, _, .nil, .nil => rfl
  | _, _, _, .cons r t, .cons r' t' => by rw [r.inj r', Vals.inj t t']
section
variable {X : Cx} {pins : List (Addr × Obj)} {σ : St} {H : Hp} {s : Shared} {a : Addr} {xs ys : List V}
theorem SqL.of {K : PySem.W.Frag} (h : H a = some (.lst xs)) : SqL K H a xs := .inl (.inl h)
theorem SqT.of {K : PySem.W.Frag} (h : H a = some (.tup xs)) : SqT K H a xs := .inl (.inl h)
theorem Inv.list (I : Inv X pins σ H s) (h : SqL X.K H a xs) : ∃ its : List Value, Vals xs its ∧ PlainL s.heap a its.toArray ∧ xs.length ≤ sizeLine := by
  rcases h with h | ⟨o, its, n, hk, hc, hd, hs, hz, r⟩
  · obtain ⟨z, its, n, r, e⟩ := h.ok I.hok
    exact ⟨its, r, ⟨_, n, e, rfl, rfl, rfl⟩, z⟩
  · refine ⟨its.toList, r, ⟨o, n, I.kIn a o hk, hc, hd, by simpa using hs⟩, ?_⟩
    have e := r.length
    simp only [Array.length_toList] at e
    omega
theorem Inv.tuple (I : Inv X pins σ H s) (h : SqT X.K H a xs) : ∃ its : List Value, Vals xs its ∧ IsTup s.heap a its.toArray ∧ xs.length ≤ sizeLine := by
  rcases h with h | ⟨o, its, n, hk, hc, hs, hz, r⟩
  · obtain ⟨z, its, r, p⟩ := h.ok I.hok
    exact ⟨its, r, p, z⟩
  · refine ⟨its.toList, r, ⟨o, I.kIn a o hk, hc, n, by simpa using hs⟩, ?_⟩
    have e := r.length
    simp only [Array.length_toList] at e
    omega
theorem Inv.list_inj (I : Inv X pins σ H s) (h : SqL X.K H a xs) (h' : SqL X.K H a ys) : xs = ys := by
  obtain ⟨its, r, ⟨o, n, e, _, _, d⟩, _⟩ := I.list h
  obtain ⟨its', r', ⟨o', n', e', _, _, d'⟩, _⟩ := I.list h'
  rw [e] at e'; cases e'
  rw [d] at d'
  injection d' with d1 _
  have : its = its' := by simpa using congrArg Array.toList d1
  subst this
  exact r.inj r'
end
abbrev Cx.wish (X : Cx) (E : Value → Shared → Prop) : Cx := { X with xe := E }
abbrev Cx.nox (X : Cx) : Cx := X.wish fun _ _ => False
theorem Cx.Ok.wish {X : Cx} (ok : X.Ok) (E : Value → Shared → Prop) : (X.wish E).Ok :=
  ⟨ok.mod, ok.kind, ok.glob, ok.blt, ok.above, ok.inj, ok.has, ok.cab, ok.hd, ok.frames, ok.stk, ok.exf, ok.bs, ok.bsz, ok.noex, ok.exfs, ok.funs, ok.frf⟩
theorem Cx.Ok.unwish {X : Cx} {E : Value → Shared → Prop} (ok : (X.wish E).Ok) : X.Ok :=
  ⟨ok.mod, ok.kind, ok.glob, ok.blt, ok.above, ok.inj, ok.has, ok.cab, ok.hd, ok.frames, ok.stk, ok.exf, ok.bs, ok.bsz, ok.noex, ok.exfs, ok.funs, ok.frf⟩
section
variable {X : Cx} {pins : List (Addr × Obj)} {σ : St} {H : Hp} {s : Shared} {E : Value → Shared → Prop}
theorem Inv.wish (I : Inv X pins σ H s) (E : Value → Shared → Prop) : Inv (X.wish E) pins σ H s := ⟨I.ok.wish E, I.os, I.bare, I.base, I.loc, I.cell, I.free, I.freeC, I.pin, I.hok, I.len⟩
theorem Inv.unwish (I : Inv (X.wish E) pins σ H s) : Inv X pins σ H s := ⟨I.ok.unwish, I.os, I.bare, I.base, I.loc, I.cell, I.free, I.freeC, I.pin, I.hok, I.len⟩
theorem SP.unwish {D : Ends} {f : Flow} {s' : Shared} (h : SP (X.wish E) pins D f s') : SP X pins D f s' := by
  cases f with
  | next => obtain ⟨σ', H', I, q⟩ := h; exact ⟨σ', H', I.unwish, q⟩
  | brk => obtain ⟨σ', H', I, q⟩ := h; exact ⟨σ', H', I.unwish, q⟩
  | cont => obtain ⟨σ', H', I, q⟩ := h; exact ⟨σ', H', I.unwish, q⟩
  | ret u => obtain ⟨v, σ', H', I, r, q⟩ := h; exact ⟨v, σ', H', I.unwish, r, q⟩
theorem PE.nox {e : Expr} {t : TE} (h : PE X.nox e t) : PE X e t := fun pins s σ H Q I hw =>
  wpAny_mono (h pins s σ H Q (I.wish _) hw) (fun _ _ ⟨v, H', I', r, q⟩ => ⟨v, H', I'.unwish, r, q⟩) fun _ _ z => False.elim z
theorem PT.nox {e : Expr} {t : TT} (h : PT X.nox e t) : PT X e t := fun pins s σ H Q I hw =>
  wpAny_mono (h pins s σ H Q (I.wish _) hw) (fun _ _ ⟨H', I', q⟩ => ⟨H', I'.unwish, q⟩) fun _ _ z => False.elim z
theorem PSs.nox {st : List Stmt} {t : TS} (h : PSs X.nox st t) : PSs X st t := fun pins s σ H D I hw =>
  wpAny_mono (h pins s σ H D (I.wish _) hw) (fun _ _ q => q.unwish) fun _ _ z => False.elim z
end
section
variable {X : Cx} {st : Stmt} {rest : List Stmt} {t u : TS} {e : Expr} {te : TE} {pos : Pos}
def tNext : TS := fun D σ H => D.nx σ H
def tSeq (t u : TS) : TS := fun D σ H => t { D with nx := u D } σ H
theorem pss_nil : PSs X [] tNext := fun _ _ σ H _ I h => wpAny_execs_nil ⟨σ, H, I, h⟩
theorem pss_cons (h1 : PS X st t) (h2 : PSs X rest u) : PSs X (st :: rest) (tSeq t u) := by
  intro pins s σ H D I h
  refine wpAny_execs_cons (thn (h1 pins s σ H { D with nx := u D } I h) fun f s1 q => ?_)
  cases f with
  | next =>
    obtain ⟨σ', H', I', q⟩ := q
    exact h2 pins s1 σ' H' D I' q
  | ret v => exact q
  | brk => exact q
  | cont => exact q
theorem pss_one (h1 : PS X st t) : PSs X [st] t := by
  intro pins s σ H D I h
  refine wpAny_execs_cons (thn (h1 pins s σ H D I h) fun f s1 q => ?_)
  cases f with
  | next => exact wpAny_execs_nil q
  | ret v => exact q
  | brk => exact q
  | cont => exact q
theorem Inv.quiet {pins : List (Addr × Obj)} {σ : St} {H : Hp} {s : Shared} (I : Inv X pins σ H s) : interactive X.env = false := by simp [interactive, I.ok.kind]
def tDrop (te : TE) : TS := fun D σ H => te σ H fun _ H1 => D.nx σ H1
theorem ps_expr (he : PE X e te) (hs : swapsWith e none pos.line X.env = pure false := by rfl) : PS X (.Expr e pos) (tDrop te) := by
  intro pins s σ H D I h
  exact wpAny_Expr_any (thn (he pins s σ H _ I h) fun v s1 ⟨x, H1, I1, r1, q1⟩ => ⟨σ, H1, I1, q1⟩) I.quiet hs
def tRet (te : TE) : TS := fun D σ H => te σ H D.rt
theorem ps_ret (he : PE X e te) : PS X (.Return (some e) pos) (tRet te) := by
  intro pins s σ H D I h
  exact wpAny_Return_some (thn (he pins s σ H _ I h) fun v s1 ⟨x, H1, I1, r1, q1⟩ => ⟨x, σ, H1, I1, r1, q1⟩)
def tIfS (c : TT) (t u : TS) : TS := fun D σ H => c σ H fun b H1 => if b = true then t D σ H1 else u D σ H1
theorem ps_if {c : Expr} {a b : List Stmt} {tc : TT} (hc : PT X c tc) (ha : PSs X a t) (hb : PSs X b u) : PS X (.If c a b pos) (tIfS tc t u) := by
  intro pins s σ H D I h
  refine wpAny_If (thn (hc pins s σ H _ I h) fun d s1 ⟨H1, I1, q1⟩ => ?_)
  cases d with
  | true => exact ha pins s1 σ H1 D I1 q1
  | false => exact hb pins s1 σ H1 D I1 q1
end
abbrev TG := V → St → Hp → (St → Hp → Prop) → Prop
abbrev TGs := List V → St → Hp → (St → Hp → Prop) → Prop
def PG (X : Cx) (target : Expr) (t : TG) : Prop :=
  ∀ (pins : List (Addr × Obj)) (s : Shared) (σ : St) (H : Hp) (v : V) (u : Value) (Q : St → Hp → Prop), Inv X pins σ H s → RelV v u → t v σ H Q →
    wpAny (model X.prog X.w) X.A (assign target X.env u) (fun _ s' => ∃ σ' H', Inv X pins σ' H' s' ∧ Q σ' H') X.xe s
def PGs (X : Cx) (ts : List Expr) (t : TGs) : Prop :=
  ∀ (pins : List (Addr × Obj)) (s : Shared) (σ : St) (H : Hp) (vs : List V) (us : List Value) (Q : St → Hp → Prop), Inv X pins σ H s → Vals vs us → t vs σ H Q →
    wpAny (model X.prog X.w) X.A (assignInOrder ((assignEach ts X.env).map (·.2)) us) (fun _ s' => ∃ σ' H', Inv X pins σ' H' s' ∧ Q σ' H') X.xe s
abbrev TSet := V → V → V → Hp → (Hp → Prop) → Prop
def PSet (X : Cx) (t : TSet) : Prop :=
  ∀ (pins : List (Addr × Obj)) (s : Shared) (σ : St) (H : Hp) (o i v : V) (ov iv u : Value) (Q : Hp → Prop), Inv X pins σ H s → RelV o ov → RelV i iv → RelV v u → t o i v H Q →
    wpAny (model X.prog X.w) X.A (setItem ov iv u) (fun _ s' => ∃ H', Inv X pins σ H' s' ∧ Q H') X.xe s
section
variable {X : Cx} {pos : Pos}
def gName (i : Nat) : TG := fun v σ H Q => Q (σ.set i (some v)) H
theorem pg_name {i : Nat} {x : Str} (hN : X.N.Nodup) (hi : X.N[i]? = some x) (hx : Loc X.env.scope x) (hf : X.fn x = true ∨ X.env.scope.names.lookup x = some .local := by first | exact .inl rfl | exact .inr rfl | assumption) : PG X (.Name x pos) (gName i) := by
  intro pins s σ H v u Q I r h
  exact wpAny_assign_Name (store_ok I hN hi hx r (fun s' I' => ⟨_, H, I', h⟩) hf)
def gNil : TGs := fun vs σ H Q => vs = [] ∧ Q σ H
def gCons (t : TG) (u : TGs) : TGs := fun vs σ H Q => ∃ v r, vs = v :: r ∧ t v σ H fun σ' H' => u r σ' H' Q
theorem pgs_nil : PGs X [] gNil := by
  intro pins s σ H vs us Q I r h
  obtain ⟨e, h⟩ := h
  subst e
  cases r
  exact assignInOrder_nil ⟨σ, H, I, h⟩
theorem pgs_cons {e : Expr} {es : List Expr} {t : TG} {u : TGs} (h1 : PG X e t) (h2 : PGs X es u)
    (hs : (assignEach (e :: es) X.env).map (·.2) = assign e X.env :: (assignEach es X.env).map (·.2) := by rfl) : PGs X (e :: es) (gCons t u) := by
  intro pins s σ H vs us Q I r h
  obtain ⟨v, vr, e1, h⟩ := h
  subst e1
  cases r with
  | cons r rr =>
    rw [hs]
    refine assignInOrder_cons (thn (h1 pins s σ H _ _ _ I r h) fun _ s1 ⟨σ1, H1, I1, q1⟩ => ?_)
    exact h2 pins s1 σ1 H1 _ _ Q I1 rr q1
def gTup (K : PySem.W.Frag) (n : Nat) (t : TGs) : TG := fun v σ H Q => ∃ a xs, v = .ref a ∧ SqT K H a xs ∧ xs.length = n ∧ t xs σ H Q
theorem pg_tup {es : List Expr} {k : Nat} {t : TGs} {n : Nat} (hc : X.calm = true) (h : PGs X es t)
    (hn : (assignEach es X.env).length = n := by rfl) (hst : (assignEach es X.env).findIdx? (·.1) = none := by rfl) : PG X (.Tuple es k pos) (gTup X.K n t) := by
  intro pins s σ H v u Q I r hw
  obtain ⟨a, xs, e1, hq, hl, hw⟩ := hw
  subst e1
  cases r
  obtain ⟨its, rv, ht, hz⟩ := I.tuple hq
  refine assign_Tuple_tuple (I.ok.hd hc) ht (by simp [hn, ← hl, rv.length]) hst fun h' hx => ?_
  have I1 : Inv X pins σ H { s with heap := h' } := I.kept (t' := s.toks) fun b o e => hx b o (Nat.ne_of_lt (Heap.lt_size e)) e
  exact h pins _ σ H xs _ Q I1 (by simpa using rv) hw
def gSub (to ti : TE) (t : TSet) : TG := fun v σ H Q => to σ H fun o H1 => ti σ H1 fun i H2 => t o i v H2 fun H3 => Q σ H3
theorem pg_sub {o i : Expr} {to ti : TE} {t : TSet} (ho : PE X o to) (hi : PE X i ti) (hs : PSet X t)
    (ha : ∀ v, assign (.Subscript o i pos) X.env v = (do
      let ov ← holding [v] (eval o X.env)
      let iv ← holding [v, ov] (eval i X.env)
      standAt pos
      holding [v, ov, iv] (setItem ov iv v)
      release [v, ov, iv] []) := by intro _; rfl) : PG X (.Subscript o i pos) (gSub to ti t) := by
  intro pins s σ H v u Q I r h
  rw [ha]
  refine wpAny_bind (wpAny_holding (thn (ho pins s σ H _ I h) fun ov s1 ⟨x, H1, I1, r1, q1⟩ => ?_))
  refine wpAny_bind (wpAny_holding (thn (hi pins s1 σ H1 _ I1 q1) fun iv s2 ⟨y, H2, I2, r2, q2⟩ => ?_))
  refine wpAny_bind (wpAny_standAt (wpAny_bind (wpAny_holding (thn (hs pins s2 σ H2 x y v ov iv u _ I2 r1 r2 r q2) fun _ s3 ⟨H3, I3, q3⟩ => ?_))))
  exact wpAny_release ⟨σ, H3, I3, q3⟩
def tAsg (te : TE) (g : TG) : TS := fun D σ H => te σ H fun x H1 => g x σ H1 D.nx
theorem ps_asg {tg e : Expr} {te : TE} {g : TG} (he : PE X e te) (hg : PG X tg g) (hs : swapsWithSole [tg] e pos.line X.env = pure false := by rfl) (hw : swappedStores [tg] e X.env = pure none := by rfl)
    (h1 : (assignEach [tg] X.env).map (·.2) = [assign tg X.env] := by rfl) : PS X (.Assign [tg] e pos) (tAsg te g) := by
  intro pins s σ H D I h
  refine wpAny_Assign_stores (thn (he pins s σ H _ I h) fun v s1 ⟨x, H1, I1, r1, q1⟩ => ?_) hs hw
  rw [h1]
  exact thn (hg pins s1 σ H1 x v _ I1 r1 q1) fun _ s2 q => q
theorem ps_set {i : Nat} {x : Str} {e : Expr} {te : TE} {pos' : Pos} (hN : X.N.Nodup) (hi : X.N[i]? = some x) (hx : Loc X.env.scope x) (he : PE X e te) (hs : swapsWith e (some (.Name x pos')) pos.line X.env = pure false := by rfl) (hf : X.fn x = true ∨ X.env.scope.names.lookup x = some .local := by first | exact .inl rfl | exact .inr rfl | assumption) :
    PS X (.Assign [.Name x pos'] e pos) (tAsg te (gName i)) := by
  intro pins s σ H D I h
  refine wpAny_Assign_Name (thn (he pins s σ H _ I h) fun v s1 ⟨y, H1, I1, r1, q1⟩ => ?_) hs
  exact store_ok I1 hN hi hx r1 (fun s2 I2 => ⟨_, H1, I2, q1⟩) hf
end
section
variable {X : Cx} {pos : Pos}
def tWhile (c : TT) (tb : TS) : TS := fun D σ H => ∃ W : Nat → St → Hp → Prop, (∃ m, W m σ H) ∧ ∀ m σ H, W m σ H →
  c σ H fun b H1 => if b = true then ∃ N : St → Hp → Prop, (∀ σ' H', N σ' H' → ∃ m', m' < m ∧ W m' σ' H') ∧ tb { D with nx := N, ct := N, bk := D.nx } σ H1 else D.nx σ H1
theorem ps_while {c : Expr} {body : List Stmt} {tc : TT} {tb : TS} (hp : PassesOwn (model X.prog X.w) X.A X.env X.xe) (hc : PT X c tc) (hb : PSs X body tb) : PS X (.While c body [] pos) (tWhile tc tb) := by
  intro pins s σ H D I h
  obtain ⟨W, ⟨m0, w0⟩, turn⟩ := h
  refine wpAny_While (codeAny_whileLoop (fun n s' => ∃ σ' H', Inv X pins σ' H' s' ∧ W n σ' H') ?_ m0 ⟨σ, H, I, w0⟩)
  rintro n s1 ⟨σ1, H1, I1, w1⟩
  refine wpAny_passesOwn hp (thn (hc pins s1 σ1 H1 _ I1 (turn n σ1 H1 w1)) fun b s2 ⟨H2, I2, q2⟩ => ?_)
  cases b with
  | true =>
    obtain ⟨N, hN, q2⟩ := q2
    rw [if_pos rfl]
    refine wpAny_passesOwn hp (thn (hb pins s2 σ1 H2 _ I2 q2) fun f s3 q3 => ?_)
    cases f with
    | next =>
      obtain ⟨σ3, H3, I3, n3⟩ := q3
      obtain ⟨m', hm, w3⟩ := hN σ3 H3 n3
      exact ⟨m', hm, σ3, H3, I3, w3⟩
    | cont =>
      obtain ⟨σ3, H3, I3, n3⟩ := q3
      obtain ⟨m', hm, w3⟩ := hN σ3 H3 n3
      exact ⟨m', hm, σ3, H3, I3, w3⟩
    | brk => exact q3
    | ret v => exact q3
  | false =>
    rw [if_neg Bool.false_ne_true]
    exact wpAny_execs_nil ⟨σ1, H2, I2, q2⟩
end
structure It where
  go : Nat → Hp → Prop
  yld : Nat → Hp → V → Hp → Prop
  stop : Nat → Hp → Prop
def FpOk (X : Cx) (pins : List (Addr × Obj)) (H : Hp) (b : Addr) : Prop :=
  H b = none ∧ b ≠ X.env.locals ∧ b ∉ X.fs ∧ (b ∈ X.ex ∨ X.s₀.heap.get? b = none) ∧ (∀ x c, X.env.cells.lookup x = some c → c ≠ b) ∧ ∀ p ∈ X.pn ++ pins, p.1 ≠ b
theorem Inv.fpOk {X : Cx} {pins : List (Addr × Obj)} {σ : St} {H H' : Hp} {s : Shared} {b : Addr} (I : Inv X pins σ H s) (hb : s.heap.objs.size ≤ b) (hn : H' b = none) : FpOk X pins H' b := by
  refine ⟨hn, Nat.ne_of_gt (Nat.lt_of_lt_of_le I.lt hb), I.nofs hb, .inr (Heap.get?_none_of_le (Nat.le_trans I.sz hb)), fun x c e z => ?_, fun p hp z => ?_⟩
  · obtain ⟨v, q⟩ := I.cell x c e
    exact absurd (Nat.lt_of_lt_of_le q.lt (by rw [z]; exact hb)) (Nat.lt_irrefl _)
  · exact absurd (Nat.lt_of_lt_of_le (Heap.lt_size (I.pin p hp).1) (by rw [z]; exact hb)) (Nat.lt_irrefl _)
structure Turn (P : Program) (w : World) (K : PySem.W.Frag) (tg : Expr) (J : It) (fp : List Addr) (it : Addr) (tn : Nat → Heap → Prop) : Prop where
  mem : it ∈ fp
  obj : ∀ i h, tn i h → ∀ b ∈ fp, ∃ o, h.get? b = some o ∧ ∀ v, o.data ≠ .cell v
  keep : ∀ i h h', tn i h → (∀ b ∈ fp, ∀ o, h.get? b = some o → h'.get? b = some o) → tn i h'
  item : ∀ (X : Cx), X.prog = P → X.w = w → X.K = K → X.calm = true → ∀ (i : Nat) (pins : List (Addr × Obj)) (s : Shared) (σ : St) (H : Hp) (E : Value → Shared → Prop), Inv X pins σ H s → (∀ b ∈ fp, FpOk X pins H b) → tn i s.heap → J.go i H →
    wpAny (model P w) X.A (pyNext (.ref it)) (fun r s1 => ∃ u, r = some u ∧
      wpAny (model P w) X.A (letOwnedTupleGo tg (.ref it) u) (fun _ s2 => ∃ x H', Inv X pins σ H' s2 ∧ RelV x u ∧ J.yld i H x H' ∧ tn (i + 1) s2.heap ∧ ∀ b ∈ fp, H' b = none) E s1) E s
  done : ∀ (X : Cx), X.prog = P → X.w = w → X.K = K → X.calm = true → ∀ (i : Nat) (pins : List (Addr × Obj)) (s : Shared) (σ : St) (H : Hp) (E : Value → Shared → Prop), Inv X pins σ H s → (∀ b ∈ fp, FpOk X pins H b) → tn i s.heap → J.stop i H →
    wpAny (model P w) X.A (pyNext (.ref it)) (fun r s1 => r = none ∧ Inv X pins σ H s1) E s
  self : ∀ (A : Around) (i : Nat) (s : Shared) (Q : Value → Shared → Prop) (E : Value → Shared → Prop), tn i s.heap → Q (.ref it) s → wpAny (model P w) A (pyIter (.ref it)) Q E s
abbrev TI := St → Hp → (It → Hp → Prop) → Prop
def PIE (X : Cx) (pins : List (Addr × Obj)) (σ : St) (tg : Expr) (R : It → Hp → Prop) (itv : Value) (s2 : Shared) : Prop :=
  ∃ (it : Addr) (fp : List Addr) (tn : Nat → Heap → Prop) (J : It) (H' : Hp), itv = .ref it ∧ Inv X pins σ H' s2 ∧ Turn X.prog X.w X.K tg J fp it tn ∧ tn 0 s2.heap ∧ (∀ b ∈ fp, FpOk X pins H' b) ∧ R J H'
def PI (X : Cx) (tg iter : Expr) (wi : TI) : Prop :=
  ∀ (pins : List (Addr × Obj)) (s : Shared) (σ : St) (H : Hp) (R : It → Hp → Prop), Inv X pins σ H s → wi σ H R →
    wpAny (model X.prog X.w) X.A (eval iter X.env) (fun v s1 => wpAny (model X.prog X.w) X.A (pyIter v) (PIE X pins σ tg R) X.xe s1) X.xe s
theorem go_of {M : Model} {A : Around} {E : Value → Shared → Prop} {s : Shared} {tg : Expr} {it : Addr} {u : Value} {o : Obj} {n : String} {vs : Array Value} {Q : Unit → Shared → Prop} (ho : s.heap.get? it = some o) (hc : o.cls = .type n) (hd : o.data = .fields vs)
    (hn : ["enumerate", "zip", "dict_itemiterator", "dict_reverseitemiterator", "odict_iterator", "itertools.zip_longest", "itertools.pairwise"].contains n = false) (hQ : Q () s) : wpAny M A (letOwnedTupleGo tg (.ref it) u) Q E s := by
  unfold letOwnedTupleGo
  cases tg <;> first
    | exact wpAny_pure hQ
    | (cases u <;> first
        | exact wpAny_pure hQ
        | (refine wpAny_bind (wpAny_load ho ?_)
           rw [hc, hd]
           show wpAny M A (if (["enumerate", "zip", "dict_itemiterator", "dict_reverseitemiterator", "odict_iterator", "itertools.zip_longest", "itertools.pairwise"].contains n && vs[0]? == some (rawInt _)) = true then _ else _) Q E s
           rw [if_neg (by intro h; rw [hn, Bool.false_and] at h; cases h)]
           exact wpAny_pure hQ))
def Itl (K : PySem.W.Frag) (a : Addr) : It :=
  ⟨fun i H => ∃ xs x, SqL K H a xs ∧ xs[i]? = some x, fun i H x H' => H' = H ∧ ∀ xs, SqL K H a xs → xs[i]? = some x, fun i H => ∃ xs, SqL K H a xs ∧ xs.length ≤ i⟩
def Itr (lo : Int) (n : Nat) : It := ⟨fun i _ => i < n, fun i H x H' => H' = H ∧ x = .int (lo + i), fun i _ => n ≤ i⟩
theorem turn_list {P : Program} {w : World} {K : PySem.W.Frag} {tg : Expr} (a it : Addr) : Turn P w K tg (Itl K a) [it] it (fun i h => h.IsListIter it a i) where
  mem := by simp
  obj := fun i h st b hb => by
    have e : b = it := by simpa using hb
    subst e
    obtain ⟨o, e, c, d⟩ := st
    exact ⟨o, e, fun v z => by rw [d] at z; cases z⟩
  keep := fun i h h' st k => st.at fun o e => k it (by simp) o e
  item := by
    intro X hP hw hK hc i pins s σ H E I hf st hg
    subst hP hw hK
    obtain ⟨xs, x, hq, hx⟩ := hg
    obtain ⟨its, rv, p, hz⟩ := I.list hq
    obtain ⟨u, hu, ru⟩ := rv.get hx
    obtain ⟨f0, f1, f2, f3, f4, f5⟩ := hf it (by simp)
    refine wpAny_pyNext_list_item st p.isList (x := u) (by simpa using hu) fun h' st' sb => ?_
    have I1 : Inv X pins σ H { s with heap := h' } := I.turned (t' := s.toks) (fun b o hb e => (sb.2 b hb).trans e) f0 f1 f3 f4 f5
    obtain ⟨o, e, c, d⟩ := id st'
    exact ⟨u, rfl, go_of (s := { s with heap := h' }) e c d (by decide) ⟨x, H, I1, ru, ⟨rfl, fun ys hy => by rw [I.list_inj hy hq]; exact hx⟩, st', fun b hb => (hf b hb).1⟩⟩
  done := by
    intro X hP hw hK hc i pins s σ H E I hf st hg
    subst hP hw hK
    obtain ⟨xs, hq, hx⟩ := hg
    obtain ⟨its, rv, p, hz⟩ := I.list hq
    obtain ⟨f0, f1, f2, f3, f4, f5⟩ := hf it (by simp)
    have hl := rv.length
    exact wpAny_pyNext_list_end (I.ok.hd hc) st p.isList (by simp; omega) fun h' eb => ⟨rfl, I.turned (t' := s.toks) (fun b o hb e => eb b o hb e) f0 f1 f3 f4 f5⟩
  self := fun _ _ _ _ _ st h => wpAny_pyIter_listiter st h
theorem turn_range {P : Program} {w : World} {K : PySem.W.Frag} {tg : Expr} (it : Addr) (lo : Int) (n : Nat) : Turn P w K tg (Itr lo n) [it] it (fun i h => IsRangeIter h it (lo + (i : Nat) * 1) ((n : Int) - (i : Nat)) 1) where
  mem := by simp
  obj := fun i h st b hb => by
    have e : b = it := by simpa using hb
    subst e
    exact ⟨_, st, fun v z => by
      have z' : Data.fields _ = Data.cell v := z
      cases z'⟩
  keep := fun i h h' st k => k it (by simp) _ st
  item := by
    intro X hP hw hK hc i pins s σ H E I hf st hg
    subst hP hw hK
    obtain ⟨f0, f1, f2, f3, f4, f5⟩ := hf it (by simp)
    have W := Walks.range (prog := X.prog) (w := X.w) (I.ok.hd hc) it lo 1 n
    refine W.item i s _ _ hg st fun v h' tk hv st' kk => ?_
    obtain ⟨t, rfl⟩ := hv
    have I1 : Inv X pins σ H { s with heap := h', toks := tk } := I.turned (fun b o hb e => kk b o (by simpa using hb) e) f0 f1 f3 f4 f5
    refine ⟨_, rfl, go_of (s := { s with heap := h', toks := tk }) (n := "range_iterator") st' rfl rfl (by decide) ⟨.int (lo + i), H, I1, ⟨t, ?_⟩, ⟨rfl, rfl⟩, st', fun b hb => (hf b hb).1⟩⟩
    rw [Int.mul_one]
  done := by
    intro X hP hw hK hc i pins s σ H E I hf st hg
    subst hP hw hK
    obtain ⟨f0, f1, f2, f3, f4, f5⟩ := hf it (by simp)
    exact wpAny_pyNext_range_end (I.ok.hd hc) st (by have : n ≤ i := hg; omega) fun h' eb => ⟨rfl, I.turned (t' := s.toks) (fun b o hb e => eb b o hb e) f0 f1 f3 f4 f5⟩
  self := fun _ _ _ _ _ st h => wpAny_pyIter_rangeiter st h
end L2
namespace L2
open PySem PySem.Spec PyProof.Rows
section
variable {X : Cx} {tg : Expr}
def iList (K : PySem.W.Frag) (tl : TE) : TI := fun σ H R => tl σ H fun x H1 => ∃ a, x = .ref a ∧ (∃ xs, SqL K H1 a xs) ∧ R (Itl K a) H1
theorem pi_list {l : Expr} {tl : TE} (hl : PE X l tl) : PI X tg l (iList X.K tl) := by
  intro pins s σ H R I h
  refine thn (hl pins s σ H _ I h) fun v s1 ⟨x, H1, I1, r1, q1⟩ => ?_
  obtain ⟨a, e, ⟨xs, hq⟩, q⟩ := q1
  subst e
  cases r1
  obtain ⟨its, rv, p, hz⟩ := I1.list hq
  refine wpAny_pyIter_list p.isList ?_
  refine ⟨s1.heap.objs.size, [s1.heap.objs.size], _, _, H1, rfl, I1.kept (t' := s1.toks) fun b o e => Heap.get?_push_of_some _ e, turn_list a _, ⟨_, Heap.get?_push_size _ rfl, rfl, rfl⟩, fun b hb => ?_, q⟩
  have e : b = s1.heap.objs.size := by simpa using hb
  subst e
  exact I1.fpOk (Nat.le_refl _) (I1.hok.fresh (Nat.le_refl _))
theorem range_it {pins : List (Addr × Obj)} {σ : St} {H : Hp} {s : Shared} {R : It → Hp → Prop} {E : Value → Shared → Prop} {lo hi : Int} {t u v : Tok} {tk : Nat} (I : Inv X pins σ H s) (h1 : -(2 ^ 62) ≤ lo) (h2 : lo < 2 ^ 62) (h3 : -(2 ^ 62) ≤ hi) (h4 : hi < 2 ^ 62)
    (q : R (Itr lo (hi - lo).toNat) H) : wpAny (model X.prog X.w) X.A (pyIter (.ref s.heap.objs.size)) (PIE X pins σ tg R) E { s with heap := s.heap.push { cls := .type "range", data := .fields #[.int lo t, .int hi u, .int 1 v] }, toks := tk } := by
  refine wpAny_pyIter_range (IsRange.new ..) (small_one h1 h2 h3 h4) ?_
  have I1 : Inv X pins σ H { s with heap := s.heap.push { cls := .type "range", data := .fields #[.int lo t, .int hi u, .int 1 v] }, toks := tk } := I.kept fun b o e => Heap.get?_push_of_some _ e
  refine ⟨(s.heap.push { cls := .type "range", data := .fields #[.int lo t, .int hi u, .int 1 v] }).objs.size, [(s.heap.push { cls := .type "range", data := .fields #[.int lo t, .int hi u, .int 1 v] }).objs.size], _, _, H, rfl,
    I1.kept (t' := tk) fun b o e => Heap.get?_push_of_some _ e, turn_range _ lo (hi - lo).toNat, ?_, fun b hb => ?_, q⟩
  · have e1 : lo + ((0 : Nat) : Int) * 1 = lo := by simp
    have e2 : (((hi - lo).toNat : Nat) : Int) - ((0 : Nat) : Int) = Builtin.Range.rangeSize lo hi 1 := by rw [rangeSize_one]; split <;> omega
    show IsRangeIter _ _ (lo + ((0 : Nat) : Int) * 1) ((((hi - lo).toNat : Nat) : Int) - ((0 : Nat) : Int)) 1
    rw [e1, e2]
    exact Heap.get?_push_size _ rfl
  · have e : b = (s.heap.push { cls := .type "range", data := .fields #[.int lo t, .int hi u, .int 1 v] }).objs.size := by simpa using hb
    subst e
    exact I1.fpOk (Nat.le_refl _) (I1.hok.fresh (Nat.le_refl _))
def iRng1 (ta : TA) : TI := fun σ H R => ta σ H fun vs H1 => ∃ j : Int, vs = [.int j] ∧ -(2 ^ 62) ≤ j ∧ j < 2 ^ 62 ∧ R (Itr 0 j.toNat) H1
theorem pi_range1 {a : Expr} {ta : TA} {p pos : Pos} (hg : Gl X "range") (hm : X.mg "range" = none) (ha : PA X [a] ta) (hs : starEach [a] X.env = [(false, eval a X.env)] := by rfl) : PI X tg (.Call (.Name "range" p) [a] [] pos) (iRng1 ta) := by
  intro pins s σ H R I h
  refine Call_ (ld_blt I hg hm boot_range (PyProof.Rows.callWith_type1 (thn (ha pos pins s σ H _ I h) fun us s1 ⟨vs, H1, I1, r1, q1⟩ => ?_) hs rfl))
  obtain ⟨j, e, q1, q2, q⟩ := q1
  subst e
  cases r1 with
  | cons r rr =>
    cases rr
    obtain ⟨t, rfl⟩ := r
    exact call_range_1 (range_it I1 (by omega) (by omega) q1 q2 (by simpa using q))
def tFor (wi : TI) (g : TG) (tb : TS) : TS := fun D σ H => wi σ H fun J H1 => ∃ W : Nat → Nat → St → Hp → Prop, (∃ m, W 0 m σ H1) ∧ ∀ i m σ H, W i m σ H →
  (J.stop i H ∧ D.nx σ H) ∨ (J.go i H ∧ ∃ N : St → Hp → Prop, (∀ σ' H', N σ' H' → ∃ m', m' < m ∧ W (i + 1) m' σ' H') ∧ ∀ x H', J.yld i H x H' → g x σ H' fun σ2 H2 => tb { D with nx := N, ct := N, bk := D.nx } σ2 H2)
def pinsAt (fp : List Addr) (h : Heap) : List (Addr × Obj) := fp.filterMap fun b => (h.get? b).map fun o => (b, o)
theorem mem_pinsAt {fp : List Addr} {h : Heap} {b : Addr} {o : Obj} (hb : b ∈ fp) (e : h.get? b = some o) : (b, o) ∈ pinsAt fp h := List.mem_filterMap.mpr ⟨b, hb, by rw [e]; rfl⟩
theorem of_pinsAt {fp : List Addr} {h : Heap} {p : Addr × Obj} (hp : p ∈ pinsAt fp h) : p.1 ∈ fp ∧ h.get? p.1 = some p.2 := by
  obtain ⟨b, hb, e⟩ := List.mem_filterMap.mp hp
  cases q : h.get? b with
  | none => rw [q] at e; cases e
  | some o =>
    rw [q] at e
    have e' : (b, o) = p := Option.some.inj e
    subst e'
    exact ⟨hb, q⟩
theorem Inv.pinned {pins : List (Addr × Obj)} {σ : St} {H : Hp} {s : Shared} {fp : List Addr} (I : Inv X pins σ H s) (hf : ∀ b ∈ fp, FpOk X pins H b) (ho : ∀ b ∈ fp, ∃ o, s.heap.get? b = some o ∧ ∀ v, o.data ≠ .cell v) : Inv X (pins ++ pinsAt fp s.heap) σ H s :=
  I.pins_of fun p hp => (List.mem_append.mp hp).elim (fun z => I.pin p (List.mem_append_right _ z)) fun z => by
    obtain ⟨hb, e⟩ := of_pinsAt z
    obtain ⟨f0, f1, f2, _⟩ := hf p.1 hb
    obtain ⟨o, e', d⟩ := ho p.1 hb
    rw [e] at e'; cases e'
    exact ⟨e, f0, f1, f2, d⟩
theorem Inv.unpinned {pins pl : List (Addr × Obj)} {σ : St} {H : Hp} {s : Shared} (I : Inv X (pins ++ pl) σ H s) : Inv X pins σ H s := I.pins_of fun p hp => I.pin p (List.mem_append_right _ (List.mem_append_left _ hp))
theorem ps_for {iter : Expr} {body : List Stmt} {wi : TI} {g : TG} {tb : TS} {pos : Pos} (hp : PassesOwn (model X.prog X.w) X.A X.env X.xe) (hc : X.calm = true) (hi : PI X tg iter wi) (hg : PG X tg g) (hb : PSs X body tb)
    (hs : ∀ x, foldedSetIterable iter X.env x = pure x := by intro _; rfl) : PS X (.For tg iter body [] pos) (tFor wi g tb) := by
  intro pins s σ H D I h
  refine wpAny_For (thn (hi pins s σ H _ I h) fun v s1 h1 => thn h1 fun itv s2 h2 => ?_) hs
  obtain ⟨it, fp, tn, J, H2, e, I2, T, st2, f2, W, ⟨m0, w0⟩, turn⟩ := h2
  subst e
  -- what stays true of the iterator's objects through the loop
  have stat : ∀ {H' : Hp}, (∀ b ∈ fp, H' b = none) → ∀ b ∈ fp, FpOk X pins H' b := fun hn b hb => ⟨hn b hb, (f2 b hb).2⟩
  refine codeAny_forLoop_any (fun n s' => ∃ i σ' H', Inv X pins σ' H' s' ∧ tn i s'.heap ∧ (∀ b ∈ fp, H' b = none) ∧ W i n σ' H') ?_ m0 ⟨0, σ, H2, I2, st2, fun b hb => (f2 b hb).1, w0⟩
  rintro n s3 ⟨i, σ3, H3, I3, st3, fr3, w3⟩
  rcases turn i n σ3 H3 w3 with ⟨stop, qn⟩ | ⟨go, N, hN, step⟩
  · refine wpAny_passesOwn hp (thn (T.done X rfl rfl rfl hc i pins s3 σ3 H3 X.xe I3 (stat fr3) st3 stop) fun r s4 ⟨hr, I4⟩ => ?_)
    subst hr
    exact wpAny_execs_nil ⟨σ3, H3, I4, qn⟩
  · refine wpAny_passesOwn hp (thn (T.item X rfl rfl rfl hc i pins s3 σ3 H3 X.xe I3 (stat fr3) st3 go) fun r s4 ⟨u, hr, h4⟩ => ?_)
    subst hr
    refine wpAny_passesOwn hp (thn h4 fun _ s5 ⟨x, H5, I5, r5, y5, st5, fr5⟩ => ?_)
    have I5' := I5.pinned (stat fr5) (T.obj _ _ st5)
    refine wpAny_passesOwn hp (thn (hg _ s5 σ3 H5 x u _ I5' r5 (step x H5 y5)) fun _ s6 ⟨σ6, H6, I6, q6⟩ => ?_)
    refine wpAny_passesOwn hp (thn (hb _ s6 σ6 H6 _ I6 q6) fun f s7 q7 => ?_)
    have again : ∀ {σ7 : St} {H7 : Hp}, Inv X (pins ++ pinsAt fp s5.heap) σ7 H7 s7 → N σ7 H7 → ∃ m, m < n ∧ ∃ i σ' H', Inv X pins σ' H' s7 ∧ tn i s7.heap ∧ (∀ b ∈ fp, H' b = none) ∧ W i m σ' H' := fun {σ7 H7} I7 n7 => by
      obtain ⟨m', hm, w7⟩ := hN σ7 H7 n7
      refine ⟨m', hm, i + 1, σ7, H7, I7.unpinned, T.keep _ _ _ st5 fun b hb o e => (I7.pin (b, o) (List.mem_append_right _ (List.mem_append_right _ (mem_pinsAt hb e)))).1, fun b hb => ?_, w7⟩
      obtain ⟨o, e, d⟩ := T.obj _ _ st5 b hb
      exact (I7.pin (b, o) (List.mem_append_right _ (List.mem_append_right _ (mem_pinsAt hb e)))).2.1
    cases f with
    | next => obtain ⟨σ7, H7, I7, n7⟩ := q7; exact again I7 n7
    | cont => obtain ⟨σ7, H7, I7, n7⟩ := q7; exact again I7 n7
    | brk => obtain ⟨σ7, H7, I7, q7⟩ := q7; exact ⟨σ7, H7, I7.unpinned, q7⟩
    | ret v => obtain ⟨x7, σ7, H7, I7, r7, q7⟩ := q7; exact ⟨x7, σ7, H7, I7.unpinned, r7, q7⟩
end
theorem for_list {K : PySem.W.Frag} {a : Addr} {xs : List V} {g : TG} {tb : TS} {D : Ends} {σ : St} {H : Hp} (Pv : Nat → St → Hp → Prop) (h0 : Pv 0 σ H) (hl : ∀ i σ H, i ≤ xs.length → Pv i σ H → SqL K H a xs)
    (hs : ∀ i x σ H, xs[i]? = some x → Pv i σ H → g x σ H fun σ2 H2 => tb { D with nx := Pv (i + 1), ct := Pv (i + 1), bk := D.nx } σ2 H2) (hd : ∀ σ H, Pv xs.length σ H → D.nx σ H) :
    ∃ W : Nat → Nat → St → Hp → Prop, (∃ m, W 0 m σ H) ∧ ∀ i m σ H, W i m σ H →
      ((Itl K a).stop i H ∧ D.nx σ H) ∨ ((Itl K a).go i H ∧ ∃ N : St → Hp → Prop, (∀ σ' H', N σ' H' → ∃ m', m' < m ∧ W (i + 1) m' σ' H') ∧ ∀ x H', (Itl K a).yld i H x H' → g x σ H' fun σ2 H2 => tb { D with nx := N, ct := N, bk := D.nx } σ2 H2) := by
  refine ⟨fun i m σ H => m = xs.length - i ∧ i ≤ xs.length ∧ Pv i σ H, ⟨xs.length, by simp, Nat.zero_le _, h0⟩, ?_⟩
  rintro i m σ H ⟨rfl, hi, p⟩
  have q := hl i σ H hi p
  by_cases hlt : i < xs.length
  · refine .inr ⟨⟨xs, xs[i], q, by simp [hlt]⟩, Pv (i + 1), fun σ' H' p' => ⟨xs.length - (i + 1), by omega, rfl, hlt, p'⟩, fun x H' y => ?_⟩
    obtain ⟨e, y⟩ := y
    subst e
    exact hs i x σ _ (y xs q) p
  · have e : i = xs.length := by omega
    subst e
    exact .inl ⟨⟨xs, q, Nat.le_refl _⟩, hd σ H p⟩
theorem for_range {lo : Int} {n : Nat} {g : TG} {tb : TS} {D : Ends} {σ : St} {H : Hp} (Pv : Nat → St → Hp → Prop) (h0 : Pv 0 σ H)
    (hs : ∀ i σ H, i < n → Pv i σ H → g (.int (lo + i)) σ H fun σ2 H2 => tb { D with nx := Pv (i + 1), ct := Pv (i + 1), bk := D.nx } σ2 H2) (hd : ∀ σ H, Pv n σ H → D.nx σ H) :
    ∃ W : Nat → Nat → St → Hp → Prop, (∃ m, W 0 m σ H) ∧ ∀ i m σ H, W i m σ H →
      ((Itr lo n).stop i H ∧ D.nx σ H) ∨ ((Itr lo n).go i H ∧ ∃ N : St → Hp → Prop, (∀ σ' H', N σ' H' → ∃ m', m' < m ∧ W (i + 1) m' σ' H') ∧ ∀ x H', (Itr lo n).yld i H x H' → g x σ H' fun σ2 H2 => tb { D with nx := N, ct := N, bk := D.nx } σ2 H2) := by
  refine ⟨fun i m σ H => m = n - i ∧ i ≤ n ∧ Pv i σ H, ⟨n, by simp, Nat.zero_le _, h0⟩, ?_⟩
  rintro i m σ H ⟨rfl, hi, p⟩
  by_cases hlt : i < n
  · refine .inr ⟨hlt, Pv (i + 1), fun σ' H' p' => ⟨n - (i + 1), by omega, rfl, hlt, p'⟩, fun x H' y => ?_⟩
    obtain ⟨e, y⟩ := y
    subst e y
    exact hs i σ _ hlt p
  · have e : i = n := by omega
    subst e
    exact .inl ⟨Nat.le_refl _, hd σ H p⟩
end L2
namespace L2
open PySem PySem.Spec PyProof.Rows
abbrev R2 := V → V → Hp → VK → Prop
def OpR (X : Cx) (f : Value → Value → Sem Value) (r : R2) : Prop :=
  ∀ (pins : List (Addr × Obj)) (s : Shared) (σ : St) (H : Hp) (x y : V) (v u : Value) (Q : VK), Inv X pins σ H s → RelV x v → RelV y u → r x y H Q →
    wpAny (model X.prog X.w) X.A (f v u) (EP X pins σ Q) X.xe s
def UnR (X : Cx) (f : Value → Sem Value) (r : V → Hp → VK → Prop) : Prop :=
  ∀ (pins : List (Addr × Obj)) (s : Shared) (σ : St) (H : Hp) (x : V) (v : Value) (Q : VK), Inv X pins σ H s → RelV x v → r x H Q →
    wpAny (model X.prog X.w) X.A (f v) (EP X pins σ Q) X.xe s
def CallR (X : Cx) (f : Value) (r : List V → Hp → VK → Prop) : Prop :=
  ∀ (pins : List (Addr × Obj)) (s : Shared) (σ : St) (H : Hp) (xs : List V) (us : List Value) (Q : VK), Inv X pins σ H s → Vals xs us → r xs H Q →
    wpAny (model X.prog X.w) X.A (call f us) (EP X pins σ Q) X.xe s
def tOp (r : R2) (ta tb : TE) : TE := fun σ H Q => ta σ H fun x H1 => tb σ H1 fun y H2 => r x y H2 Q
def tUn (r : V → Hp → VK → Prop) (ta : TE) : TE := fun σ H Q => ta σ H fun x H1 => r x H1 Q
def rI (C : Int → Int → Prop) (g : Int → Int → V) : R2 := fun x y H Q => ∃ i j, x = .int i ∧ y = .int j ∧ C i j ∧ Q (g i j) H
def rI0 (g : Int → Int → V) : R2 := fun x y H Q => ∃ i j, x = .int i ∧ y = .int j ∧ Q (g i j) H
def rU (g : Int → V) : V → Hp → VK → Prop := fun x H Q => ∃ i, x = .int i ∧ Q (g i) H
section
variable {X : Cx} {a b c : Expr} {ta tb tc : TE} {pos : Pos}
theorem binT (ha : PE X a ta) (hb : PE X b tb) {pins : List (Addr × Obj)} {s : Shared} {σ : St} {H : Hp} {R : V → V → Hp → Prop} (I : Inv X pins σ H s)
    (h : ta σ H fun x H1 => tb σ H1 fun y H2 => R x y H2) {Q : Value → Shared → Prop} {f : Value → Value → Sem Value}
    (hf : ∀ v u s2 x y H2, Inv X pins σ H2 s2 → RelV x v → RelV y u → R x y H2 → wpAny (model X.prog X.w) X.A (f v u) Q X.xe s2) :
    wpAny (model X.prog X.w) X.A (eval a X.env) (fun v s₁ => wpAny (model X.prog X.w) X.A (eval b X.env) (fun u s₂ => wpAny (model X.prog X.w) X.A (f v u) Q X.xe s₂) X.xe s₁) X.xe s := by
  refine thn (ha pins s σ H _ I h) fun v s1 ⟨x, H1, I1, r1, q1⟩ => ?_
  refine thn (hb pins s1 σ H1 _ I1 q1) fun u s2 ⟨y, H2, I2, r2, q2⟩ => ?_
  exact hf v u s2 x y H2 I2 r1 r2 q2
theorem pe_op {op : Operator} {r : R2} (ho : OpR X (binaryOp op) r) (ha : PE X a ta) (hb : PE X b tb) : PE X (.BinOp a op b pos) (tOp r ta tb) := by
  intro pins s σ H Q I h
  exact wpAny_BinOp (binT ha hb I h fun v u s2 x y H2 I2 rx ry q => ho pins s2 σ H2 x y v u Q I2 rx ry q)
theorem pe_un {op : UnaryOp} {r : V → Hp → VK → Prop} (ho : UnR X (unaryOp op) r) (ha : PE X a ta) : PE X (.UnaryOp op a pos) (tUn r ta) := by
  intro pins s σ H Q I h
  exact UnaryOp_ (thn (ha pins s σ H _ I h) fun v s1 ⟨x, H1, I1, r1, q1⟩ => ho pins s1 σ H1 x v Q I1 r1 q1)
theorem opI {f : Value → Value → Sem Value} {C : Int → Int → Prop} {g : Int → Int → Int}
    (rule : ∀ (i j : Int) (t u : Tok) (s : Shared) (Q : Value → Shared → Prop) (E : Value → Shared → Prop), C i j → Q (.int (g i j) s.toks) { s with toks := s.toks + 1 } → wpAny (model X.prog X.w) X.A (f (.int i t) (.int j u)) Q E s) :
    OpR X f (rI C fun i j => .int (g i j)) := by
  intro pins s σ H x y v u Q I rx ry h
  obtain ⟨i, j, rfl, rfl, hc, q⟩ := h
  obtain ⟨t, rfl⟩ := rx
  obtain ⟨t', rfl⟩ := ry
  exact rule i j t t' s _ _ hc ⟨.int (g i j), H, I.tok _, ⟨_, rfl⟩, q⟩
theorem opI0 {f : Value → Value → Sem Value} {g : Int → Int → Int}
    (rule : ∀ (i j : Int) (t u : Tok) (s : Shared) (Q : Value → Shared → Prop) (E : Value → Shared → Prop), Q (.int (g i j) s.toks) { s with toks := s.toks + 1 } → wpAny (model X.prog X.w) X.A (f (.int i t) (.int j u)) Q E s) :
    OpR X f (rI0 fun i j => .int (g i j)) := by
  intro pins s σ H x y v u Q I rx ry h
  obtain ⟨i, j, rfl, rfl, q⟩ := h
  obtain ⟨t, rfl⟩ := rx
  obtain ⟨t', rfl⟩ := ry
  exact rule i j t t' s _ _ ⟨.int (g i j), H, I.tok _, ⟨_, rfl⟩, q⟩
theorem opB0 {f : Value → Value → Sem Value} {g : Int → Int → Bool}
    (rule : ∀ (i j : Int) (t u : Tok) (s : Shared) (Q : Value → Shared → Prop) (E : Value → Shared → Prop), Q (.bool (g i j)) s → wpAny (model X.prog X.w) X.A (f (.int i t) (.int j u)) Q E s) :
    OpR X f (rI0 fun i j => .bl (g i j)) := by
  intro pins s σ H x y v u Q I rx ry h
  obtain ⟨i, j, rfl, rfl, q⟩ := h
  obtain ⟨t, rfl⟩ := rx
  obtain ⟨t', rfl⟩ := ry
  exact rule i j t t' s _ _ ⟨.bl (g i j), H, I, rfl, q⟩
def CDiv (i j : Int) : Prop := 0 < j ∧ j < 1073741824
def CPow (i j : Int) : Prop := 0 ≤ j ∧ j ≤ 1000000 ∧ i.natAbs < 2 ^ 64
def CMul (i j : Int) : Prop := (-(2 ^ 64) < i ∧ i < 2 ^ 64) ∨ (-(2 ^ 64) < j ∧ j < 2 ^ 64)
theorem CMul.ok {i j : Int} (h : CMul i j) : IntMulOk i j := by
  rcases h with ⟨h1, h2⟩ | ⟨h1, h2⟩
  · exact .of_left (intBits_le_64 h1 h2)
  · exact .of_right (intBits_le_64 h1 h2)
theorem op_add : OpR X (binaryOp .Add) (rI0 fun i j => .int (i + j)) := opI0 fun _ _ _ _ _ _ _ q => add_int q
theorem op_sub : OpR X (binaryOp .Sub) (rI0 fun i j => .int (i - j)) := opI0 fun _ _ _ _ _ _ _ q => sub_int q
theorem op_mul : OpR X (binaryOp .Mult) (rI CMul fun i j => .int (i * j)) := opI fun _ _ _ _ _ _ _ hc q => mul_int q hc.ok
theorem op_fdiv : OpR X (binaryOp .FloorDiv) (rI CDiv fun i j => .int (i / j)) := opI fun i j _ _ _ _ _ hc q => by
  have h1 : (0 : Int) < j := hc.1
  have h2 : j < 1073741824 := hc.2
  exact floordiv_int (by omega) (by rw [Int.fdiv_eq_ediv_of_nonneg i (by omega)]; exact q) (.inl (PyProof.noPylong_small (by omega)))
theorem op_mod : OpR X (binaryOp .Mod) (rI (fun _ j => 0 < j) fun i j => .int (i % j)) := opI fun i j _ _ _ _ _ hc q => by
  have h1 : (0 : Int) < j := hc
  exact mod_int' (by omega) (by rw [Int.fmod_eq_emod_of_nonneg i (by omega)]; exact q)
theorem op_pow : OpR X (binaryOp .Pow) (rI CPow fun i j => .int (i ^ j.toNat)) := opI fun _ _ _ _ _ _ _ hc q => pow_int_small hc.1 hc.2.1 hc.2.2 q
theorem unI {f : Value → Sem Value} {g : Int → Int}
    (rule : ∀ (i : Int) (t : Tok) (s : Shared) (Q : Value → Shared → Prop) (E : Value → Shared → Prop), Q (.int (g i) s.toks) { s with toks := s.toks + 1 } → wpAny (model X.prog X.w) X.A (f (.int i t)) Q E s) :
    UnR X f (rU fun i => .int (g i)) := by
  intro pins s σ H x v Q I rx h
  obtain ⟨i, rfl, q⟩ := h
  obtain ⟨t, rfl⟩ := rx
  exact rule i t s _ _ ⟨.int (g i), H, I.tok _, ⟨_, rfl⟩, q⟩
theorem un_neg : UnR X (unaryOp .USub) (rU fun i => .int (-i)) := unI fun _ _ _ _ _ q => neg_int q
end
def scal : V → V → Bool
  | .non, .non => true | .non, .int _ => true | .int _, .non => true | .non, .bl _ => true | .bl _, .non => true | .non, .str _ => true | .str _, .non => true
  | .int _, .int _ => true | .bl _, .bl _ => true | .str _, .str _ => true | .byt _, .byt _ => true
  | .int _, .str _ => true | .str _, .int _ => true | .bl _, .str _ => true | .str _, .bl _ => true
  | _, _ => false
def rEq : R2 := fun x y H Q => scal x y = true ∧ Q (.bl (decide (x = y))) H
def rNe : R2 := fun x y H Q => scal x y = true ∧ Q (.bl (!decide (x = y))) H
theorem dec_int {i j : Int} : decide (V.int i = V.int j) = (i == j) := by
  rw [Bool.eq_iff_iff]
  simp
theorem dec_bl {i j : Bool} : decide (V.bl i = V.bl j) = (i == j) := by
  rw [Bool.eq_iff_iff]
  simp
theorem dec_str {i j : Str} : decide (V.str i = V.str j) = (i == j) := by
  rw [Bool.eq_iff_iff]
  simp
theorem dec_byt {i j : Array UInt8} : decide (V.byt i = V.byt j) = (i.toList == j.toList) := by
  rw [Bool.eq_iff_iff]
  cases i
  cases j
  simp
section
variable {X : Cx} {a b c : Expr} {ta tb tc : TE} {pos : Pos}
theorem fin_bl {pins : List (Addr × Obj)} {σ : St} {H : Hp} {s : Shared} {Q : VK} {k k' : Bool} (I : Inv X pins σ H s) (q : Q (.bl k) H) (e : k = k') : EP X pins σ Q (.bool k') s := by
  subst e
  exact ⟨.bl k, H, I, rfl, q⟩
theorem op_eq : OpR X (compareOp .Eq) rEq := by
  intro pins s σ H x y v u Q I rx ry h
  obtain ⟨hs, q⟩ := h
  cases x with
  | non =>
    cases rx
    cases y with
    | non => cases ry; exact PySem.EqNone.eq_none_none (fin_bl I q (by simp))
    | bl j => cases ry; exact PySem.EqNone.eq_none_bool (fin_bl I q (by simp))
    | int j => obtain ⟨t', rfl⟩ := ry; exact PySem.EqNone.eq_none_int (fin_bl I q (by simp))
    | str j => obtain ⟨t', rfl⟩ := ry; exact PySem.EqNone.eq_none_str (fin_bl I q (by simp))
    | _ => exact absurd (show false = true from hs) Bool.false_ne_true
  | bl i =>
    cases rx
    cases y with
    | non => cases ry; exact PySem.EqNone.eq_bool_none (fin_bl I q (by simp))
    | bl j => cases ry; exact eq_bool (fin_bl I q dec_bl)
    | str j => obtain ⟨t', rfl⟩ := ry; exact PySem.EqMixed.eq_bool_str (fin_bl I q (by simp))
    | _ => exact absurd (show false = true from hs) Bool.false_ne_true
  | int i =>
    obtain ⟨t, rfl⟩ := rx
    cases y with
    | non => cases ry; exact PySem.EqNone.eq_int_none (fin_bl I q (by simp))
    | int j => obtain ⟨t', rfl⟩ := ry; exact eq_int (fin_bl I q dec_int)
    | str j => obtain ⟨t', rfl⟩ := ry; exact PySem.EqMixed.eq_int_str (fin_bl I q (by simp))
    | _ => exact absurd (show false = true from hs) Bool.false_ne_true
  | str i =>
    obtain ⟨t, rfl⟩ := rx
    cases y with
    | non => cases ry; exact PySem.EqNone.eq_str_none (fin_bl I q (by simp))
    | bl j => cases ry; exact PySem.EqMixed.eq_str_bool (fin_bl I q (by simp))
    | int j => obtain ⟨t', rfl⟩ := ry; exact PySem.EqMixed.eq_str_int (fin_bl I q (by simp))
    | str j => obtain ⟨t', rfl⟩ := ry; exact eq_str (fin_bl I q dec_str)
    | _ => exact absurd (show false = true from hs) Bool.false_ne_true
  | byt i =>
    obtain ⟨t, rfl⟩ := rx
    cases y with
    | byt j => obtain ⟨t', rfl⟩ := ry; exact PySem.W.eq_bytes (fin_bl I q dec_byt)
    | _ => exact absurd (show false = true from hs) Bool.false_ne_true
  | _ => cases y <;> exact absurd (show false = true from hs) Bool.false_ne_true
theorem op_ne : OpR X (compareOp .NotEq) rNe := by
  intro pins s σ H x y v u Q I rx ry h
  obtain ⟨hs, q⟩ := h
  cases x with
  | non =>
    cases rx
    cases y with
    | non => cases ry; exact PySem.EqNone.ne_none_none (fin_bl I q (by simp))
    | bl j => cases ry; exact PySem.EqNone.ne_none_bool (fin_bl I q (by simp))
    | int j => obtain ⟨t', rfl⟩ := ry; exact PySem.EqNone.ne_none_int (fin_bl I q (by simp))
    | str j => obtain ⟨t', rfl⟩ := ry; exact PySem.EqNone.ne_none_str (fin_bl I q (by simp))
    | _ => exact absurd (show false = true from hs) Bool.false_ne_true
  | bl i =>
    cases rx
    cases y with
    | non => cases ry; exact PySem.EqNone.ne_bool_none (fin_bl I q (by simp))
    | bl j => cases ry; exact ne_bool (fin_bl I q (congrArg not dec_bl))
    | str j => obtain ⟨t', rfl⟩ := ry; exact PySem.EqMixed.ne_bool_str (fin_bl I q (by simp))
    | _ => exact absurd (show false = true from hs) Bool.false_ne_true
  | int i =>
    obtain ⟨t, rfl⟩ := rx
    cases y with
    | non => cases ry; exact PySem.EqNone.ne_int_none (fin_bl I q (by simp))
    | int j => obtain ⟨t', rfl⟩ := ry; exact ne_int (fin_bl I q (congrArg not dec_int))
    | str j => obtain ⟨t', rfl⟩ := ry; exact PySem.EqMixed.ne_int_str (fin_bl I q (by simp))
    | _ => exact absurd (show false = true from hs) Bool.false_ne_true
  | str i =>
    obtain ⟨t, rfl⟩ := rx
    cases y with
    | non => cases ry; exact PySem.EqNone.ne_str_none (fin_bl I q (by simp))
    | bl j => cases ry; exact PySem.EqMixed.ne_str_bool (fin_bl I q (by simp))
    | int j => obtain ⟨t', rfl⟩ := ry; exact PySem.EqMixed.ne_str_int (fin_bl I q (by simp))
    | str j => obtain ⟨t', rfl⟩ := ry; exact ne_str (fin_bl I q (congrArg not dec_str))
    | _ => exact absurd (show false = true from hs) Bool.false_ne_true
  | byt i =>
    obtain ⟨t, rfl⟩ := rx
    cases y with
    | byt j => obtain ⟨t', rfl⟩ := ry; exact PySem.W.ne_bytes (fin_bl I q (congrArg not dec_byt))
    | _ => exact absurd (show false = true from hs) Bool.false_ne_true
  | _ => cases y <;> exact absurd (show false = true from hs) Bool.false_ne_true
theorem op_lt : OpR X (compareOp .Lt) (rI0 fun i j => .bl (decide (i < j))) := opB0 fun _ _ _ _ _ _ _ q => lt_int q
theorem op_le : OpR X (compareOp .LtE) (rI0 fun i j => .bl (decide (i ≤ j))) := opB0 fun _ _ _ _ _ _ _ q => le_int q
theorem op_gt : OpR X (compareOp .Gt) (rI0 fun i j => .bl (decide (j < i))) := opB0 fun _ _ _ _ _ _ _ q => gt_int q
theorem op_ge : OpR X (compareOp .GtE) (rI0 fun i j => .bl (decide (j ≤ i))) := opB0 fun _ _ _ _ _ _ _ q => ge_int q
theorem nomark (b : Expr) {op : CmpOp} (h : op ≠ .In := by decide) (h2 : op ≠ .NotIn := by decide) : behindInMarks op b = false := by
  have e1 : (op == CmpOp.In) = false := by cases op <;> first | rfl | exact absurd rfl h
  have e2 : (op == CmpOp.NotIn) = false := by cases op <;> first | rfl | exact absurd rfl h2
  cases b <;> simp [behindInMarks, e1, e2]
theorem pe_cmpR {op : CmpOp} {r : R2} (ho : OpR X (compareOp op) r) (ha : PE X a ta) (hb : PE X b tb) (hm : behindInMarks op b = false) : PE X (.Compare a [op] [b] pos) (tOp r ta tb) := by
  intro pins s σ H Q I h
  exact wpAny_Compare1 (binT ha hb I h fun v u s2 x y H2 I2 rx ry q => ho pins s2 σ H2 x y v u Q I2 rx ry q) hm
def tTest (t : TE) : TT := fun σ H Q => t σ H fun x H' => ∃ k, x = .bl k ∧ Q k H'
theorem pt_cmpR {op : CmpOp} {r : R2} (ho : OpR X (compareOp op) r) (ha : PE X a ta) (hb : PE X b tb) (hm : behindInMarks op b = false) : PT X (.Compare a [op] [b] pos) (tTest (tOp r ta tb)) := by
  intro pins s σ H Q I h
  refine wpAny_isTrue_Compare1 (thn (ha pins s σ H _ I h) fun v s1 ⟨x, H1, I1, r1, q1⟩ => thn (hb pins s1 σ H1 _ I1 q1) fun u s2 ⟨y, H2, I2, r2, q2⟩ =>
    thn (ho pins s2 σ H2 x y v u _ I2 r1 r2 q2) fun c s3 ⟨z, H3, I3, r3, k, e, q3⟩ => ?_) hm
  subst e
  cases r3
  exact wpAny_truthy_bool ⟨H3, I3, q3⟩
def tChain (r r' : R2) (ta tb tc : TE) : TE := fun σ H Q => ta σ H fun x H1 => tb σ H1 fun y H2 => r x y H2 fun z H3 => ∃ k, z = .bl k ∧
  (if k = true then tc σ H3 fun w' H4 => r' y w' H4 Q else Q (.bl false) H3)
theorem pe_chain {op op' : CmpOp} {r r' : R2} (ho : OpR X (compareOp op) r) (ho' : OpR X (compareOp op') r') (ha : PE X a ta) (hb : PE X b tb) (hc : PE X c tc)
    (hm : lastMarks [op, op'] [b, c] = false := by with_unfolding_all rfl) : PE X (.Compare a [op, op'] [b, c] pos) (tChain r r' ta tb tc) := by
  intro pins s σ H Q I h
  refine Compare_chain (thn (ha pins s σ H _ I h) fun v s1 ⟨x, H1, I1, r1, q1⟩ => chain_link (thn (hb pins s1 σ H1 _ I1 q1) fun u s2 ⟨y, H2, I2, r2, q2⟩ =>
    thn (ho pins s2 σ H2 x y v u _ I2 r1 r2 q2) fun d s3 ⟨z, H3, I3, r3, k, e, q3⟩ => ?_)) hm
  subst e
  cases r3
  refine wpAny_truthy_bool ?_
  cases k with
  | false => exact ite_ff ⟨.bl false, H3, I3, rfl, q3⟩
  | true => exact ite_tt (chain_last (thn (hc pins s3 σ H3 _ I3 q3) fun w' s4 ⟨z', H4, I4, r4, q4⟩ => ho' pins s4 σ H4 y z' u w' Q I4 r2 r4 q4))
theorem line63 : (sizeLine : Nat) < 2 ^ 63 := by rw [sizeLine_eq]; decide
theorem vals1 {x : V} {us : List Value} (r : Vals [x] us) : ∃ u, us = [u] ∧ RelV x u := by
  cases r with
  | cons r1 r2 => cases r2; exact ⟨_, rfl, r1⟩
theorem vals2 {x y : V} {us : List Value} (r : Vals [x, y] us) : ∃ u w', us = [u, w'] ∧ RelV x u ∧ RelV y w' := by
  cases r with
  | cons r1 r2 =>
    cases r2 with
    | cons r3 r4 => cases r4; exact ⟨_, _, rfl, r1, r3⟩
theorem call_max2 (hc : X.calm = true) : CallR X (.builtin "max") (fun xs H Q => ∃ i j, xs = [.int i, .int j] ∧ Q (.int (if j > i then j else i)) H) := by
  intro pins s σ H xs us Q I r h
  obtain ⟨i, j, rfl, q⟩ := h
  obtain ⟨u, w', rfl, ⟨t, rfl⟩, ⟨t', rfl⟩⟩ := vals2 r
  refine max_two_ints (I.ok.hd hc) fun h' tk k => ⟨_, H, I.kept k, ?_, q⟩
  by_cases hj : j > i
  · rw [if_pos hj, if_pos hj]; exact ⟨_, rfl⟩
  · rw [if_neg hj, if_neg hj]; exact ⟨_, rfl⟩
theorem call_int1 : CallR X (.type "int") (fun xs H Q => (∃ i, xs = [.int i] ∧ Q (.int i) H) ∨ ∃ k, xs = [.bl k] ∧ Q (.int (if k then 1 else 0)) H) := by
  intro pins s σ H xs us Q I r h
  rcases h with ⟨i, rfl, q⟩ | ⟨k, rfl, q⟩
  · obtain ⟨u, rfl, t, rfl⟩ := vals1 r
    exact call_int_int ⟨.int i, H, I, ⟨_, rfl⟩, q⟩
  · obtain ⟨u, rfl, r1⟩ := vals1 r
    cases r1
    exact call_int_bool ⟨.int (if k then 1 else 0), H, I.tok _, ⟨_, rfl⟩, q⟩
end
end L2
namespace L2
open PySem PySem.Spec PyProof.Rows
structure ObjM (h : Heap) (x dx C : Addr) (mA : Str → Option Value) : Prop where
  obj : h.get? x = some (PySem.W.instObj C dx)
  ns : h.Ns1 dx mA
  ne : dx ≠ x
theorem lookIn_ns {h : Heap} {dx : Addr} {mA : Str → Option Value} (n : h.Ns1 dx mA) : ∃ od, h.get? dx = some od ∧ ∀ name, PySem.W.lookIn name od = some (mA name) := by
  obtain ⟨o, es, ep, ho, hd, hk, _, hm⟩ := n
  refine ⟨o, ho, fun name => ?_⟩
  have e := hm name
  unfold nsFind findBy at e
  rw [← Array.find?_toList] at e
  unfold PySem.W.lookIn
  rw [hd]
  dsimp only
  split
  · rename_i y q
    rw [q] at e
    exact congrArg some e
  · rename_i q
    rw [q] at e
    have a : es.toList.any (·.refKey) = false := by
      rw [List.any_eq_false]
      intro y hy
      obtain ⟨z, t, hkey⟩ := hk y (Array.mem_toList_iff.mp hy)
      simp [DictEntry.refKey, hkey]
    have a' : ¬ es.toList.any (·.refKey) = true := by rw [a]; exact Bool.false_ne_true
    rw [if_neg a']
    exact congrArg some e
theorem ObjM.look {h : Heap} {x dx C : Addr} {mA : Str → Option Value} (I : ObjM h x dx C mA) : ∃ od, PySem.W.InstAt h x (PySem.W.instObj C dx) C (some od) ∧ ∀ name, PySem.W.lookIn name od = some (mA name) :=
  let ⟨od, ho, hl⟩ := lookIn_ns I.ns
  ⟨od, ⟨I.obj, rfl, rfl, ho⟩, hl⟩
section
variable {prog : Program} {w : World} {A : Around} {E : Value → Shared → Prop} {s : Shared} {K : PySem.W.Frag} {x dx C f : Addr} {mA : Str → Option Value} {name : Str} {v : Value}
theorem get_map {expr : Bool} {Q : Value → Shared → Prop} (X : K.In s.heap) (I : ObjM s.heap x dx C mA) (hg : PySem.W.plainGet K C name = true) (hh : PySem.W.hasDictIn K C = true)
    (ha : PySem.W.findIn K (.ref C) name = some none) (hv : mA name = some v) (hv' : PySem.W.handedIn v = true) (h : Q v { s with toks := s.toks + 1 }) :
    wpAny (model prog w) A (getAttr (.ref x) name expr) Q E s := by
  obtain ⟨od, J, hl⟩ := I.look
  exact PySem.W.get_value X J (PySem.W.plainGet_of hg).1 (PySem.W.findObj_own hh ha rfl (by rw [hl, hv])) hv' h
theorem get_meth {pl : Sem Bool} {Q : Value × List Value → Shared → Prop} (X : K.In s.heap) (I : ObjM s.heap x dx C mA) (hg : PySem.W.plainGet K C name = true)
    (hf : PySem.W.findIn K (.ref C) name = some (some (.ref f))) (ht : PySem.W.isFn K (.ref f) = true) (hv : mA name = none) (h : Q (.ref f, [.ref x]) s) :
    wpAny (model prog w) A (getMethod (.ref x) name pl) Q E s := by
  obtain ⟨od, J, hl⟩ := I.look
  exact PySem.W.method_fn X J (PySem.W.plainGet_of hg).1 (PySem.W.plainGet_of hg).2 hf (beq_iff_eq.mp ht) (by show (PySem.W.lookIn name od).map (·.isSome) = some false; rw [hl, hv]; rfl) h
theorem set_map {ns : List Str} {Q : Unit → Shared → Prop} (X : K.In s.heap) (I : ObjM s.heap x dx C mA)
    (hs : PySem.W.findIn K (.ref C) "__setattr__" = some (some (.builtin "object.__setattr__"))) (hp : PySem.W.plainOver K C = true) (ht : PySem.W.takerIn K C name = some none) (hh : PySem.W.hasDictIn K C = true)
    (hw : PySem.Within mA ns) (hsz : ns.length ≤ sizeLine)
    (h : ∀ h', ObjM h' x dx C (fun y => if y = name then some v else mA y) → Heap.SameBut dx s.heap h' → Q () { s with heap := h', toks := s.toks + 2 }) :
    wpAny (model prog w) A (setAttr (.ref x) name v) Q E s := by
  obtain ⟨od, J, hl⟩ := I.look
  refine PySem.W.set_plain X J hs (PySem.W.osa_open (s := { s with toks := s.toks + 1 }) (r := none) X J hp ht fun b => ?_)
  obtain ⟨cd, hc, hd'⟩ := PySem.W.any_some hh
  have hx : s.heap.get? x = some ⟨.ref C, some dx, .plain, #[]⟩ := I.obj
  refine wpAny_bind (wpAny_pure (wpAny_bind (wpAny_bind (wpAny_loadPart hx (wpAny_bind (PySem.W.Looks.here (s := { s with toks := s.toks + 1 }) (PySem.W.looks_clsIn X hc) ?_))))))
  rw [hd']
  refine wpAny_pure (a := some dx) (wpAny_bind (wpAny_pure (wpAny_bind ?_)))
  refine wpAny_nsSet1 (s := { s with toks := s.toks + 1 }) I.ns fun h' hn2 hs2 => ?_
  obtain ⟨oD, esD, epD, hoD, hdD, hcD⟩ := hn2.count (PySem.Within.cons name v hw)
  refine wpAny_bind (wpAny_lookBehind hoD (by rw [hdD]; exact pastItsLine_dict (Nat.le_trans hcD (by rw [List.length_cons]; omega))) ?_)
  exact wpAny_pure (h _ ⟨(hs2.2 _ (Ne.symm I.ne)).trans I.obj, hn2, I.ne⟩ hs2)
theorem make_map {R : Result → Shared → Prop} {vs : List Value} {kw : List (Str × Value)} (X : K.In s.heap) (hm : PySem.W.makesIn K C = true)
    (hi : PySem.W.findIn K (.ref C) "__init__" = some (some (.ref f))) (hf : PySem.W.typeIn K (.ref f) = some (.type "function"))
    (h : codeAny (model prog w) (A.under (.builtin "type.__call__" ⟨.ref C :: vs, kw⟩)) (.call (.ref f) ⟨.ref (s.heap.objs.size + 1) :: vs, kw⟩) (PySem.W.InitBack (s.heap.objs.size + 1) R)
      { s with heap := (s.heap.push PySem.W.emptyDict).push (PySem.W.instObj C s.heap.objs.size) }) :
    codeAny (model prog w) A (.call (.ref C) ⟨vs, kw⟩) R s := by
  obtain ⟨hh, g, d, t, os⟩ := s
  exact PySem.W.make_core (PySem.W.makes_of X hm) (PySem.W.looks_findIn X hi) (fun self => PySem.W.bind_fn X self hf) (.inl rfl) h
end
def putF (f : Str) (v : V) : List (Str × V) → List (Str × V)
  | [] => [(f, v)]
  | (g, x) :: r => if g = f then (g, v) :: r else (g, x) :: putF f v r
theorem lookup_putF (f g : Str) (v : V) : ∀ fs : List (Str × V), (putF f v fs).lookup g = if g = f then some v else fs.lookup g
  | [] => by
    show List.lookup g [(f, v)] = _
    by_cases h : g = f
    · have hb : (g == f) = true := beq_iff_eq.mpr h
      simp only [List.lookup, hb, if_pos h]
    · have hb : (g == f) = false := beq_eq_false_iff_ne.mpr h
      simp only [List.lookup, hb, if_neg h]
  | (k, x) :: r => by
    have ih := lookup_putF f g v r
    rw [show putF f v ((k, x) :: r) = (if k = f then (k, v) :: r else (k, x) :: putF f v r) from rfl]
    by_cases hk : k = f
    · rw [if_pos hk]
      by_cases h : g = k
      · have hb : (g == k) = true := beq_iff_eq.mpr h
        simp only [List.lookup, hb, if_pos (h.trans hk)]
      · have hb : (g == k) = false := beq_eq_false_iff_ne.mpr h
        simp only [List.lookup, hb, if_neg (fun e : g = f => h (e.trans hk.symm))]
    · rw [if_neg hk]
      by_cases h : g = k
      · have hb : (g == k) = true := beq_iff_eq.mpr h
        simp only [List.lookup, hb, if_neg (fun e : g = f => hk (h.symm.trans e))]
      · have hb : (g == k) = false := beq_eq_false_iff_ne.mpr h
        simp only [List.lookup, hb]
        exact ih
theorem keys_putF (f : Str) (v : V) : ∀ fs : List (Str × V), f ∈ (putF f v fs).map (·.1) ∧ ∀ g, g ∈ fs.map (·.1) → g ∈ (putF f v fs).map (·.1)
  | [] => ⟨by simp [putF], fun g h => by simp at h⟩
  | (k, x) :: r => by
    obtain ⟨i1, i2⟩ := keys_putF f v r
    rw [show putF f v ((k, x) :: r) = (if k = f then (k, v) :: r else (k, x) :: putF f v r) from rfl]
    by_cases hk : k = f
    · rw [if_pos hk]
      subst hk
      exact ⟨by simp, fun g h => by simpa using h⟩
    · rw [if_neg hk]
      refine ⟨?_, fun g h => ?_⟩
      · rw [List.map_cons]
        exact List.mem_cons_of_mem _ i1
      · rw [List.map_cons] at h ⊢
        rcases List.mem_cons.mp h with e | e
        · exact List.mem_cons.mpr (.inl e)
        · exact List.mem_cons_of_mem _ (i2 g e)
theorem length_putF (f : Str) (v : V) : ∀ fs : List (Str × V), (putF f v fs).length ≤ fs.length + 1
  | [] => by simp [putF]
  | (k, x) :: r => by
    have ih := length_putF f v r
    rw [show putF f v ((k, x) :: r) = (if k = f then (k, v) :: r else (k, x) :: putF f v r) from rfl]
    by_cases hk : k = f
    · rw [if_pos hk, List.length_cons, List.length_cons]; omega
    · rw [if_neg hk, List.length_cons, List.length_cons]; omega
theorem RelO.some_of {v : V} {o : Option Value} (r : RelO (some v) o) : ∃ u, o = some u ∧ RelV v u := by
  cases o with
  | none => exact (show False from r).elim
  | some u => exact ⟨u, rfl, r⟩
theorem RelO.none_of {o : Option Value} (r : RelO none o) : o = none := by
  cases o with
  | none => rfl
  | some u => exact (show False from r).elim
theorem handed_of {v : V} {u : Value} (r : RelV v u) : PySem.W.handedIn u = true := by
  cases v with
  | non => cases (show u = Value.none from r); rfl
  | bl b => cases (show u = Value.bool b from r); rfl
  | int i => obtain ⟨t, e⟩ := (show ∃ t, u = Value.int i t from r); cases e; rfl
  | str x => obtain ⟨t, e⟩ := (show ∃ t, u = Value.str x t from r); cases e; rfl
  | byt b => obtain ⟨t, e⟩ := (show ∃ t, u = Value.bytes b t from r); cases e; rfl
  | flt b => obtain ⟨t, e⟩ := (show ∃ t, u = Value.float b t from r); cases e; rfl
  | ref a => cases (show u = Value.ref a from r); rfl
  | ty n => cases (show u = Value.type n from r); rfl
section
variable {P : Program} {w : World} {H H' : Hp} {h h' : Heap} {a C dx : Addr} {fs fs' : List (Str × V)}
theorem ins_get (hok : HOk P w H h) (e : H a = some (.ins C dx fs)) : ∃ mA, ObjM h a dx C mA ∧ (∀ f, RelO (fs.lookup f) (mA f)) ∧ PySem.Within mA (fs.map (·.1)) ∧ fs.length ≤ 1000 ∧ H dx = some (.own a) := by
  obtain ⟨d, z, ne, ob, mA, n, r, q⟩ := (show ObjOk P w H h a (.ins C dx fs) from hok a _ e)
  exact ⟨mA, ⟨ob, n, ne⟩, r, q, z, d⟩
end
structure Cls (K : PySem.W.Frag) (C : Addr) : Prop where
  pg : PySem.W.plainGet K C Str.empty = true
  hd : PySem.W.hasDictIn K C = true
  po : PySem.W.plainOver K C = true
  sa : PySem.W.findIn K (.ref C) "__setattr__" = some (some (.builtin "object.__setattr__"))
theorem Cls.get {K : PySem.W.Frag} {C : Addr} (c : Cls K C) (f : Str) : PySem.W.plainGet K C f = true := c.pg
def NoAttr (K : PySem.W.Frag) (C : Addr) (f : Str) : Prop := PySem.W.findIn K (.ref C) f = some none
theorem NoAttr.taker {K : PySem.W.Frag} {C : Addr} {f : Str} (n : NoAttr K C f) : PySem.W.takerIn K C f = some none := by
  unfold PySem.W.takerIn
  rw [show PySem.W.findIn K (.ref C) f = some none from n]
  rfl
structure Meth (K : PySem.W.Frag) (C : Addr) (m : Str) (f : Addr) : Prop where
  at_ : PySem.W.findIn K (.ref C) m = some (some (.ref f))
  fn : PySem.W.isFn K (.ref f) = true
  kp : PySem.W.keepIn K (.ref f) = true
section
variable {X : Cx} {pins : List (Addr × Obj)} {σ : St} {H : Hp} {s : Shared} {a C dx : Addr} {fs : List (Str × V)} {f : Str} {v : V} {A : Around} {E : Value → Shared → Prop}
theorem getattr_ok {b : Bool} {Q : Value → Shared → Prop} (I : Inv X pins σ H s) (e : H a = some (.ins C dx fs)) (c : Cls X.K C) (n : NoAttr X.K C f) (l : fs.lookup f = some v)
    (h : ∀ u s', Inv X pins σ H s' → RelV v u → Q u s') : wpAny (model X.prog X.w) A (getAttr (.ref a) f b) Q E s := by
  obtain ⟨mA, O, r, _, _, _⟩ := ins_get I.hok e
  obtain ⟨u, hu, ru⟩ := RelO.some_of (v := v) (o := mA f) (by rw [← l]; exact r f)
  exact get_map I.kIn O (c.get f) c.hd n hu (handed_of ru) (h u _ (I.tok _) ru)
theorem getmeth_ok {m : Str} {g : Addr} {pl : Sem Bool} {Q : Value × List Value → Shared → Prop} (I : Inv X pins σ H s) (e : H a = some (.ins C dx fs)) (c : Cls X.K C) (k : Meth X.K C m g) (l : fs.lookup m = none)
    (h : Q (.ref g, [.ref a]) s) : wpAny (model X.prog X.w) A (getMethod (.ref a) m pl) Q E s := by
  obtain ⟨mA, O, r, _, _, _⟩ := ins_get I.hok e
  have hn : mA m = none := RelO.none_of (by rw [← l]; exact r m)
  exact get_meth I.kIn O (c.get m) k.at_ k.fn hn h
theorem setattr_ok {y : V} {u : Value} {Q : Unit → Shared → Prop} (I : Inv X pins σ H s) (e : H a = some (.ins C dx fs)) (c : Cls X.K C) (n : NoAttr X.K C f) (hl : fs.length < 1000) (ry : RelV y u)
    (h : ∀ s', Inv X pins σ (upd H a (.ins C dx (putF f y fs))) s' → Q () s') : wpAny (model X.prog X.w) A (setAttr (.ref a) f u) Q E s := by
  obtain ⟨mA, O, r, wi, _, ho⟩ := ins_get I.hok e
  have hz : (fs.map (·.1)).length ≤ sizeLine := by rw [List.length_map, sizeLine_eq]; omega
  refine set_map I.kIn O c.sa c.po n.taker c.hd wi hz fun h' O' sb => h _ ?_
  have hd : ∃ o, h'.get? dx = some o := let ⟨o, _, _, e', _⟩ := O'.ns; ⟨o, e'⟩
  refine I.write (x := a) (e := dx) (by rw [e]; exact True.intro) (.inr ho) (fun b q hb z => (sb.2 b hb).trans z) hd ?_
  refine ⟨by rw [upd_ne O.ne]; exact ho, ?_, O.ne, O'.obj, _, O'.ns, fun g => ?_, fun g hg => ?_⟩
  · have := length_putF f y fs; omega
  · show RelO ((putF f y fs).lookup g) (if g = f then some u else mA g)
    rw [lookup_putF]
    by_cases q : g = f
    · rw [if_pos q, if_pos q]; exact ry
    · rw [if_neg q, if_neg q]; exact r g
  · by_cases q : g = f
    · rw [q]; exact (keys_putF f y fs).1
    · refine (keys_putF f y fs).2 g (wi g fun z => hg ?_)
      show (if g = f then some u else mA g) = none
      rw [if_neg q]; exact z
theorem Inv.made (I : Inv X pins σ H s) : Inv X pins σ (upd (upd H s.heap.objs.size (.own (s.heap.objs.size + 1))) (s.heap.objs.size + 1) (.ins C s.heap.objs.size []))
    { s with heap := (s.heap.push PySem.W.emptyDict).push (PySem.W.instObj C s.heap.objs.size) } := by
  have e1 : (s.heap.push PySem.W.emptyDict).get? s.heap.objs.size = some PySem.W.emptyDict := Heap.get?_push_size s.heap rfl
  have e2 : ((s.heap.push PySem.W.emptyDict).push (PySem.W.instObj C s.heap.objs.size)).get? (s.heap.objs.size + 1) = some (PySem.W.instObj C s.heap.objs.size) := by
    have := Heap.get?_push_size (s.heap.push PySem.W.emptyDict) (o := PySem.W.instObj C s.heap.objs.size) rfl
    rwa [Heap.size_push] at this
  have e3 : (s.heap.push PySem.W.emptyDict).Ns s.heap.objs.size (fun _ => none) := ⟨PySem.W.emptyDict, #[], _, e1, rfl, (fun e he => absurd he (by simp)), fun _ => rfl⟩
  have I1 := I.laid (a := s.heap.objs.size) (o := .own (s.heap.objs.size + 1)) (h' := s.heap.push PySem.W.emptyDict) (t' := s.toks) (fun b u q => Heap.get?_push_of_some _ q) (Nat.le_refl _) ⟨_, e1⟩
  refine I1.laid (a := s.heap.objs.size + 1) (o := .ins C s.heap.objs.size []) (t' := s.toks) (fun b u q => Heap.get?_push_of_some _ q) (Nat.le_of_eq (Heap.size_push _ _)) ?_
  have ne : s.heap.objs.size ≠ s.heap.objs.size + 1 := Nat.ne_of_lt (Nat.lt_succ_self _)
  refine ⟨by rw [upd_ne ne, upd_same], Nat.zero_le _, ne, e2, fun _ => none, (Heap.Ns1.of_empty e3).at fun o q => Heap.get?_push_of_some _ q, fun _ => True.intro, fun y hy => absurd rfl hy⟩
theorem attr_of {prog : Program} {w : World} {env : Env} {e : Expr} {f : Str} {pos : Pos} {s : Shared} {Q : Value → Shared → Prop} (hb : attributeBase e f env (eval e env) = eval e env)
    (h : wpAny (model prog w) A (eval e env) (fun o s₁ => wpAny (model prog w) A (getAttr o f true) Q E s₁) E s) : wpAny (model prog w) A (eval (.Attribute e f pos) env) Q E s :=
  Attribute_any_ h (by rw [arm_eval_Attribute, hb])
end
def tFld (K : PySem.W.Frag) (ta : TE) (f : Str) : TE := fun σ H Q => ta σ H fun x H1 => ∃ a C dx fs v, x = .ref a ∧ H1 a = some (.ins C dx fs) ∧ Cls K C ∧ NoAttr K C f ∧ fs.lookup f = some v ∧ Q v H1
def sFld (K : PySem.W.Frag) (ta tv : TE) (f : Str) : TS := fun D σ H => tv σ H fun y H1 => ta σ H1 fun x H2 => ∃ a C dx fs, x = .ref a ∧ H2 a = some (.ins C dx fs) ∧ Cls K C ∧ NoAttr K C f ∧ fs.length < 1000 ∧
  D.nx σ (upd H2 a (.ins C dx (putF f y fs)))
section
variable {X : Cx} {o e value : Expr} {f : Str} {pos pos' tpos : Pos} {ta tv : TE}
theorem pe_fld (he : PE X e ta) (hb : attributeBase e f X.env (eval e X.env) = eval e X.env) : PE X (.Attribute e f pos) (tFld X.K ta f) := by
  intro pins s σ H Q I h
  refine attr_of hb (thn (he pins s σ H _ I h) fun u s1 ⟨x, H1, I1, rx, a, C, dx, fs, v, ex, ea, c, n, l, q⟩ => ?_)
  subst ex
  obtain rfl : u = Value.ref a := rx
  exact getattr_ok I1 ea c n l fun u' s2 I2 ru => ⟨v, H1, I2, ru, q⟩
theorem ps_fld (ha : PE X o ta) (hv : PE X value tv) (hs : swapsWith value (some (.Attribute o f pos')) pos.line X.env = pure false) : PS X (.Assign [.Attribute o f pos'] value pos) (sFld X.K ta tv f) := by
  intro pins s σ H D I h
  refine plainObj_wpAny_Assign_Attribute (thn (hv pins s σ H _ I h) fun u s1 ⟨y, H1, I1, ry, q⟩ => thn (ha pins s1 σ H1 _ I1 q) fun ov s2 ⟨x, H2, I2, rx, a, C, dx, fs, ex, ea, c, n, l, q2⟩ => ?_) hs
  subst ex
  obtain rfl : ov = Value.ref a := rx
  exact setattr_ok I2 ea c n l ry fun s3 I3 => ⟨σ, _, I3, q2⟩
end
section
variable {X : Cx} {pins : List (Addr × Obj)} {σ : St} {H : Hp} {s : Shared} {A : Around} {E : Value → Shared → Prop} {Q : Value → Shared → Prop} {c : Value} {b : Bool}
inductive TyOf (K : PySem.W.Frag) (H : Hp) : V → Value → Prop where
  | non : TyOf K H .non (.type "NoneType")
  | bl (x : Bool) : TyOf K H (.bl x) (.type "bool")
  | int (i : Int) : TyOf K H (.int i) (.type "int")
  | str (x : Str) : TyOf K H (.str x) (.type "str")
  | flt (x : UInt64) : TyOf K H (.flt x) (.type "float")
  | lst {a : Addr} {xs : List V} (e : H a = some (.lst xs)) : TyOf K H (.ref a) (.type "list")
  | frz {a : Addr} {o : Obj} {xs : List V} (e : H a = some (.frz o (.lst xs))) : TyOf K H (.ref a) (.type "list")
  | tup {a : Addr} {xs : List V} (e : H a = some (.tup xs)) : TyOf K H (.ref a) (.type "tuple")
  | dK {a : Addr} {kvs : List (Key × V)} (e : H a = some (.dK kvs)) : TyOf K H (.ref a) (.type "dict")
  | dT {a : Addr} {kvs : List (List Key × V)} (e : H a = some (.dT kvs)) : TyOf K H (.ref a) (.type "dict")
  | ins {a C dx : Addr} {fs : List (Str × V)} (e : H a = some (.ins C dx fs)) (cl : Cls K C) (ha : PySem.W.findIn K (.ref C) "__class__" = some (some (.builtin "object.__class__")))
      (hn : PySem.W.specialIn K (.builtin "object.__class__") "__get__" = some (some (.builtin "getset_descriptor.__get__"))) (htk : PySem.W.takesIn K (.builtin "object.__class__") = some true)
      (hm : PySem.W.mroIn K C (.type "object") = some true) : TyOf K H (.ref a) (.ref C)
theorem isinst_ok {x : V} {u t : Value} (I : Inv X pins σ H s) (rx : RelV x u) (ty : TyOf X.K H x t) (e : PySem.W.kitOne X.K t c = some b) (h : ∀ tk, Q (.bool b) { s with toks := tk }) :
    wpAny (model X.prog X.w) A (call (.builtin "isinstance") [u, c]) Q E s := by
  cases ty with
  | non => cases (show u = Value.none from rx); exact PySem.W.kia_one PySem.W.kitx_none I.kIn True.intro e (fun z => nomatch z) h
  | bl y => cases (show u = Value.bool y from rx); exact PySem.W.kia_one PySem.W.kitx_bool I.kIn True.intro e (fun z => nomatch z) h
  | int i => obtain ⟨t, q⟩ := (show ∃ t, u = Value.int i t from rx); cases q; exact PySem.W.kia_one PySem.W.kitx_int I.kIn True.intro e (fun z => nomatch z) h
  | str y => obtain ⟨t, q⟩ := (show ∃ t, u = Value.str y t from rx); cases q; exact PySem.W.kia_one PySem.W.kitx_str I.kIn True.intro e (fun z => nomatch z) h
  | flt y => obtain ⟨t, q⟩ := (show ∃ t, u = Value.float y t from rx); cases q; exact PySem.W.kia_one PySem.W.kitx_float I.kIn True.intro e (fun z => nomatch z) h
  | @lst a xs ea =>
    cases (show u = Value.ref a from rx)
    obtain ⟨_, _, n, _, h1⟩ := (show ObjOk X.prog X.w H s.heap a (.lst xs) from I.hok a _ ea)
    exact PySem.W.kia_one PySem.W.kitx_list I.kIn ⟨_, h1, rfl⟩ e (fun z => nomatch z) h
  | @frz a ob xs ea =>
    cases (show u = Value.ref a from rx)
    obtain ⟨_, _, _, n, _, h1⟩ := (show ObjOk X.prog X.w H s.heap a (.frz ob (.lst xs)) from I.hok a _ ea)
    exact PySem.W.kia_one PySem.W.kitx_list I.kIn ⟨_, h1, rfl⟩ e (fun z => nomatch z) h
  | @tup a xs ea =>
    cases (show u = Value.ref a from rx)
    obtain ⟨_, _, _, p⟩ := (show ObjOk X.prog X.w H s.heap a (.tup xs) from I.hok a _ ea)
    obtain ⟨o, h1, h2, _⟩ := p
    exact PySem.W.kia_one PySem.W.kitx_tuple I.kIn ⟨o, h1, h2⟩ e (fun z => nomatch z) h
  | @dK a kvs ea =>
    cases (show u = Value.ref a from rx)
    obtain ⟨_, _, vs, _, p⟩ := (show ObjOk X.prog X.w H s.heap a (.dK kvs) from I.hok a _ ea)
    obtain ⟨o, es, ep, h1, h2, _⟩ := p
    exact PySem.W.kia_one PySem.W.kitx_dict I.kIn ⟨o, h1, h2.1⟩ e (fun z => nomatch z) h
  | @dT a kvs ea =>
    cases (show u = Value.ref a from rx)
    obtain ⟨_, _, xs, _, o, es, ep, h1, h2, _⟩ := (show ObjOk X.prog X.w H s.heap a (.dT kvs) from I.hok a _ ea)
    exact PySem.W.kia_one PySem.W.kitx_dict I.kIn ⟨o, h1, h2.1⟩ e (fun z => nomatch z) h
  | @ins a C dx fs ea cl ha hn htk hm =>
    cases (show u = Value.ref a from rx)
    obtain ⟨mA, O, _⟩ := ins_get I.hok ea
    obtain ⟨od, J, _⟩ := O.look
    exact PySem.W.kia_one (PySem.W.kitx_own (cl.get _) cl.hd ha hn htk hm) I.kIn J e (fun z => nomatch z) h
end
end L2
namespace L2
open PySem PySem.Spec PyProof.Rows
structure Room (k : Nat) (A : Around) : Prop where
  hd : A.handled = none
  dp : A.depth + 3 * k + 5 < recursionLimit
  un : A.units + 16 * k + 200 < cLine
theorem Room.mono {j k : Nat} {A : Around} (r : Room k A) (h : j ≤ k) : Room j A := ⟨r.hd, by have := r.dp; omega, by have := r.un; omega⟩
theorem Room.deeper {k : Nat} {A : Around} (r : Room (k + 1) A) (env : Env) : Room k (A.deeper env) :=
  ⟨r.hd, by have := r.dp; show A.depth + 1 + 3 * k + 5 < _; omega, by have := r.un; show A.units + 3 + 16 * k + 200 < _; omega⟩
theorem Room.in1 {k : Nat} {A : Around} (r : Room (k + 1) A) : Room k A.in1 :=
  ⟨r.hd, by have := r.dp; show A.depth + 3 * k + 5 < _; omega, by have := r.un; show A.units + 1 + 16 * k + 200 < _; omega⟩
theorem make_depth {A : Around} {C : Addr} {us : List Value} {kw : List (Str × Value)} : (A.under (.builtin "type.__call__" ⟨.ref C :: us, kw⟩)).depth = A.depth + 1 := by
  first | rfl | simp [Around.under, Code.weight, Code.isCreation, Code.isGuard, Code.isCaller, Code.frames, Code.isFrame, guardIds]
theorem make_units {A : Around} {C : Addr} {us : List Value} {kw : List (Str × Value)} : (A.under (.builtin "type.__call__" ⟨.ref C :: us, kw⟩)).units = A.units + 1 := by
  first | rfl | simp [Around.under, Code.cUnits, Code.frames, Code.isFrame]
theorem Room.make {k : Nat} {A : Around} (r : Room (k + 1) A) (C : Addr) (us : List Value) (kw : List (Str × Value)) : Room k (A.under (.builtin "type.__call__" ⟨.ref C :: us, kw⟩)) :=
  ⟨r.hd, by have := r.dp; rw [make_depth]; omega, by have := r.un; rw [make_units]; omega⟩
theorem Room.depth {k : Nat} {A : Around} (r : Room k A) : A.depth < recursionLimit := by have := r.dp; omega
theorem Room.units {k : Nat} {A : Around} (r : Room k A) : A.units + 64 < cLine := by have := r.un; omega
def tNil : TA := fun _ H Q => Q [] H
def tCons (ta : TE) (tr : TA) : TA := fun σ H Q => ta σ H fun x H1 => tr σ H1 fun xs H2 => Q (x :: xs) H2
section
variable {X : Cx} {e : Expr} {es : List Expr} {te : TE} {t : TA} {pos : Pos}
theorem pa_nil : PA X [] tNil := fun _ _ _ _ H Q I h => Calls.spliced_nil ⟨[], H, I, .nil, h⟩
theorem pa_cons (ha : PE X e te) (hr : PA X es t) (hs : starEach (e :: es) X.env = (false, eval e X.env) :: starEach es X.env := by rfl) : PA X (e :: es) (tCons te t) := by
  intro pos pins s σ H Q I h
  rw [hs]
  show wpAny _ _ (spliced ((false, eval e X.env) :: backTo pos (starEach es X.env))) _ _ s
  refine Calls.spliced_cons (thn (ha pins s σ H _ I h) fun u s1 ⟨x, H1, I1, r1, q1⟩ => ?_)
  exact thn (hr pos pins s1 σ H1 _ I1 q1) fun us s2 ⟨xs, H2, I2, r2, q2⟩ => ⟨x :: xs, H2, I2, .cons r1 r2, q2⟩
def tTup (t : TA) : TE := fun σ H Q => t σ H fun xs H1 => xs.length ≤ sizeLine ∧ ∀ p, H1 p = none → Q (.ref p) (upd H1 p (.tup xs))
def tLst (t : TA) : TE := fun σ H Q => t σ H fun xs H1 => xs.length ≤ sizeLine ∧ ∀ p, H1 p = none → Q (.ref p) (upd H1 p (.lst xs))
theorem pe_tup {x1} (h : PA X es t) : PE X (.Tuple es x1 pos) (tTup t) := by
  intro pins s σ H Q I hq
  refine wpAny_Tuple_spliced (thn (h pos pins s σ H _ I hq) fun us s1 ⟨xs, H1, I1, r, z, q⟩ => ⟨by rw [← r.length]; exact z, ?_⟩)
  have hf : H1 s1.heap.objs.size = none := I1.hok.fresh (Nat.le_refl _)
  refine ⟨.ref s1.heap.objs.size, upd H1 s1.heap.objs.size (.tup xs), I1.laid (t' := s1.toks) (fun b u e => Heap.get?_push_of_some _ e) (Nat.le_refl _) ?_, rfl, q _ hf⟩
  exact ⟨z, us, r, ⟨_, Heap.get?_push_size _ rfl, rfl, _, rfl⟩⟩
theorem pe_lst (h : PA X es t) : PE X (.List es pos) (tLst t) := by
  intro pins s σ H Q I hq
  refine wpAny_List_spliced (thn (h pos pins s σ H _ I hq) fun us s1 ⟨xs, H1, I1, r, z, q⟩ => ⟨by rw [← r.length]; exact z, ?_⟩)
  have hf : H1 s1.heap.objs.size = none := I1.hok.fresh (Nat.le_refl _)
  refine ⟨.ref s1.heap.objs.size, upd H1 s1.heap.objs.size (.lst xs), I1.laid (t' := s1.toks) (fun b u e => Heap.get?_push_of_some _ e) (Nat.le_refl _) ?_, rfl, q _ hf⟩
  exact ⟨z, us, 0, r, Heap.get?_push_size _ rfl⟩
end
abbrev Sp := List V → Hp → VK → XK → Prop
abbrev CXT := List Env → Hp → Shared → XK → Value → Shared → Prop
structure Env0 (P : Program) (w : World) (K : PySem.W.Frag) (mg : Str → Option Value) (base : Heap) (A : Around) (outer : List Env) (s : Shared) (H : Hp) : Prop where
  frames : A.frames = some outer
  mod : Mod K mg base
  bs : ∀ b o, base.get? b = some o → s.heap.get? b = some o ∧ H b = none
  bsz : base.objs.size ≤ s.heap.objs.size
  funs : s.heap.FunFrames base outer
  frf : ∀ b ∈ frs outer, H b = none
  hok : HOk P w H s.heap
  bare : AllBare s.gens
def CE (outer : List Env) (P : Program) (w : World) (H : Hp) (s : Shared) (Q : VK) (u : Value) (s' : Shared) : Prop :=
  ∃ v H', s'.os = s.os ∧ AllBare s'.gens ∧ Un (frs outer) [] H H' s.heap s'.heap ∧ HOk P w H' s'.heap ∧ RelV v u ∧ Q v H'
def CR (CX : CXT) (outer : List Env) (P : Program) (w : World) (H : Hp) (s : Shared) (Q : VK) (E : XK) (r : Result) (s' : Shared) : Prop :=
  match r with
  | .ok (.ret u) => CE outer P w H s Q u s'
  | .ok _ => False
  | .error e => CX outer H s E e s'
structure FnOk (P : Program) (w : World) (K : PySem.W.Frag) (mg : Str → Option Value) (base : Heap) (CX : CXT) (k : Nat) (f : Addr) (fd : FuncData) (ps : List Str) (sp : Sp) : Prop where
  len : ∀ vs H Q E, sp vs H Q E → vs.length = ps.length
  run : ∀ (A : Around) (outer : List Env) (s : Shared) (H : Hp) (args : Args) (us : List Value) (vs : List V) (Q : VK) (E : XK), Room k A → Env0 P w K mg base A outer s H → BindsTo s fd args (ps.zip us) → Vals vs us → sp vs H Q E →
    codeAny (model P w) A (.call (.ref f) args) (CR CX outer P w H s Q E) s
theorem FnOk.mono {P : Program} {w : World} {K : PySem.W.Frag} {mg : Str → Option Value} {base : Heap} {CX : CXT} {j k : Nat} {f : Addr} {fd : FuncData} {ps : List Str} {sp : Sp} (F : FnOk P w K mg base CX j f fd ps sp) (h : j ≤ k) :
    FnOk P w K mg base CX k f fd ps sp := ⟨F.len, fun A outer s H args us vs Q E hr => F.run A outer s H args us vs Q E (hr.mono h)⟩
theorem FnOk.imp {P : Program} {w : World} {K : PySem.W.Frag} {mg : Str → Option Value} {base : Heap} {CX : CXT} {k : Nat} {f : Addr} {fd : FuncData} {ps : List Str} {sp sp' : Sp} (F : FnOk P w K mg base CX k f fd ps sp)
    (h : ∀ vs H Q E, sp' vs H Q E → sp vs H Q E) : FnOk P w K mg base CX k f fd ps sp' :=
  ⟨fun vs H Q E q => F.len vs H Q E (h _ _ _ _ q), fun A outer s H args us vs Q E hr he hb hv hs => F.run A outer s H args us vs Q E hr he hb hv (h _ _ _ _ hs)⟩
theorem Env0.make {P : Program} {w : World} {K : PySem.W.Frag} {mg : Str → Option Value} {base : Heap} {A : Around} {outer : List Env} {s : Shared} {H : Hp} (e : Env0 P w K mg base A outer s H) (C : Addr) (us : List Value) (kw : List (Str × Value)) :
    Env0 P w K mg base (A.under (.builtin "type.__call__" ⟨.ref C :: us, kw⟩)) outer s H := ⟨by first | exact e.frames | (simpa [Around.under, Code.envs, Code.isFrame, pushEnvs] using e.frames), e.mod, e.bs, e.bsz, e.funs, e.frf, e.hok, e.bare⟩
theorem Env0.in1 {P : Program} {w : World} {K : PySem.W.Frag} {mg : Str → Option Value} {base : Heap} {A : Around} {outer : List Env} {s : Shared} {H : Hp} (e : Env0 P w K mg base A outer s H) :
    Env0 P w K mg base A.in1 outer s H := ⟨e.frames, e.mod, e.bs, e.bsz, e.funs, e.frf, e.hok, e.bare⟩
section
variable {X : Cx} {pins : List (Addr × Obj)} {σ : St} {H : Hp} {s s' : Shared}
theorem Inv.env0 (I : Inv X pins σ H s) : Env0 X.prog X.w X.K X.mg X.base X.A X.stack s H :=
  ⟨I.ok.frames, I.ok.mod, I.bs, Nat.le_trans I.ok.bsz I.sz, I.stack, I.stkFree, I.hok, I.bare⟩
theorem Inv.after {Q : VK} {u : Value} (I : Inv X pins σ H s) (h : CE X.stack X.prog X.w H s Q u s') : EP X pins σ Q u s' := by
  obtain ⟨v, H', os, bare, un, hok, r, q⟩ := h
  obtain ⟨hh, g, d, t, os'⟩ := s'
  obtain rfl : os' = s.os := os
  exact ⟨v, H', I.call (h' := hh) (g' := g) (d' := d) (t' := t) (ch := []) un hok bare (fun b z => absurd z (by simp)), r, q⟩
end
def tCall (sp : Sp) (dvs : List V) (E : XK) (t : TA) : TE := fun σ H Q => t σ H fun vs H1 => sp (vs ++ dvs) H1 Q E
def tMeth (C : Addr) (m : Str) (sp : Sp) (dvs : List V) (E : XK) (ta : TE) (t : TA) : TE := fun σ H Q => ta σ H fun x H1 => ∃ a dx fs, x = .ref a ∧ H1 a = some (.ins C dx fs) ∧ fs.lookup m = none ∧
  t σ H1 fun vs H2 => sp (x :: (vs ++ dvs)) H2 Q E
def tMake (C : Addr) (sp : Sp) (dvs : List V) (E : XK) (t : TA) : TE := fun σ H Q => t σ H fun vs H1 => ∀ x dx, H1 x = none → H1 dx = none → dx ≠ x →
  sp (.ref x :: (vs ++ dvs)) (upd (upd H1 dx (.own x)) x (.ins C dx [])) (fun v H2 => v = .non ∧ Q (.ref x) H2) E
def Binds (K : PySem.W.Frag) (fd : FuncData) (ps : List Str) (ds : List Value) : Prop :=
  ∀ (s : Shared) (us : List Value), K.In s.heap → (us ++ ds).length = ps.length → BindsTo s fd ⟨us, []⟩ (ps.zip (us ++ ds))
theorem Binds.all {K : PySem.W.Frag} {fd : FuncData} {ps : List Str} (h : ∀ us : List Value, us.length = ps.length → bindArgs fd ⟨us, []⟩ = pure (ps.zip us)) : Binds K fd ps [] := fun s us _ hl => by
  rw [List.append_nil] at hl ⊢
  exact .of_eq (h us hl)
def Passes (CX : CXT) (X : Cx) (E : XK) : Prop := ∀ (pins : List (Addr × Obj)) (σ : St) (H : Hp) (s : Shared) (e : Value) (s' : Shared), Inv X pins σ H s → CX X.stack H s E e s' → X.xe e s'
section
variable {X : Cx} {CX : CXT} {k : Nat} {f C : Addr} {fd : FuncData} {ps : List Str} {sp : Sp} {dvs : List V} {ds : List Value} {E : XK} {x m : Str} {p pos apos : Pos} {e o : Expr} {es : List Expr} {ta : TE} {t : TA}
theorem run_fn {pins : List (Addr × Obj)} {σ : St} {H : Hp} {s : Shared} {Q : VK} {us : List Value} {vs : List V} (F : FnOk X.prog X.w X.K X.mg X.base CX k f fd ps sp) (hr : Room k X.A) (hb : Binds X.K fd ps ds) (hd : Vals dvs ds) (hx : Passes CX X E)
    (I : Inv X pins σ H s) (r : Vals vs us) (h : sp (vs ++ dvs) H Q E) : wpAny (model X.prog X.w) X.A (call (.ref f) us) (EP X pins σ Q) X.xe s := by
  have r2 : Vals (vs ++ dvs) (us ++ ds) := r.append hd
  have hl : (us ++ ds).length = ps.length := by rw [← r2.length]; exact F.len _ _ _ _ h
  refine wpAny_call (codeAny_mono (F.run X.A X.stack s H ⟨us, []⟩ (us ++ ds) (vs ++ dvs) Q E hr I.env0 (hb s us I.kIn hl) r2 h) fun r s' hq => ?_)
  cases r with
  | error e => exact hx pins σ H s e s' I hq
  | ok fl =>
    cases fl with
    | ret u => exact I.after hq
    | next => exact False.elim hq
    | brk => exact False.elim hq
    | cont => exact False.elim hq
theorem pe_call (F : FnOk X.prog X.w X.K X.mg X.base CX k f fd ps sp) (hr : Room k X.A) (hg : Gl X x) (hm : X.mg x = some (.ref f)) (hk : PySem.W.keepIn X.K (.ref f) = true) (hb : Binds X.K fd ps ds) (hd : Vals dvs ds) (hx : Passes CX X E)
    (ha : PA X (e :: es) t) (hdb : (x == ("__debug__" : Str)) = false := by decide) (he : starEach (e :: es) X.env = (false, eval e X.env) :: starEach es X.env := by rfl) (hpl : (backTo pos (starEach es X.env)).any (·.1) = false := by rfl) :
    PE X (.Call (.Name x p) (e :: es) [] pos) (tCall sp dvs E t) := by
  intro pins s σ H Q I h
  refine wpAny_Call_Name_kw (ld_glob I hg hm ?_ hdb)
  refine PySem.W.callWith_K (h₀ := X.base) I.ok.mod.kin hk (thn (ha pos pins s σ H _ I h) fun us s1 ⟨vs, H1, I1, r, q⟩ => ⟨I1.kIn, ?_⟩) he hpl
  exact run_fn F hr hb hd hx I1 r q
theorem pe_meth {pl : Sem Bool} (he : PE X o ta) (c : Cls X.K C) (hm : Meth X.K C m f) (F : FnOk X.prog X.w X.K X.mg X.base CX k f fd ps sp) (hr : Room k X.A) (hb : Binds X.K fd ps ds) (hd : Vals dvs ds) (hx : Passes CX X E) (ha : PA X (e :: es) t)
    (hst : starEach (e :: es) X.env = (false, eval e X.env) :: starEach es X.env := by rfl) (hpl : (backTo pos (starEach es X.env)).any (·.1) = false := by rfl)
    (ht : eval (.Call (.Attribute o m apos) (e :: es) [] pos) X.env = (do
      let ov ← eval o X.env
      standAt apos.atName
      let (f, first) ← holding [ov] (getMethod ov m pl)
      callWith pos f first (backTo pos (starEach (e :: es) X.env)) (backToKw pos (keywordEach [] X.env))) := by rfl) :
    PE X (.Call (.Attribute o m apos) (e :: es) [] pos) (tMeth C m sp dvs E ta t) := by
  intro pins s σ H Q I h
  refine PySem.W.methodCall_KW (pl := pl) (thn (he pins s σ H _ I h) fun u s1 ⟨x, H1, I1, rx, a, dx, fs, ex, ea, l, q⟩ => ?_) ht
  subst ex
  obtain rfl : u = Value.ref a := rx
  refine getmeth_ok I1 ea c hm l ?_
  refine PySem.W.callWith_K (first := [.ref a]) (h₀ := X.base) I.ok.mod.kin hm.kp (thn (ha pos pins s1 σ H1 _ I1 q) fun us s2 ⟨vs, H2, I2, r, q2⟩ => ⟨I2.kIn, ?_⟩) hst hpl
  exact run_fn (us := .ref a :: us) (vs := .ref a :: vs) F hr hb hd hx I2 (.cons rfl r) q2
structure Mk (K : PySem.W.Frag) (C f : Addr) : Prop where
  makes : PySem.W.makesIn K C = true
  init : PySem.W.findIn K (.ref C) "__init__" = some (some (.ref f))
  fn : PySem.W.isFn K (.ref f) = true
  kp : PySem.W.keepIn K (.ref C) = true
theorem run_make {pins : List (Addr × Obj)} {σ : St} {H : Hp} {s : Shared} {Q : VK} {us : List Value} {vs : List V} (M : Mk X.K C f) (F : FnOk X.prog X.w X.K X.mg X.base CX k f fd ps sp) (hr : Room (k + 1) X.A) (hb : Binds X.K fd ps ds) (hd : Vals dvs ds)
    (hx : Passes CX X E) (I : Inv X pins σ H s) (r : Vals vs us)
    (h : ∀ x dx, H x = none → H dx = none → dx ≠ x → sp (.ref x :: (vs ++ dvs)) (upd (upd H dx (.own x)) x (.ins C dx [])) (fun v H2 => v = .non ∧ Q (.ref x) H2) E) :
    wpAny (model X.prog X.w) X.A (call (.ref C) us) (EP X pins σ Q) X.xe s := by
  have hq := h (s.heap.objs.size + 1) s.heap.objs.size (I.hok.fresh (Nat.le_succ _)) (I.hok.fresh (Nat.le_refl _)) (Nat.ne_of_lt (Nat.lt_succ_self _))
  have I2 := Inv.made (C := C) I
  have r2 : Vals (V.ref (s.heap.objs.size + 1) :: (vs ++ dvs)) (Value.ref (s.heap.objs.size + 1) :: (us ++ ds)) := .cons rfl (r.append hd)
  have hl : (Value.ref (s.heap.objs.size + 1) :: us ++ ds).length = ps.length := by
    have e := r2.length
    rw [F.len _ _ _ _ hq] at e
    exact e.symm
  refine wpAny_call (make_map (f := f) I.kIn M.makes M.init (beq_iff_eq.mp M.fn) (codeAny_mono (F.run _ X.stack _ _ ⟨Value.ref (s.heap.objs.size + 1) :: us, []⟩ (Value.ref (s.heap.objs.size + 1) :: (us ++ ds)) _ _ E (hr.make C us [])
    (I2.env0.make C us []) (hb _ (Value.ref (s.heap.objs.size + 1) :: us) I2.kIn hl) r2 hq) fun r s' hq' => ?_))
  cases r with
  | error e => exact hx pins σ _ _ e s' I2 hq'
  | ok fl =>
    cases fl with
    | ret u =>
      obtain ⟨v, H', I3, rv, ev, q3⟩ := I2.after hq'
      subst ev
      exact ⟨rv, ⟨V.ref (s.heap.objs.size + 1), H', I3, rfl, q3⟩⟩
    | next => exact False.elim hq'
    | brk => exact False.elim hq'
    | cont => exact False.elim hq'
theorem pe_make (M : Mk X.K C f) (F : FnOk X.prog X.w X.K X.mg X.base CX k f fd ps sp) (hr : Room (k + 1) X.A) (hg : Gl X x) (hm : X.mg x = some (.ref C)) (hb : Binds X.K fd ps ds) (hd : Vals dvs ds) (hx : Passes CX X E)
    (ha : PA X (e :: es) t) (hdb : (x == ("__debug__" : Str)) = false := by decide) (he : starEach (e :: es) X.env = (false, eval e X.env) :: starEach es X.env := by rfl) (hpl : (backTo pos (starEach es X.env)).any (·.1) = false := by rfl) :
    PE X (.Call (.Name x p) (e :: es) [] pos) (tMake C sp dvs E t) := by
  intro pins s σ H Q I h
  refine wpAny_Call_Name_kw (ld_glob I hg hm ?_ hdb)
  refine PySem.W.callWith_K (h₀ := X.base) I.ok.mod.kin M.kp (thn (ha pos pins s σ H _ I h) fun us s1 ⟨vs, H1, I1, r, q⟩ => ⟨I1.kIn, ?_⟩) he hpl
  exact run_make M F hr hb hd hx I1 r q
end
section
variable {X : Cx} {CX : CXT} {k : Nat} {f C : Addr} {fd : FuncData} {ps ks : List Str} {sp : Sp} {E : XK} {x m : Str} {p pos apos kpos : Pos} {e o : Expr} {es : List Expr} {kws : List Keyword} {te ta : TE} {t tk : TA} {nm : Option Str}
variable {g : List Value → List Value → List Value} {gV : List V → List V → List V}
end
structure FnScope (N P : List Str) (sc : Scope) : Prop where
  kind : sc.kind = .function
  co : sc.isCoroutine = false
  gen : sc.isGenerator = false
  nd : N.Nodup
  pre : N.take P.length = P
  par : ∀ x ∈ P, sc.names.lookup x = some .local ∨ sc.names.lookup x = some .cell
  nofree : ∀ y ∈ sc.names, y.2 ≠ .free
theorem bindL_out {kindOf : Str → Option NameKind} {x : Str} : ∀ {binds : List (Str × Value)} {m : Str → Option Value}, (∀ v, (x, v) ∉ binds) → bindL kindOf binds m x = m x
  | [], _, _ => rfl
  | (n, v) :: r, m, h => by
    unfold bindL
    rw [bindL_out fun w hw => h w (List.mem_cons_of_mem _ hw)]
    split
    · have : x ≠ n := by rintro rfl; exact h v List.mem_cons_self
      simp [this]
    · rfl
theorem bindC_out {kindOf : Str → Option NameKind} {x : Str} : ∀ {binds : List (Str × Value)} {m : Str → Option Value}, (∀ v, (x, v) ∉ binds) → bindC kindOf binds m x = m x
  | [], _, _ => rfl
  | (n, v) :: r, m, h => by
    unfold bindC
    rw [bindC_out fun w hw => h w (List.mem_cons_of_mem _ hw)]
    split
    · rfl
    · have : x ≠ n := by rintro rfl; exact h v List.mem_cons_self
      simp [this]
theorem bindL_get {kindOf : Str → Option NameKind} {x : Str} {v : Value} : ∀ {P : List Str} {vs : List Value} {i : Nat} {m : Str → Option Value}, P.Nodup → P[i]? = some x → vs[i]? = some v → kindOf x = some .local →
    bindL kindOf (P.zip vs) m x = some v
  | [], _, _, _, _, h, _, _ => by simp at h
  | _ :: _, [], _, _, _, _, h, _ => by simp at h
  | p :: P, w :: vs, 0, m, nd, h1, h2, hk => by
    simp at h1 h2; subst h1; subst h2
    show bindL kindOf ((p, w) :: P.zip vs) m p = _
    unfold bindL
    rw [bindL_out fun v hv => (List.nodup_cons.mp nd).1 (List.of_mem_zip hv).1, if_pos hk]
    simp
  | p :: P, w :: vs, i + 1, m, nd, h1, h2, hk => by
    show bindL kindOf ((p, w) :: P.zip vs) m x = _
    unfold bindL
    exact bindL_get (i := i) (List.nodup_cons.mp nd).2 (by simpa using h1) (by simpa using h2) hk
theorem bindC_get {kindOf : Str → Option NameKind} {x : Str} {v : Value} : ∀ {P : List Str} {vs : List Value} {i : Nat} {m : Str → Option Value}, P.Nodup → P[i]? = some x → vs[i]? = some v → kindOf x ≠ some .local →
    bindC kindOf (P.zip vs) m x = some v
  | [], _, _, _, _, h, _, _ => by simp at h
  | _ :: _, [], _, _, _, _, h, _ => by simp at h
  | p :: P, w :: vs, 0, m, nd, h1, h2, hk => by
    simp at h1 h2; subst h1; subst h2
    show bindC kindOf ((p, w) :: P.zip vs) m p = _
    unfold bindC
    rw [bindC_out fun v hv => (List.nodup_cons.mp nd).1 (List.of_mem_zip hv).1, if_neg hk]
    simp
  | p :: P, w :: vs, i + 1, m, nd, h1, h2, hk => by
    show bindC kindOf ((p, w) :: P.zip vs) m x = _
    unfold bindC
    exact bindC_get (i := i) (List.nodup_cons.mp nd).2 (by simpa using h1) (by simpa using h2) hk
def start (N : List Str) (vs : List V) : St := vs.map some ++ List.replicate (N.length - vs.length) none
def cxOf (CX : CXT) (P : Program) (w : World) (K : PySem.W.Frag) (mg : Str → Option Value) (base : Heap) (N : List Str) (qual : Str) (scope : Scope) (f : Addr) (cd : Value) (A : Around) (outer : List Env) (s : Shared) (H : Hp) (E : XK) : Cx where
  prog := P
  w := w
  K := K
  mg := mg
  base := base
  A := A.deeper (envOfC qual scope s.heap.objs.size f cd)
  N := N
  s₀ := s
  H₀ := H
  env := envOfC qual scope s.heap.objs.size f cd
  outer := outer
  stack := envOfC qual scope s.heap.objs.size f cd :: outer
  ex := []
  calm := true
  fn := fun _ => true
  pn := []
  xe := fun e s' => wpAny (model P w) (A.deeper (envOfC qual scope s.heap.objs.size f cd)) (leaving (envOfC qual scope s.heap.objs.size f cd) e) (fun _ s'' => CX outer H s E e s'') (fun e' s'' => CX outer H s E e' s'') s'
theorem cell_has {sc : Scope} {n : Nat} {x : Str} (h : sc.names.lookup x = some .cell) : ∃ c, (cellsFrom n sc.names []).lookup x = some c := by
  have q := PySem.W.cellsFrom_some sc.names n [] (.inl h)
  exact Option.isSome_iff_exists.mp q
theorem inv_start {CX : CXT} {P : Program} {w : World} {K : PySem.W.Frag} {mg : Str → Option Value} {base : Heap} {N ps : List Str} {qual : Str} {scope : Scope} {f : Addr} {cd : Value} {A : Around} {outer : List Env} {s s1 : Shared} {H : Hp} {E : XK} {us : List Value} {vs : List V}
    (S : FnScope N ps scope) (hd : A.handled = none) (e0 : Env0 P w K mg base A outer s H) (hl : vs.length = ps.length) (r : Vals vs us)
    (x : InCallC s s.heap.objs.size (bindL (envOfC qual scope s.heap.objs.size f cd).kindOf (ps.zip us) fun _ => none) (cellsFrom (s.heap.objs.size + 1) scope.names []) (bindC (envOfC qual scope s.heap.objs.size f cd).kindOf (ps.zip us) fun _ => none) s1) :
    Inv (cxOf CX P w K mg base N qual scope f cd A outer s H E) [] (start N vs) H s1 := by
  have hpl : ps.length ≤ N.length := by have := congrArg List.length S.pre; rw [List.length_take] at this; omega
  obtain ⟨h1, tk, rfl, hk⟩ := x.done
  have noA : ∀ b : Addr, b ∉ (cxOf CX P w K mg base N qual scope f cd A outer s H E).ex := fun b z => absurd (show b ∈ ([] : List Addr) from z) (by simp)
  refine ⟨⟨e0.mod, S.kind, rfl, rfl, Nat.le_refl _, fun y z c h1 h2 => ?_, fun y hy => ?_, fun y c _ h => ?_, fun _ => hd, Around.frames_deeper e0.frames, .inr ⟨rfl, rfl⟩, fun b z => absurd z (noA b), e0.bs, e0.bsz, fun b _ _ => noA b, fun b z => absurd z (noA b), e0.funs, e0.frf⟩,
    rfl, e0.bare, Un.kept hk, ⟨_, x.toInCall.ns, fun i y v h1 h2 h3 => ?_⟩, fun y c h => ⟨_, x.cell y c h⟩, e0.hok.fresh (Nat.le_refl _), fun y c h => ?_, fun p hp => absurd (show p ∈ ([] : List (Addr × Obj)) from hp) (by simp), e0.hok.kept hk, ?_⟩
  · exact name_of_addr x.apart (PySem.mem_of_lookup h1) (PySem.mem_of_lookup h2)
  · have hy : scope.names.lookup y = some .cell ∨ scope.names.lookup y = some .free := hy
    rcases hy with hy | hy
    · exact cell_has hy
    · exact absurd rfl (S.nofree _ (PySem.mem_of_lookup hy))
  · exact Nat.le_of_lt (x.above y c (PySem.mem_of_lookup h))
  · have hi : i < vs.length := by
      unfold start at h2
      by_cases hi : i < vs.length
      · exact hi
      · rw [List.getElem?_append_right (by simpa using hi)] at h2
        rw [List.getElem?_replicate] at h2
        split at h2 <;> cases h2
    have ha : vs[i]? = some v := by
      unfold start at h2
      rw [List.getElem?_append_left (by simpa using hi), List.getElem?_map] at h2
      cases e : vs[i]? with
      | none => rw [e] at h2; cases h2
      | some a => rw [e] at h2; cases h2; rfl
    obtain ⟨u, hu, rv⟩ := r.get ha
    have hp : ps[i]? = some y := by
      rw [← S.pre, List.getElem?_take_of_lt (by omega)]; exact h1
    have ndP : ps.Nodup := by rw [← S.pre]; exact S.nd.sublist (List.take_sublist _ _)
    refine ⟨u, rv, ?_⟩
    rcases S.par y (List.mem_of_getElem? hp) with k | k
    · exact .inl ⟨k, bindL_get ndP hp hu k⟩
    · obtain ⟨c, e⟩ := cell_has (n := s.heap.objs.size + 1) k
      refine .inr ⟨.inl k, c, e, ?_⟩
      have q := x.cell y c e
      rw [bindC_get ndP hp hu (by show scope.names.lookup y ≠ _; rw [k]; decide)] at q
      exact q
  · exact e0.hok.fresh (Nat.le_of_lt (x.above y c (PySem.mem_of_lookup h)))
  · unfold start
    show _ = N.length
    rw [List.length_append, List.length_map, List.length_replicate]
    omega
theorem fn_of {CX : CXT} {P : Program} {w : World} {K : PySem.W.Frag} {mg : Str → Option Value} {base : Heap} {k : Nat} {f : Addr} {name qual : Str} {params : Arguments} {body : List Stmt} {scope : Scope} {dV kV doc pm cdv ct oc : Value} {an od : Option Addr}
    {osl : Array (Option Value)} {N ps : List Str} {sp : Sp} (lk : K.lookup f = some ⟨oc, od, .func (PySem.W.fnOf name qual params body scope dV kV doc pm an cdv ct), osl⟩) (hcd : PySem.W.codeIn K cdv qual = true) (S : FnScope N ps scope)
    (len : ∀ vs H Q E, sp vs H Q E → vs.length = ps.length)
    (hbody : ∀ (A : Around) (outer : List Env) (s : Shared) (H : Hp) (vs : List V) (Q : VK) (E : XK), Room k (A.deeper (envOfC qual scope s.heap.objs.size f cdv)) → sp vs H Q E →
      ∃ t, PSs (cxOf CX P w K mg base N qual scope f cdv A outer s H E) body t ∧ t { nx := fun _ H' => Q .non H', rt := Q } (start N vs) H) :
    FnOk P w K mg base CX (k + 1) f (PySem.W.fnOf name qual params body scope dV kV doc pm an cdv ct) ps sp := by
  refine ⟨len, fun A outer s H args us vs Q E hr e0 hb r hsp => ?_⟩
  have hl := len _ _ _ _ hsp
  have KX : K.In s.heap := e0.mod.kin.keeps fun b o e => (e0.bs b o e).1
  have lim : s.heap.NoLimit := e0.mod.nolimit.keeps fun b o e => (e0.bs b o e).1
  have hkind : ∀ y ∈ ps.zip us, scope.names.lookup y.1 = some .local ∨ (scope.names.lookup y.1 = some .cell ∧ ((cellsFrom (s.heap.objs.size + 1) scope.names []).lookup y.1).isSome = true) := fun ⟨n, v⟩ hy => by
    rcases S.par n (List.of_mem_zip hy).1 with q | q
    · exact .inl q
    · exact .inr ⟨q, PySem.W.cellsFrom_some _ _ _ (.inl q)⟩
  refine codeAny_call_function hr.depth (KX _ _ lk) rfl S.co S.gen rfl (PySem.W.codeRec_of KX hcd) (hb _ _ _ _ ?_)
  refine wpAny_newFunctionEnv_cells S.kind hkind fun env he s1 x => ?_
  subst he
  refine ⟨lim.keeps x.toInCall.keep, codeAny_func ?_⟩
  obtain ⟨t, ht, hq⟩ := hbody A outer s H vs Q E (hr.deeper _) hsp
  have I : Inv (cxOf CX P w K mg base N qual scope f cdv A outer s H E) [] (start N vs) H s1 := inv_start S hr.hd e0 hl r x
  refine wpAny_mono (ht [] s1 (start N vs) H _ I hq) (fun fl s' hs => ?_) fun e s' hs => hs
  have fin : ∀ {σ' : St} {H' : Hp} {v : V} {u : Value}, Inv (cxOf CX P w K mg base N qual scope f cdv A outer s H E) [] σ' H' s' → RelV v u → Q v H' → CE outer P w H s Q u s' :=
    fun {σ' H' v u} J rv q => ⟨v, H', J.os, J.bare, J.base, J.hok, rv, q⟩
  cases fl with
  | ret u =>
    obtain ⟨v, σ', H', J, rv, q⟩ := hs
    exact fin J rv q
  | next =>
    obtain ⟨σ', H', J, q⟩ := hs
    exact fin (v := V.non) (u := Value.none) J rfl q
  | brk =>
    obtain ⟨_, _, _, q⟩ := hs
    exact False.elim q
  | cont =>
    obtain ⟨_, _, _, q⟩ := hs
    exact False.elim q
end L2
namespace L2
open PySem PySem.Spec PyProof.Rows
section
variable {X : Cx} {x : Str} {p pos : Pos} {e : Expr} {es : List Expr} {t : TA} {id T : String} {r : List V → Hp → VK → Prop}
def tCB (r : List V → Hp → VK → Prop) (t : TA) : TE := fun σ H Q => t σ H fun vs H1 => r vs H1 Q
theorem pe_callB (hc : CallR X (.builtin id) r) (hg : Gl X x) (hm : X.mg x = none) (hv : bootBuiltins x = some (.builtin id)) (ha : PA X (e :: es) t) (hn : x ≠ "__name__" := by decide) (hdb : (x == ("__debug__" : Str)) = false := by decide)
    (he : starEach (e :: es) X.env = (false, eval e X.env) :: starEach es X.env := by rfl) (hpl : (backTo pos (starEach es X.env)).any (·.1) = false := by rfl) : PE X (.Call (.Name x p) (e :: es) [] pos) (tCB r t) := by
  intro pins s σ H Q I h
  refine wpAny_Call_Name_kw (ld_blt I hg hm hv ?_ hn hdb)
  exact PyProof.Rows.callWith_builtin1 (thn (ha pos pins s σ H _ I h) fun us s1 ⟨vs, H1, I1, r1, q1⟩ => hc pins s1 σ H1 vs us Q I1 r1 q1) he hpl
theorem pe_callTy (hc : CallR X (.type T) r) (hg : Gl X x) (hm : X.mg x = none) (hv : bootBuiltins x = some (.type T)) (ha : PA X (e :: es) t) (hn : x ≠ "__name__" := by decide) (hdb : (x == ("__debug__" : Str)) = false := by decide)
    (he : starEach (e :: es) X.env = (false, eval e X.env) :: starEach es X.env := by rfl) (hpl : (backTo pos (starEach es X.env)).any (·.1) = false := by rfl) : PE X (.Call (.Name x p) (e :: es) [] pos) (tCB r t) := by
  intro pins s σ H Q I h
  refine wpAny_Call_Name_kw (ld_blt I hg hm hv ?_ hn hdb)
  exact PyProof.Rows.callWith_type1 (thn (ha pos pins s σ H _ I h) fun us s1 ⟨vs, H1, I1, r1, q1⟩ => hc pins s1 σ H1 vs us Q I1 r1 q1) he hpl
end
end L2
namespace HT
open PySem PyProof.Rows
section
open PySem.SeqAt
open PySem.AutoSeq1 (wpAny_loadPart')
open PySem.MeetsSeq PySem.MeetsSeq2 PySem.MeetsSeq3
end
section
variable {prog : Program} {w : World} {A : Around} {E : Value → Shared → Prop} {s : Shared}
def sIx (n d : Nat) : Option Int → Nat
  | none => d
  | some v => if v < 0 then (v + (n : Int)).toNat else min v.toNat n
theorem sIx_nat (n d k : Nat) : sIx n d (some (k : Int)) = min k n := by
  show (if (k : Int) < 0 then ((k : Int) + (n : Int)).toNat else min (k : Int).toNat n) = min k n
  rw [if_neg (by omega), Int.toNat_natCast]
end
end HT
namespace L2
open PySem PySem.Spec PyProof.Rows
abbrev TO := St → Hp → (Option Int → Hp → Prop) → Prop
def PO (X : Cx) (e : Option Expr) (t : TO) : Prop :=
  ∀ (pins : List (Addr × Obj)) (s : Shared) (σ : St) (H : Hp) (Q : Option Int → Hp → Prop), Inv X pins σ H s → t σ H Q →
    wpAny (model X.prog X.w) X.A (evalPart e X.env) (fun u s' => ∃ o H', Inv X pins σ H' s' ∧ IsPart u o ∧ Q o H') X.xe s
def tNoPart : TO := fun _ H Q => Q none H
def tPart (t : TE) : TO := fun σ H Q => t σ H fun x H1 => ∃ i, x = .int i ∧ Q (some i) H1
theorem intsAre_of {ns : List Int} : ∀ {us : List Value}, Vals (ns.map V.int) us → IntsAre us ns := by
  induction ns with
  | nil => intro us r; rw [List.map_nil] at r; cases r; exact .nil
  | cons n ns ih =>
    intro us r
    rw [List.map_cons] at r
    cases r with
    | cons r1 r2 =>
      obtain ⟨t, e⟩ := r1
      subst e
      exact .cons n t (ih r2)
section
variable {X : Cx} {e : Expr} {te : TE} {lo hi : Option Expr} {tl th : TO} {pos p2 : Pos}
theorem po_none : PO X none tNoPart := by
  intro pins s σ H Q I h
  rw [evalPart_none]
  exact wpAny_pure ⟨none, H, I, .none, h⟩
theorem po_some (h : PE X e te) : PO X (some e) (tPart te) := by
  intro pins s σ H Q I hw
  rw [evalPart_some]
  refine thn (h pins s σ H _ I hw) fun u s1 ⟨x, H1, I1, r1, q1⟩ => ?_
  obtain ⟨i, rfl, q⟩ := q1
  obtain ⟨t, rfl⟩ := r1
  exact ⟨some i, H1, I1, .int i t, q⟩
def SlR (X : Cx) (r : V → Option Int → Option Int → Hp → VK → Prop) : Prop :=
  ∀ (pins : List (Addr × Obj)) (s : Shared) (σ : St) (H : Hp) (x : V) (v vl vu : Value) (lo hi : Option Int) (sl : Addr) (Q : VK), Inv X pins σ H s → RelV x v → s.heap.IsSliceOf sl vl vu .none → IsPart vl lo → IsPart vu hi → r x lo hi H Q →
    ∃ T id, typeLookup (.type T) "__getitem__" = pure (some (.builtin id)) ∧ s.TypeIs v T ∧ wpAny (model X.prog X.w) X.A (getItem v (.ref sl)) (EP X pins σ Q) X.xe s
def tSl (r : V → Option Int → Option Int → Hp → VK → Prop) (te : TE) (tl th : TO) : TE := fun σ H Q => te σ H fun x H1 => tl σ H1 fun l H2 => th σ H2 fun u H3 => r x l u H3 Q
theorem pe_slice {r : V → Option Int → Option Int → Hp → VK → Prop} (hr : SlR X r) (he : PE X e te) (hl : PO X lo tl) (hu : PO X hi th) : PE X (.Subscript e (.Slice lo hi none p2) pos) (tSl r te tl th) := by
  intro pins s σ H Q I h
  refine Subscript_ (thn (he pins s σ H _ I h) fun v s1 ⟨x, H1, I1, r1, q1⟩ => ?_)
  refine wpAny_Slice (thn (hl pins s1 σ H1 _ I1 q1) fun vl s2 ⟨l, H2, I2, pl, q2⟩ => thn (hu pins s2 σ H2 _ I2 q2) fun vu s3 ⟨u, H3, I3, pu, q3⟩ => ?_)
  rw [evalPart_none]
  refine wpAny_pure ?_
  have I4 : Inv X pins σ H3 { s3 with heap := s3.heap.push { cls := .type "slice", data := .fields #[vl, vu, .none] } } := I3.kept (t' := s3.toks) fun b ob q => Heap.get?_push_of_some _ q
  obtain ⟨T, id, hT, ht, hg⟩ := hr pins { s3 with heap := s3.heap.push { cls := .type "slice", data := .fields #[vl, vu, .none] } } σ H3 x v vl vu l u s3.heap.objs.size Q I4 r1 (Heap.IsSliceOf.new ..) pl pu q3
  show wpAny (model X.prog X.w) X.A (subscriptTail e (.Slice lo hi none p2) v (.ref s3.heap.objs.size)) (EP X pins σ Q) X.xe { s3 with heap := s3.heap.push { cls := .type "slice", data := .fields #[vl, vu, .none] } }
  exact tail_any (ops := [.ref s3.heap.objs.size, v]) ht hT hg (by with_unfolding_all rfl)
def cutV (xs : List V) (lo hi : Option Int) : List V := (xs.drop (HT.sIx xs.length 0 lo)).take (HT.sIx xs.length xs.length hi - HT.sIx xs.length 0 lo)
theorem cutV_length (xs : List V) (lo hi : Option Int) : (cutV xs lo hi).length ≤ xs.length := by
  unfold cutV
  rw [List.length_take, List.length_drop]
  omega
end
end L2
namespace L2
open PySem PySem.Spec PyProof.Rows
def ixN (n : Nat) (i : Int) : Option Nat := if 0 ≤ i then (if i < n then some i.toNat else none) else if -(n : Int) ≤ i then some (i + n).toNat else none
def atI {α : Type} (xs : List α) (i : Int) : Option α := (ixN xs.length i).bind fun j => xs[j]?
theorem ixN_seq {n : Nat} {i : Int} {j : Nat} (h : ixN n i = some j) : seqIndex? i n = some j ∧ j < n ∧ -(n : Int) ≤ i ∧ i < n := by
  unfold ixN at h
  by_cases h0 : 0 ≤ i
  · rw [if_pos h0] at h
    by_cases h1 : i < n
    · rw [if_pos h1] at h
      have e : i.toNat = j := Option.some.inj h
      exact ⟨by rw [seqIndex_of h0 h1, e], by omega, by omega, h1⟩
    · rw [if_neg h1] at h; cases h
  · rw [if_neg h0] at h
    by_cases h1 : -(n : Int) ≤ i
    · rw [if_pos h1] at h
      have e : (i + n).toNat = j := Option.some.inj h
      exact ⟨by rw [seqIndex_neg (by omega) h1, e], by omega, h1, by omega⟩
    · rw [if_neg h1] at h; cases h
theorem atI_get {α : Type} {xs : List α} {i : Int} {v : α} (h : atI xs i = some v) : ∃ j, seqIndex? i xs.length = some j ∧ xs[j]? = some v ∧ j < xs.length ∧ -(xs.length : Int) ≤ i ∧ i < xs.length := by
  unfold atI at h
  cases e : ixN xs.length i with
  | none => rw [e] at h; cases h
  | some j =>
    rw [e] at h
    obtain ⟨h1, h2, h3, h4⟩ := ixN_seq e
    exact ⟨j, h1, h, h2, h3, h4⟩
theorem atI_nat {α : Type} {xs : List α} {j : Nat} {v : α} (h : xs[j]? = some v) : atI xs (j : Int) = some v := by
  have hj : j < xs.length := (List.getElem?_eq_some_iff.mp h).1
  have e : ixN xs.length (j : Int) = some j := by
    unfold ixN
    rw [if_pos (by omega), if_pos (by omega)]; simp
  unfold atI; rw [e]; exact h
def PlainIx (b : Expr) : Prop := ∀ o i, subscripted b false o i = operate [o, i] (getItem o i)
def IxR (X : Cx) (r : R2) : Prop :=
  ∀ (value slice : Expr) (pins : List (Addr × Obj)) (s : Shared) (σ : St) (H : Hp) (x y : V) (v u : Value) (Q : VK), Inv X pins σ H s → RelV x v → RelV y u → r x y H Q →
    subscripted slice false v u = operate [v, u] (getItem v u) → wpAny (model X.prog X.w) X.A (subscriptTail value slice v u) (EP X pins σ Q) X.xe s
def MtR (X : Cx) (id : String) (r : V → List V → Hp → VK → Prop) : Prop :=
  ∀ (pins : List (Addr × Obj)) (s : Shared) (σ : St) (H : Hp) (x : V) (xs : List V) (v : Value) (us : List Value) (Q : VK), Inv X pins σ H s → RelV x v → Vals xs us → r x xs H Q →
    wpAny (model X.prog X.w) X.A (call (.builtin id) (v :: us)) (EP X pins σ Q) X.xe s
section
variable {X : Cx} {a b : Expr} {ta tb : TE} {pos : Pos}
theorem pe_ix {r : R2} (hr : IxR X r) (ha : PE X a ta) (hb : PE X b tb) (hs : PlainIx b) : PE X (.Subscript a b pos) (tOp r ta tb) := by
  intro pins s σ H Q I h
  exact Subscript_ (binT ha hb I h fun v u s2 x y H2 I2 rx ry q => hr a b pins s2 σ H2 x y v u Q I2 rx ry q (hs _ _))
def rIxL (K : PySem.W.Frag) : R2 := fun x y H Q => ∃ p xs i v, x = .ref p ∧ y = .int i ∧ SqL K H p xs ∧ atI xs i = some v ∧ Q v H
def rIxT (K : PySem.W.Frag) : R2 := fun x y H Q => ∃ p xs i v, x = .ref p ∧ y = .int i ∧ SqT K H p xs ∧ atI xs i = some v ∧ Q v H
theorem ix_list : IxR X (rIxL X.K) := by
  intro value slice pins s σ H x y v u Q I rx ry h hs
  obtain ⟨p, xs, i, z, rfl, rfl, hq, he, q⟩ := h
  cases rx
  obtain ⟨t, rfl⟩ := ry
  obtain ⟨its, r, pl, hz⟩ := I.list hq
  obtain ⟨j, h1, h2, h3, h4, h5⟩ := atI_get he
  obtain ⟨w, ew, rw'⟩ := r.get h2
  have hl := r.length
  have hn := line63
  have fin : EP X pins σ Q w s := ⟨z, H, I, rw', q⟩
  by_cases h0 : 0 ≤ i
  · have hj : i.toNat = j := by
      rw [seqIndex_of h0 h5] at h1
      exact Option.some.inj h1
    exact item_listR pl.isList h0 (by omega) (by rw [hj]; simpa using ew) fin hs
  · have hj : (i + (its.toArray.size : Int)).toNat = j := by
      rw [seqIndex_neg (by omega) h4] at h1
      rw [List.size_toArray, ← hl]
      exact Option.some.inj h1
    exact subscriptTail_builtinR (x := w) pl.isList.typeIs slot_list_getitem.lookup
      (wpAny_getItem_list_neg (Q := fun r s' => r = w ∧ EP X pins σ Q r s') pl.isList (by omega) (by rw [List.size_toArray] <;> omega) (by omega) (by rw [hj]; simpa using ew) ⟨rfl, fin⟩) hs
theorem ix_tup : IxR X (rIxT X.K) := by
  intro value slice pins s σ H x y v u Q I rx ry h hs
  obtain ⟨p, xs, i, z, rfl, rfl, hq, he, q⟩ := h
  cases rx
  obtain ⟨t, rfl⟩ := ry
  obtain ⟨its, r, pl, hz⟩ := I.tuple hq
  obtain ⟨j, h1, h2, h3, h4, h5⟩ := atI_get he
  obtain ⟨w, ew, rw'⟩ := r.get h2
  have hl := r.length
  have hn := line63
  have fin : EP X pins σ Q w s := ⟨z, H, I, rw', q⟩
  exact subscriptTail_builtinR (x := w) pl.typeIs slot_tuple_getitem.lookup
    (getItem_tuple (j := j) (Q := fun r s' => r = w ∧ EP X pins σ Q r s') pl (by omega) (by omega) (by rw [List.size_toArray, ← hl]; exact h1) (by simpa using ew) ⟨rfl, fin⟩) hs
theorem mapSeq_set (its : List Value) (n j : Nat) (u : Value) : Obj.mapSeq (·.setIfInBounds j u) { cls := .type "list", data := .seq its.toArray n } = { cls := .type "list", data := .seq (its.set j u).toArray n } := by
  simp [Obj.mapSeq]
theorem Inv.lst {pins : List (Addr × Obj)} {σ : St} {H : Hp} {s : Shared} {p : Addr} {xs : List V} (I : Inv X pins σ H s) (h : H p = some (.lst xs)) :
    ∃ (its : List Value) (n : Nat), Vals xs its ∧ s.heap.get? p = some { cls := .type "list", data := .seq its.toArray n } ∧ xs.length ≤ sizeLine := by
  obtain ⟨z, its, n, r, e⟩ := I.hok p _ h
  exact ⟨its, n, r, e, z⟩
theorem Inv.lstUpd {pins : List (Addr × Obj)} {σ : St} {H : Hp} {s : Shared} {p : Addr} {xs ys : List V} {its its' : List Value} {n n' : Nat} {f : Obj → Obj} (I : Inv X pins σ H s) (h : H p = some (.lst xs))
    (ho : s.heap.get? p = some { cls := .type "list", data := .seq its.toArray n }) (hf : f { cls := .type "list", data := .seq its.toArray n } = { cls := .type "list", data := .seq its'.toArray n' }) (r : Vals ys its') (hz : ys.length ≤ sizeLine) (t : Nat) :
    Inv X pins σ (upd H p (.lst ys)) { s with heap := s.heap.update p f, toks := t } := by
  have e : (s.heap.update p f).get? p = some { cls := .type "list", data := .seq its'.toArray n' } := by
    rw [Heap.get?_update_self f ho (by rw [hf] <;> rfl), hf]
  refine I.write (x := p) (e := p) (by rw [h]; trivial) (.inl rfl) (fun b u hb q => (Heap.get?_update_other _ _ (Ne.symm hb)).trans q) ⟨_, e⟩ ?_
  exact ⟨hz, its', n', r, e⟩
def rSetL : V → V → V → Hp → (Hp → Prop) → Prop := fun o i v H Q => ∃ p xs k j, o = .ref p ∧ i = .int k ∧ H p = some (.lst xs) ∧ ixN xs.length k = some j ∧ Q (upd H p (.lst (xs.set j v)))
theorem set_list : PSet X rSetL := by
  intro pins s σ H o i v ov iv u Q I ro ri rv h
  obtain ⟨p, xs, k, j, rfl, rfl, hp, hj, q⟩ := h
  cases ro
  obtain ⟨t, rfl⟩ := ri
  obtain ⟨its, n, r, ho, hz⟩ := I.lst hp
  obtain ⟨h1, h2, h3, h4⟩ := ixN_seq hj
  have hl := r.length
  have hn := line63
  have I' : Inv X pins σ (upd H p (.lst (xs.set j v))) { s with heap := s.heap.update p (Obj.mapSeq (·.setIfInBounds j u)) } :=
    I.lstUpd hp ho (mapSeq_set its n j u) (r.set rv j) (by rw [List.length_set]; exact hz) s.toks
  by_cases h0 : 0 ≤ k
  · have hk : k.toNat = j := by
      rw [seqIndex_of h0 h4] at h1
      exact Option.some.inj h1
    exact PySem.W.ki_setAt ho h0 (by omega) (by rw [List.size_toArray, ← hl]; exact h4) (by rw [hk]; exact ⟨_, I', q⟩)
  · have hk : (k + (its.toArray.size : Int)).toNat = j := by
      rw [seqIndex_neg (by omega) h3] at h1
      rw [List.size_toArray, ← hl]
      exact Option.some.inj h1
    exact PySem.W.ki_setBack ho (by omega) (by rw [List.size_toArray, ← hl]; exact h3) (by omega) (by rw [hk]; exact ⟨_, I', q⟩)
theorem slice_bounds (lo hi : Option Int) (n : Nat) : (sliceBounds lo hi none n).1 = ((HT.sIx n 0 lo : Nat) : Int) ∧ (sliceBounds lo hi none n).2.1 = ((HT.sIx n n hi : Nat) : Int) ∧ (sliceBounds lo hi none n).2.2 = 1 := by
  refine ⟨?_, ?_, rfl⟩
  · cases lo with
    | none => simp [sliceBounds, HT.sIx]
    | some i =>
      simp only [sliceBounds, HT.sIx, Option.getD_none, show (1 : Int) > 0 by decide, if_true]
      by_cases h : i < 0
      · simp only [h, if_true] <;> omega
      · simp only [h, if_false] <;> omega
  · cases hi with
    | none => simp [sliceBounds, HT.sIx]
    | some i =>
      simp only [sliceBounds, HT.sIx, Option.getD_none, show (1 : Int) > 0 by decide, if_true]
      by_cases h : i < 0
      · simp only [h, if_true] <;> omega
      · simp only [h, if_false] <;> omega
theorem slicePick_cut (its : List Value) (lo hi : Option Int) : slicePick its.toArray lo hi none = ((its.drop (HT.sIx its.length 0 lo)).take (HT.sIx its.length its.length hi - HT.sIx its.length 0 lo)).toArray := by
  obtain ⟨h1, h2, h3⟩ := slice_bounds lo hi its.toArray.size
  unfold slicePick
  rw [h1, h2, h3]
  simp only [sliceRange_one, pick_run, List.size_toArray] <;> rfl
def rSlL (K : PySem.W.Frag) : V → Option Int → Option Int → Hp → VK → Prop := fun x lo hi H Q => ∃ a xs, x = .ref a ∧ SqL K H a xs ∧ ∀ p, H p = none → Q (.ref p) (upd H p (.lst (cutV xs lo hi)))
theorem sl_list : SlR X (rSlL X.K) := by
  intro pins s σ H x v vl vu lo hi sl Q I rx hs pl pu h
  obtain ⟨a, xs, rfl, hx, q⟩ := h
  cases rx
  obtain ⟨its, r, ht, hz⟩ := I.list hx
  have hlen := r.length
  refine ⟨"list", _, slot_list_getitem.lookup, ht.isList.typeIs, ?_⟩
  refine wpAny_getItem_list_slice ht.isList hs pl pu .none (by simp) ?_ (by rw [List.size_toArray] <;> omega)
  rw [slicePick_cut, ← hlen]
  refine ⟨.ref s.heap.objs.size, _, I.laid (t' := s.toks) (o := .lst (cutV xs lo hi)) (fun b ob q => Heap.get?_push_of_some _ q) (Nat.le_refl _) ?_, rfl, q _ (I.hok.fresh (Nat.le_refl _))⟩
  exact ⟨Nat.le_trans (cutV_length xs lo hi) hz, _, 0, (r.drop (HT.sIx xs.length 0 lo)).take (HT.sIx xs.length xs.length hi - HT.sIx xs.length 0 lo), Heap.get?_push_size _ rfl⟩
def flatV : V → Bool
  | .non => true
  | .bl _ => true
  | .int _ => true
  | .str _ => true
  | _ => false
def eqV : V → V → Bool
  | .non, .non => true
  | .bl a, .bl b => a == b
  | .bl a, .int b => (if a then 1 else 0) == b
  | .int a, .bl b => a == (if b then 1 else 0)
  | .int a, .int b => a == b
  | .str a, .str b => a == b
  | _, _ => false
theorem eqAt_V {A : Around} {s : Shared} {y x : V} {u v : Value} (ry : RelV y u) (rx : RelV x v) (fy : flatV y = true) (fx : flatV x = true) : SeqAt.EqAt A s u v (eqV y x) := by
  cases y with
  | non =>
    cases ry
    cases x with
    | non => cases rx; exact SeqAt.EqAt.same _
    | bl b => cases rx; exact SeqAt.EqAt.none_bool b
    | int b => obtain ⟨t, rfl⟩ := rx; exact SeqAt.EqAt.none_int b t
    | str b => obtain ⟨t, rfl⟩ := rx; exact SeqAt.EqAt.none_str b t
    | _ => exact absurd (show false = true from fx) Bool.false_ne_true
  | bl a =>
    cases ry
    cases x with
    | non => cases rx; exact SeqAt.EqAt.bool_none a
    | bl b => cases rx; exact SeqAt.EqAt.bool_bool a b
    | int b => obtain ⟨t, rfl⟩ := rx; exact SeqAt.EqAt.bool_int a b t
    | str b => obtain ⟨t, rfl⟩ := rx; exact SeqAt.EqAt.bool_str a b t
    | _ => exact absurd (show false = true from fx) Bool.false_ne_true
  | int a =>
    obtain ⟨t', rfl⟩ := ry
    cases x with
    | non => cases rx; exact SeqAt.EqAt.int_none a t'
    | bl b => cases rx; exact SeqAt.EqAt.int_bool a t' b
    | int b => obtain ⟨t, rfl⟩ := rx; exact SeqAt.EqAt.int_int a t' b t
    | str b => obtain ⟨t, rfl⟩ := rx; exact SeqAt.EqAt.int_str a t' b t
    | _ => exact absurd (show false = true from fx) Bool.false_ne_true
  | str a =>
    obtain ⟨t', rfl⟩ := ry
    cases x with
    | non => cases rx; exact SeqAt.EqAt.str_none a t'
    | bl b => cases rx; exact SeqAt.EqAt.str_bool a t' b
    | int b => obtain ⟨t, rfl⟩ := rx; exact SeqAt.EqAt.str_int a t' b t
    | str b => obtain ⟨t, rfl⟩ := rx; exact SeqAt.EqAt.str_str a t' b t
    | _ => exact absurd (show false = true from fx) Bool.false_ne_true
  | _ => exact absurd (show false = true from fy) Bool.false_ne_true
def eqU (x : V) (u : Value) : Bool := match u with
  | .none => eqV .non x
  | .bool b => eqV (.bl b) x
  | .int i _ => eqV (.int i) x
  | .str z _ => eqV (.str z) x
  | _ => false
theorem eqU_of {x y : V} {u : Value} (r : RelV y u) (f : flatV y = true) : eqU x u = eqV y x := by
  cases y with
  | non => cases r; rfl
  | bl b => cases r; rfl
  | int i => obtain ⟨t, rfl⟩ := r; rfl
  | str z => obtain ⟨t, rfl⟩ := r; rfl
  | _ => exact absurd (show false = true from f) Bool.false_ne_true
theorem any_eqU {x : V} : ∀ {xs : List V} {us : List Value}, Vals xs us → xs.all flatV = true → us.any (eqU x) = xs.any fun y => eqV y x
  | _, _, .nil, _ => rfl
  | y :: xs, u :: us, .cons r t, f => by
    rw [List.all_cons, Bool.and_eq_true] at f
    rw [List.any_cons, List.any_cons, eqU_of r f.1, any_eqU t f.2]
theorem mem_eqAt {A : Around} {s : Shared} {x : V} {v : Value} (rx : RelV x v) (fx : flatV x = true) : ∀ {xs : List V} {us : List Value}, Vals xs us → xs.all flatV = true → ∀ u ∈ us, SeqAt.EqAt A s u v (eqU x u)
  | _, _, .nil, _ => fun u hu => by cases hu
  | y :: xs, u :: us, .cons r t, f => fun u' hu => by
    rw [List.all_cons, Bool.and_eq_true] at f
    rcases List.mem_cons.mp hu with rfl | hu
    · rw [eqU_of r f.1]; exact eqAt_V r rx f.1 fx
    · exact mem_eqAt rx fx t f.2 u' hu
def inV (x : V) (xs : List V) : Bool := xs.any fun y => eqV y x
def rIn (K : PySem.W.Frag) (neg : Bool) : R2 := fun x y H Q => ∃ p xs, y = .ref p ∧ (SqL K H p xs ∨ SqT K H p xs) ∧ flatV x = true ∧ xs.all flatV = true ∧ Q (.bl (if neg then !inV x xs else inV x xs)) H
theorem op_in_seq : OpR X (compareOp .In) (rIn X.K false) := by
  intro pins s σ H x y v u Q I rx ry h
  obtain ⟨p, xs, rfl, hq, fx, fs, q⟩ := h
  cases ry
  rcases hq with hq | hq
  · obtain ⟨its, r, pl, hz⟩ := I.list hq
    refine SeqAt.in_listAt (eqU x) pl.isList (fun w hw => mem_eqAt rx fx r fs w (by simpa using hw)) ⟨.bl _, H, I, rfl, ?_⟩
    rw [show its.toArray.any (eqU x) = its.any (eqU x) by simp, any_eqU r fs]
    exact q
  · obtain ⟨its, r, pl, hz⟩ := I.tuple hq
    refine SeqAt.in_tupleAt (eqU x) pl (fun w hw => mem_eqAt rx fx r fs w (by simpa using hw)) ⟨.bl _, H, I, rfl, ?_⟩
    rw [show its.toArray.any (eqU x) = its.any (eqU x) by simp, any_eqU r fs]
    exact q
theorem call_len_seq : CallR X (.builtin "len") (fun xs H Q => ∃ p ys, xs = [.ref p] ∧ (SqL X.K H p ys ∨ SqT X.K H p ys) ∧ Q (.int ys.length) H) := by
  intro pins s σ H xs us Q I r h
  obtain ⟨p, ys, rfl, hq, q⟩ := h
  obtain ⟨u, rfl, rx⟩ := vals1 r
  cases rx
  have hn := line63
  rcases hq with hq | hq
  · obtain ⟨its, r', pl, hz⟩ := I.list hq
    have hlen := r'.length
    exact Calls.call_len_list pl.isList (by simp only [List.size_toArray] <;> omega) ⟨.int ys.length, H, I.tok _, ⟨s.toks + 1, by rw [List.size_toArray, hlen]⟩, q⟩
  · obtain ⟨its, r', pl, hz⟩ := I.tuple hq
    have hlen := r'.length
    exact len_tuple pl (by simp only [List.size_toArray] <;> omega) ⟨.int ys.length, H, I.tok _, ⟨s.toks + 1, by rw [List.size_toArray, hlen]⟩, q⟩
theorem call_list_of : CallR X (.type "list") (fun xs H Q => ∃ p ys, xs = [.ref p] ∧ (SqL X.K H p ys ∨ SqT X.K H p ys) ∧ ∀ l, H l = none → Q (.ref l) (upd H l (.lst ys))) := by
  intro pins s σ H xs us Q I r h
  obtain ⟨p, ys, rfl, hq, q⟩ := h
  obtain ⟨u, rfl, rx⟩ := vals1 r
  cases rx
  have fin : ∀ (its : List Value), Vals ys its → ys.length ≤ sizeLine → ∀ (h' : Heap) (c' : Nat), (∀ b o', s.heap.get? b = some o' → h'.get? b = some o') →
      h'.get? s.heap.objs.size = some { cls := .type "list", dict := none, data := .seq its.toArray c', slots := #[] } → EP X pins σ Q (.ref s.heap.objs.size) { s with heap := h' } := fun its r' hz h' c' kp e =>
    ⟨.ref s.heap.objs.size, _, I.laid (t' := s.toks) kp (Nat.le_refl _) (show ObjOk X.prog X.w _ h' _ (.lst ys) from ⟨hz, its, c', r', e⟩), rfl, q _ (I.hok.fresh (Nat.le_refl _))⟩
  rcases hq with hq | hq
  · obtain ⟨its, r', pl, hz⟩ := I.list hq
    have hlen := r'.length
    obtain ⟨o, ho, hc, n, hd⟩ := pl.isList
    exact call_list_seq p (.inl rfl) ho hc hd (fun h' c' kp e => fin its r' hz h' c' kp e) (by simp only [List.size_toArray] <;> omega)
  · obtain ⟨its, r', pl, hz⟩ := I.tuple hq
    have hlen := r'.length
    obtain ⟨o, ho, hc, n, hd⟩ := pl
    exact call_list_seq p (.inr rfl) ho hc hd (fun h' c' kp e => fin its r' hz h' c' kp e) (by simp only [List.size_toArray] <;> omega)
def tyV (K : PySem.W.Frag) (T : String) (x : V) (H : Hp) : Prop := match x with
  | .str _ => T = "str"
  | .int _ => T = "int"
  | .ref p => (T = "list" ∧ ∃ xs, SqL K H p xs) ∨ (T = "tuple" ∧ ∃ o, K.lookup p = some o ∧ o.cls = .type "tuple" ∧ o.dict = none) ∨
      (T = "dict" ∧ ((∃ kvs, H p = some (.dK kvs)) ∨ ∃ kvs, H p = some (.dT kvs))) ∨ (T = "set" ∧ ∃ S n, H p = some (.set S n))
  | _ => False
theorem tyV_is {pins : List (Addr × Obj)} {σ : St} {H : Hp} {s : Shared} {T : String} {x : V} {v : Value} (I : Inv X pins σ H s) (r : RelV x v) (ty : tyV X.K T x H) :
    s.TypeIs v T ∧ ∀ a, v = .ref a → ∃ ob, s.heap.get? a = some ob ∧ ob.dict = none := by
  cases x with
  | str z =>
    obtain ⟨t, rfl⟩ := r
    cases (show T = "str" from ty)
    exact ⟨typeIs_str s z t, fun _ e => nomatch e⟩
  | int i =>
    obtain ⟨t, rfl⟩ := r
    cases (show T = "int" from ty)
    exact ⟨typeIs_int s i t, fun _ e => nomatch e⟩
  | ref p =>
    cases r
    rcases ty with ⟨rfl, xs, hq⟩ | ⟨rfl, o, hk, hc, hd⟩ | ⟨rfl, hk⟩ | ⟨rfl, S, n, hk⟩
    · obtain ⟨its, _, pl, _⟩ := I.list hq
      refine ⟨pl.isList.typeIs, fun a e => ?_⟩
      cases e
      obtain ⟨o, n, e, c, hd, _⟩ := pl
      exact ⟨o, e, hd⟩
    · refine ⟨⟨o, I.kIn p o hk, hc⟩, fun a e => ?_⟩
      cases e
      exact ⟨o, I.kIn _ o hk, hd⟩
    · have z : ∃ o, s.heap.get? p = some o ∧ o.ExactDict := by
        rcases hk with ⟨kvs, hk⟩ | ⟨kvs, hk⟩
        · obtain ⟨_, _, _, _, o, _, _, e, ex, _⟩ := I.hok p _ hk
          exact ⟨o, e, ex⟩
        · obtain ⟨_, _, _, _, o, _, _, e, ex, _⟩ := I.hok p _ hk
          exact ⟨o, e, ex⟩
      obtain ⟨o, e, ex⟩ := z
      refine ⟨⟨o, e, ex.1⟩, fun a e2 => ?_⟩
      cases e2
      exact ⟨o, e, ex.2.1⟩
    · obtain ⟨o, _, _, _, e, ex, _⟩ := I.hok p _ hk
      refine ⟨⟨o, e, ex.1⟩, fun a e2 => ?_⟩
      cases e2
      exact ⟨o, e, ex.2.1⟩
  | _ => exact False.elim ty
def tBM0 (K : PySem.W.Frag) (T : String) (r : V → List V → Hp → VK → Prop) (to : TE) : TE := fun σ H Q => to σ H fun x H1 => tyV K T x H1 ∧ r x [] H1 Q
def tBM (K : PySem.W.Frag) (T : String) (r : V → List V → Hp → VK → Prop) (to : TE) (t : TA) : TE := fun σ H Q => to σ H fun x H1 => tyV K T x H1 ∧ t σ H1 fun xs H2 => r x xs H2 Q
variable {o e : Expr} {es : List Expr} {to : TE} {t : TA} {name : Str} {apos cpos : Pos} {T id : String} {r : V → List V → Hp → VK → Prop}
theorem pe_bm0 (pa : PlainAttrs T) (slot : Slot T name id) (hty : typeOf (.builtin id) = pure (.type "method_descriptor")) (hm : MtR X id r) (ho : PE X o to)
    (hbase : attributeBase o name X.env (eval o X.env) = eval o X.env := by rfl) (hline : (apos.endLine == cpos.line) = true := by rfl) : PE X (.Call (.Attribute o name apos) [] [] cpos) (tBM0 X.K T r to) := by
  intro pins s σ H Q I h
  refine wpAny_Call_method0_late hbase hline (thn (ho pins s σ H _ I h) fun v s1 ⟨x, H1, I1, r1, ty, q1⟩ => ?_)
  obtain ⟨h1, h2⟩ := tyV_is I1 r1 ty
  exact ⟨T, id, pa, slot, hty, h1, h2, Calls.callWith_builtin rfl (PySem.evalArgs_none (hm pins s1 σ H1 x [] v [] Q I1 r1 .nil q1))⟩
theorem pe_bm (pa : PlainAttrs T) (slot : Slot T name id) (hty : typeOf (.builtin id) = pure (.type "method_descriptor")) (hm : MtR X id r) (ho : PE X o to) (ha : PA X (e :: es) t)
    (hbase : attributeBase o name X.env (eval o X.env) = eval o X.env := by rfl)
    (hfew : ((backTo cpos (starEach (e :: es) X.env)).all (fun x => !x.1) && (backToKw cpos (keywordEach [] X.env)).all (fun x => x.1.isSome)
      && decide ((e :: es).length + ([] : List Keyword).length + (if ([] : List Keyword).isEmpty then 0 else 1) < 30)) = true := by rfl)
    (hline : (apos.endLine == cpos.line) = true := by rfl) (hs : starEach (e :: es) X.env = (false, eval e X.env) :: starEach es X.env := by rfl) (hplain : (backTo cpos (starEach es X.env)).any (·.1) = false := by rfl) :
    PE X (.Call (.Attribute o name apos) (e :: es) [] cpos) (tBM X.K T r to t) := by
  intro pins s σ H Q I h
  refine wpAny_Call_method_late hbase hfew hline rfl (thn (ho pins s σ H _ I h) fun v s1 ⟨x, H1, I1, r1, ty, q1⟩ => ?_)
  obtain ⟨h1, h2⟩ := tyV_is I1 r1 ty
  refine ⟨T, id, pa, slot, hty, h1, h2, ?_⟩
  have hA := ha cpos pins s1 σ H1 _ I1 q1
  rw [hs] at hA ⊢
  refine Calls.callWith_builtin (by show (false || (backTo cpos (starEach es X.env)).any (·.1)) = false; rw [hplain] <;> rfl) (Calls.evalArgs_plain ?_)
  exact thn hA fun us s2 ⟨vs, H2, I2, r2, q2⟩ => hm pins s2 σ H2 x vs v us Q I2 r1 r2 q2
end
end L2
namespace L2
open PySem PySem.Spec PyProof.Rows
def MtM (X : Cx) (id : String) (r : V → List V → Hp → VK → Prop) : Prop :=
  ∀ (pins : List (Addr × Obj)) (s : Shared) (σ : St) (H : Hp) (x : V) (xs : List V) (v : Value) (us : List Value) (Q : VK), Inv X pins σ H s → RelV x v → Vals xs us → r x xs H Q →
    wpAny (model X.prog X.w) X.A (call (.builtin id) (v :: us)) (EP X pins σ Q) X.xe s
theorem Vals.one : ∀ {x : V} {us : List Value}, Vals [x] us → ∃ u, us = [u] ∧ RelV x u
  | _, _, .cons r .nil => ⟨_, rfl, r⟩
theorem Vals.two : ∀ {x y : V} {us : List Value}, Vals [x, y] us → ∃ u v, us = [u, v] ∧ RelV x u ∧ RelV y v
  | _, _, _, .cons r (.cons q .nil) => ⟨_, _, rfl, r, q⟩
theorem Vals.zero : ∀ {us : List Value}, Vals [] us → us = []
  | _, .nil => rfl
theorem Vals.dropLast {xs : List V} {us : List Value} (h : Vals xs us) : Vals xs.dropLast us.dropLast := by
  induction h with
  | nil => exact .nil
  | cons r t ih =>
    cases t with
    | nil => exact .nil
    | cons q t' => exact .cons r ih
theorem Vals.eraseIdx : ∀ {xs : List V} {us : List Value} (i : Nat), Vals xs us → Vals (xs.eraseIdx i) (us.eraseIdx i)
  | _, _, _, .nil => .nil
  | _, _, 0, .cons _ t => t
  | _, _, i + 1, .cons r t => .cons r (Vals.eraseIdx i t)
theorem Vals.reverse {xs : List V} {us : List Value} (h : Vals xs us) : Vals xs.reverse us.reverse := by
  induction h with
  | nil => exact .nil
  | cons r t ih => rw [List.reverse_cons, List.reverse_cons]; exact Vals.append ih (.cons r .nil)
theorem Vals.rep {xs : List V} {us : List Value} (h : Vals xs us) : ∀ k : Nat, Vals (List.replicate k xs).flatten (List.replicate k us).flatten
  | 0 => .nil
  | k + 1 => by
    rw [List.replicate_succ, List.replicate_succ, List.flatten_cons, List.flatten_cons]
    exact Vals.append h (Vals.rep h k)
theorem erase_last {α : Type} (l : List α) : l.eraseIdx (l.length - 1) = l.dropLast := by
  induction l with
  | nil => rfl
  | cons a r ih =>
    cases r with
    | nil => rfl
    | cons b r =>
      have e : (a :: b :: r).length - 1 = ((b :: r).length - 1) + 1 := by
        have h1 : (a :: b :: r).length = r.length + 2 := rfl
        have h2 : (b :: r).length = r.length + 1 := rfl
        omega
      rw [e, List.eraseIdx_cons_succ, ih]
      all_goals rfl
section
variable {X : Cx} {pins : List (Addr × Obj)} {σ : St} {H : Hp} {s : Shared} {l b : Addr} {xs ys zs : List V}
theorem Inv.lset {its its' : List Value} {n : Nat} {f : Array Value → Array Value} {t' : Nat} (I : Inv X pins σ H s) (hH : H l = some (.lst xs))
    (e : s.heap.get? l = some { cls := .type "list", data := .seq its.toArray n }) (hf : f its.toArray = its'.toArray) (hv : Vals ys its') (hz : ys.length ≤ sizeLine) :
    Inv X pins σ (upd H l (.lst ys)) { s with heap := s.heap.update l (Obj.mapSeq f), toks := t' } := by
  have q := PySem.IsL.update e f
  rw [hf] at q
  refine I.write (x := l) (e := l) (by rw [hH]; exact trivial) (.inl rfl) (fun b' u hb hu => (Heap.get?_update_other s.heap (Obj.mapSeq f) (Ne.symm hb)).trans hu) ⟨_, q⟩ ?_
  exact ⟨hz, its', _, hv, q⟩
theorem Inv.lnew {its : List Value} {t' : Nat} (I : Inv X pins σ H s) (hv : Vals ys its) (hz : ys.length ≤ sizeLine) :
    Inv X pins σ (upd H s.heap.objs.size (.lst ys)) { s with heap := s.heap.push { cls := .type "list", data := .seq its.toArray }, toks := t' } :=
  I.laid (fun _ _ q => Heap.get?_push_of_some _ q) (Nat.le_refl _) ⟨hz, its, 0, hv, Heap.get?_push_size _ rfl⟩
theorem Inv.fresh (I : Inv X pins σ H s) : H s.heap.objs.size = none := I.hok.fresh (Nat.le_refl _)
theorem Inv.lstM (I : Inv X pins σ H s) (hH : H l = some (.lst xs)) : xs.length ≤ sizeLine ∧ ∃ (its : List Value) (n : Nat), Vals xs its ∧ xs.length = its.length ∧ s.heap.get? l = some { cls := .type "list", data := .seq its.toArray n } := by
  obtain ⟨z, its, n, r, e⟩ := I.hok l _ hH
  exact ⟨z, its, n, r, r.length, e⟩
theorem notLongL {n : Nat} (h : n ≤ sizeLine) : Builtin.List.listTooLong n = false := by
  unfold Builtin.List.listTooLong
  exact decide_eq_false (by omega)
end
section
variable {X : Cx}
def rAppend : V → List V → Hp → VK → Prop := fun x vs H Q => ∃ l xs y, x = .ref l ∧ vs = [y] ∧ H l = some (.lst xs) ∧ xs.length < sizeLine ∧ Q .non (upd H l (.lst (xs ++ [y])))
theorem mt_append : MtM X "list.append" rAppend := by
  intro pins s σ H x vs v us Q I rx rv h
  obtain ⟨l, xs, y, rfl, rfl, hH, hz, q⟩ := h
  cases rx
  obtain ⟨u, rfl, ru⟩ := rv.one
  obtain ⟨z, its, n, r, hl, e⟩ := I.lstM hH
  refine call_meets F.slot_list_append ⟨_, e, rfl⟩ F.entry_list_append (F.args_list_append_2 _ _) (PySem.list_append l its.toArray n u (by rw [List.size_toArray]; omega)) ⟨e, ?_⟩
  refine ⟨.non, _, I.lset (its' := its ++ [u]) hH e (by simp) (r.append (.cons ru .nil)) ?_, rfl, q⟩
  rw [List.length_append, List.length_singleton]
  omega
def rExtend : V → List V → Hp → VK → Prop := fun x vs H Q => ∃ l b xs zs, x = .ref l ∧ vs = [.ref b] ∧ H l = some (.lst xs) ∧ H b = some (.lst zs) ∧ xs.length + zs.length ≤ sizeLine ∧ Q .non (upd H l (.lst (xs ++ zs)))
theorem mt_extend : MtM X "list.extend" rExtend := by
  intro pins s σ H x vs v us Q I rx rv h
  obtain ⟨l, b, xs, zs, rfl, rfl, hH, hB, hz, q⟩ := h
  cases rx
  obtain ⟨u, rfl, ru⟩ := rv.one
  cases ru
  obtain ⟨z, its, n, r, hl, e⟩ := I.lstM hH
  obtain ⟨z2, its2, n2, r2, hl2, e2⟩ := I.lstM hB
  have hsz : its.toArray.size + its2.toArray.size ≤ sizeLine := by rw [List.size_toArray, List.size_toArray]; omega
  have hlong : ¬ (!its.toArray.isEmpty && Builtin.List.listTooLong (its.toArray.size + its2.toArray.size)) = true := by
    rw [notLongL hsz, Bool.and_false]
    exact Bool.false_ne_true
  refine call_meets F.slot_list_extend ⟨_, e, rfl⟩ F.entry_list_extend (F.args_list_extend_2 _ _)
    (AutoSeq1.list_extend_list_list_0 l its.toArray n b its2.toArray n2 hlong (by rw [List.size_toArray]; omega) (by omega)) ⟨e, e2, ?_⟩
  refine ⟨.non, _, I.lset (its' := its ++ its2) hH e (by simp) (r.append r2) ?_, rfl, q⟩
  rw [List.length_append]
  omega
def rPop : V → List V → Hp → VK → Prop := fun x vs H Q => ∃ l xs y, x = .ref l ∧ vs = [] ∧ H l = some (.lst xs) ∧ xs[xs.length - 1]? = some y ∧ Q y (upd H l (.lst xs.dropLast))
theorem mt_pop : MtM X "list.pop" rPop := by
  intro pins s σ H x vs v us Q I rx rv h
  obtain ⟨l, xs, y, rfl, rfl, hH, hy, q⟩ := h
  cases rx
  have hus := rv.zero
  subst hus
  obtain ⟨z, its, n, r, hl, e⟩ := I.lstM hH
  obtain ⟨u, hu, ru⟩ := r.get hy
  have hy' : its.toArray[its.toArray.size - 1]? = some u := by
    show its.toArray[its.length - 1]? = some u
    rw [← Array.getElem?_toList, ← hl]
    exact hu
  refine call_meets F.slot_list_pop ⟨_, e, rfl⟩ F.entry_list_pop (F.args_list_pop_1 _) (MeetsSeq.list_pop_last l its.toArray n u hy' (by rw [List.size_toArray]; omega)) ⟨e, ?_⟩
  refine ⟨y, _, I.lset (its' := its.dropLast) hH e ?_ r.dropLast ?_, ru, q⟩
  · show its.toArray.eraseIdxIfInBounds (its.toArray.size - 1) = its.dropLast.toArray
    rw [List.size_toArray, List.eraseIdxIfInBounds_toArray, erase_last]
  · rw [List.length_dropLast]
    omega
def rCat : R2 := fun x y H Q => ∃ l b xs zs, x = .ref l ∧ y = .ref b ∧ H l = some (.lst xs) ∧ H b = some (.lst zs) ∧ xs.length + zs.length ≤ sizeLine ∧ ∀ p, H p = none → Q (.ref p) (upd H p (.lst (xs ++ zs)))
theorem op_cat : OpR X (binaryOp .Add) rCat := by
  intro pins s σ H x y v u Q I rx ry h
  obtain ⟨l, b, xs, zs, rfl, rfl, hH, hB, hz, q⟩ := h
  cases rx
  cases ry
  obtain ⟨z, its, n, r, hl, e⟩ := I.lstM hH
  obtain ⟨z2, its2, n2, r2, hl2, e2⟩ := I.lstM hB
  refine PySem.P.add_list e e2 ?_ (by rw [List.size_toArray, List.size_toArray]; omega)
  have ea : its.toArray ++ its2.toArray = (its ++ its2).toArray := by simp
  rw [ea]
  exact ⟨.ref _, _, I.lnew (t' := s.toks) (r.append r2) (by rw [List.length_append]; omega), rfl, q _ I.fresh⟩
end
section
variable {prog : Program} {w : World} {A : Around} {E : Value → Shared → Prop} {s : Shared}
end
section
variable {X : Cx}
end
end L2
namespace L2
open PySem PySem.Spec PyProof.Rows
section
variable {κ : Type} [DecidableEq κ]
def valV (kvs : List (κ × V)) (k : κ) : Option V := (kvs.find? fun kv => decide (kv.1 = k)).map (·.2)
def putK (kvs : List (κ × V)) (k : κ) (v : V) : List (κ × V) :=
  if (kvs.any fun kv => decide (kv.1 = k)) = true then kvs.map (fun kv => if kv.1 = k then (kv.1, v) else kv) else kvs ++ [(k, v)]
def dropK (kvs : List (κ × V)) (k : κ) : List (κ × V) := kvs.filter fun kv => decide (kv.1 ≠ k)
theorem valV_pos {p : κ × V} {r : List (κ × V)} {k : κ} (e : p.1 = k) : valV (p :: r) k = some p.2 := by simp [valV, List.find?_cons, e]
theorem valV_neg {p : κ × V} {r : List (κ × V)} {k : κ} (e : ¬ p.1 = k) : valV (p :: r) k = valV r k := by simp [valV, List.find?_cons, e]
theorem valV_any (k : κ) : ∀ kvs : List (κ × V), (kvs.any fun kv => decide (kv.1 = k)) = (valV kvs k).isSome
  | [] => rfl
  | p :: r => by
    rw [List.any_cons]
    by_cases e : p.1 = k
    · simp only [valV_pos e, decide_eq_true e, Bool.true_or, Option.isSome_some]
    · rw [valV_neg e, decide_eq_false e, Bool.false_or]; exact valV_any k r
theorem valV_map (k j : κ) (y : V) : ∀ kvs : List (κ × V), valV (kvs.map fun kv => if kv.1 = k then (kv.1, y) else kv) j = (valV kvs j).map fun x => if j = k then y else x
  | [] => rfl
  | p :: r => by
    have ih := valV_map k j y r
    rw [List.map_cons]
    by_cases h : p.1 = k
    · rw [if_pos h]
      by_cases e : p.1 = j
      · rw [valV_pos (p := (p.1, y)) e, valV_pos e, Option.map_some, if_pos (e.symm.trans h)]
      · rw [valV_neg (p := (p.1, y)) e, valV_neg e, ih]
    · rw [if_neg h]
      by_cases e : p.1 = j
      · rw [valV_pos (p := p) e, valV_pos e, Option.map_some, if_neg (fun z => h (e.trans z))]
      · rw [valV_neg (p := p) e, valV_neg e, ih]
theorem valV_snoc (k j : κ) (y : V) : ∀ kvs : List (κ × V), valV kvs k = none → valV (kvs ++ [(k, y)]) j = if j = k then some y else valV kvs j
  | [], _ => by
    by_cases e : k = j
    · rw [if_pos e.symm]; exact valV_pos (p := (k, y)) e
    · rw [if_neg (fun z => e z.symm)]; exact valV_neg (p := (k, y)) e
  | p :: r, hn => by
    rw [List.cons_append]
    have hk : ¬ p.1 = k := fun z => by rw [valV_pos z] at hn; cases hn
    rw [valV_neg hk] at hn
    have ih := valV_snoc k j y r hn
    by_cases e : p.1 = j
    · rw [valV_pos e, valV_pos e, if_neg (fun z => hk (e.trans z))]
    · rw [valV_neg e, valV_neg e, ih]
theorem valV_put (kvs : List (κ × V)) (k j : κ) (y : V) : valV (putK kvs k y) j = if j = k then some y else valV kvs j := by
  unfold putK
  by_cases a : (kvs.any fun kv => decide (kv.1 = k)) = true
  · rw [if_pos a, valV_map]
    rw [valV_any] at a
    by_cases e : j = k
    · obtain ⟨x, hx⟩ := Option.isSome_iff_exists.mp a
      rw [if_pos e, e, hx, Option.map_some, if_pos rfl]
    · rw [if_neg e]
      cases valV kvs j with
      | none => rfl
      | some x => rw [Option.map_some, if_neg e]
  · rw [if_neg a]
    refine valV_snoc k j y kvs ?_
    rw [valV_any] at a
    cases q : valV kvs k with
    | none => rfl
    | some x => rw [q] at a; exact (a rfl).elim
theorem length_putK (kvs : List (κ × V)) (k : κ) (v : V) : (putK kvs k v).length ≤ kvs.length + 1 := by
  unfold putK
  split
  · rw [List.length_map]; omega
  · rw [List.length_append, List.length_cons, List.length_nil]; omega
theorem putK_new {kvs : List (κ × V)} {k : κ} (v : V) (h : valV kvs k = none) : putK kvs k v = kvs ++ [(k, v)] := by
  unfold putK
  rw [valV_any, h]
  exact if_neg (by decide)
theorem RelO.isSome_eq {o : Option V} {u : Option Value} (r : RelO o u) : o.isSome = u.isSome := by
  cases o with
  | none => cases u with
    | none => rfl
    | some _ => exact (show False from r).elim
  | some _ => cases u with
    | none => exact (show False from r).elim
    | some _ => rfl
theorem RelO.getD {o : Option V} {u : Option Value} {d : V} {d' : Value} (r : RelO o u) (rd : RelV d d') : RelV (o.getD d) (u.getD d') := by
  cases o with
  | none => cases u with
    | none => exact rd
    | some _ => exact (show False from r).elim
  | some _ => cases u with
    | none => exact (show False from r).elim
    | some _ => exact r
theorem KV.val {kvs : List (κ × V)} {vs : List (κ × Value)} (r : KV kvs vs) (k : κ) : RelO (valV kvs k) (valueAt vs k) := by
  unfold KV at r
  induction r with
  | nil => exact True.intro
  | @cons p q ps qs h t ih =>
    obtain ⟨h1, h2⟩ := h
    by_cases e : p.1 = k
    · have e' : q.1 = k := h1.symm.trans e
      have b : valueAt (q :: qs) k = some q.2 := by simp [valueAt, List.find?_cons, e']
      rw [valV_pos e, b]; exact h2
    · have e' : ¬ q.1 = k := fun z => e (h1.trans z)
      have b : valueAt (q :: qs) k = valueAt qs k := by simp [valueAt, List.find?_cons, e']
      rw [valV_neg e, b]; exact ih
theorem KV.any {kvs : List (κ × V)} {vs : List (κ × Value)} (r : KV kvs vs) (k : κ) : (kvs.any fun kv => decide (kv.1 = k)) = vs.any fun kv => decide (kv.1 = k) := by
  unfold KV at r
  induction r with
  | nil => rfl
  | cons h t ih => rw [List.any_cons, List.any_cons, ih, h.1]
theorem KV.repl {kvs : List (κ × V)} {vs : List (κ × Value)} (r : KV kvs vs) (k : κ) {y : V} {u : Value} (ry : RelV y u) :
    KV (kvs.map fun kv => if kv.1 = k then (kv.1, y) else kv) (vs.map fun kv => if kv.1 = k then (kv.1, u) else kv) := by
  unfold KV at r ⊢
  induction r with
  | nil => exact .nil
  | @cons p q ps qs h t ih =>
    rw [List.map_cons, List.map_cons]
    refine .cons ?_ ih
    obtain ⟨h1, h2⟩ := h
    by_cases e : p.1 = k
    · rw [if_pos e, if_pos (h1.symm.trans e)]; exact ⟨h1, ry⟩
    · rw [if_neg e, if_neg (fun z => e (h1.trans z))]; exact ⟨h1, h2⟩
theorem KV.put {kvs : List (κ × V)} {vs : List (κ × Value)} (r : KV kvs vs) (k : κ) {y : V} {u : Value} (ry : RelV y u) : KV (putK kvs k y) (stored vs k u) := by
  unfold putK stored
  rw [r.any k]
  by_cases e : (vs.any fun kv => decide (kv.1 = k)) = true
  · rw [if_pos e, if_pos e]; exact r.repl k ry
  · rw [if_neg e, if_neg e]; exact Paired.snoc r ⟨rfl, ry⟩
theorem KV.drop {kvs : List (κ × V)} {vs : List (κ × Value)} (r : KV kvs vs) (k : κ) : KV (dropK kvs k) (without vs k) := by
  unfold KV at r ⊢
  unfold dropK without
  induction r with
  | nil => exact .nil
  | @cons p q ps qs h t ih =>
    obtain ⟨h1, h2⟩ := h
    rw [List.filter_cons, List.filter_cons]
    by_cases e : p.1 = k
    · have a : ¬ decide (p.1 ≠ k) = true := by simp [e]
      have b : ¬ decide (q.1 ≠ k) = true := by simp [h1.symm.trans e]
      rw [if_neg a, if_neg b]; exact ih
    · have e' : ¬ q.1 = k := fun z => e (h1.trans z)
      have a : decide (p.1 ≠ k) = true := by simp [e]
      have b : decide (q.1 ≠ k) = true := by simp [e']
      rw [if_pos a, if_pos b]; exact .cons ⟨h1, h2⟩ ih
theorem KV.keys {kvs : List (κ × V)} {vs : List (κ × Value)} (r : KV kvs vs) : kvs.map (·.1) = vs.map (·.1) := by
  unfold KV at r
  induction r with
  | nil => rfl
  | cons h t ih => rw [List.map_cons, List.map_cons, ih, h.1]
theorem KV.length {kvs : List (κ × V)} {vs : List (κ × Value)} (r : KV kvs vs) : kvs.length = vs.length := Paired.length r
end
theorem kV_is {P : Program} {w : World} {k : Key} {u : Value} (r : RelV (kV k) u) : (mixKind P w).is k u = true := by
  cases k with
  | inl i => obtain ⟨t, e⟩ := (show ∃ t, u = Value.int i t from r); subst e; exact mixKind_int P w i t
  | inr x => obtain ⟨t, e⟩ := (show ∃ t, u = Value.str x t from r); subst e; exact mixKind_str P w x t
theorem items_are {P : Program} {w : World} : ∀ {ks : List Key} {us : List Value}, Vals (ks.map kV) us → ItemsAre (mixKind P w) ks us
  | [], _, r => by rw [List.map_nil] at r; cases r; exact .nil
  | k :: ks, _, r => by
    rw [List.map_cons] at r
    cases r with
    | cons h t => exact .cons (kV_is h) (items_are t)
abbrev KT (H : Hp) : List (List Key × V) → List (List Key × Addr × Value) → Prop := Paired fun p q => p.1 = q.1 ∧ H q.2.1 = some (.tup (p.1.map kV)) ∧ RelV p.2 q.2.2
theorem KT.val {H : Hp} {kvs : List (List Key × V)} {xs : List (List Key × Addr × Value)} (r : KT H kvs xs) (k : List Key) : RelO (valV kvs k) ((atKey xs k).map (·.2)) := by
  induction r with
  | nil => exact True.intro
  | @cons p q ps qs h t ih =>
    obtain ⟨h1, _, h2⟩ := h
    by_cases e : p.1 = k
    · have e' : q.1 = k := h1.symm.trans e
      have b : atKey (q :: qs) k = some q.2 := by simp [atKey, List.find?_cons, e']
      rw [valV_pos e, b]; exact h2
    · have e' : ¬ q.1 = k := fun z => e (h1.trans z)
      have b : atKey (q :: qs) k = atKey qs k := by simp [atKey, List.find?_cons, e']
      rw [valV_neg e, b]; exact ih
theorem KT.repl {H : Hp} {kvs : List (List Key × V)} {xs : List (List Key × Addr × Value)} (r : KT H kvs xs) (k : List Key) {y : V} {u : Value} (ry : RelV y u) :
    KT H (kvs.map fun kv => if kv.1 = k then (kv.1, y) else kv) (xs.map (putAt k u)) := by
  induction r with
  | nil => exact .nil
  | @cons p q ps qs h t ih =>
    rw [List.map_cons, List.map_cons]
    refine .cons ?_ ih
    obtain ⟨h1, h2, h3⟩ := h
    unfold putAt
    by_cases e : p.1 = k
    · rw [if_pos e, if_pos (h1.symm.trans e)]; exact ⟨h1, h2, ry⟩
    · rw [if_neg e, if_neg (fun z => e (h1.trans z))]; exact ⟨h1, h2, h3⟩
theorem KT.put {H : Hp} {kvs : List (List Key × V)} {xs : List (List Key × Addr × Value)} (r : KT H kvs xs) (k : List Key) {b : Addr} {y : V} {u : Value} (hb : H b = some (.tup (k.map kV))) (ry : RelV y u) :
    KT H (putK kvs k y) (storedH xs k b u) := by
  have e : (kvs.any fun kv => decide (kv.1 = k)) = (atKey xs k).isSome := by
    rw [valV_any, (r.val k).isSome_eq, Option.isSome_map]
  unfold putK storedH
  rw [e]
  by_cases q : (atKey xs k).isSome = true
  · rw [if_pos q, if_pos q]; exact r.repl k ry
  · rw [if_neg q, if_neg q]; exact Paired.snoc r ⟨rfl, hb, ry⟩
theorem KT.keeps {H H' : Hp} {kvs : List (List Key × V)} {xs : List (List Key × Addr × Value)} (r : KT H kvs xs) (ht : ∀ b ys, H b = some (.tup ys) → H' b = some (.tup ys)) : KT H' kvs xs :=
  Paired.mapP r fun _ _ z => ⟨z.1, ht _ _ z.2.1, z.2.2⟩
section
variable {P : Program} {w : World} {H : Hp} {h : Heap} {a : Addr}
theorem rd_of {u : HO} (ok : HOk P w H h) (e : Rd H a u) : ObjOk P w H h a u := e.ok ok
theorem dk_rd {kvs : List (Key × V)} (ok : HOk P w H h) (e : Rd H a (.dK kvs)) : kvs.length ≤ sizeLine ∧ (a == sysModules) = false ∧ ∃ vs, KV kvs vs ∧ h.DictOf (mixKind P w) a vs :=
  show ObjOk P w H h a (.dK kvs) from rd_of ok e
theorem dk_of {kvs : List (Key × V)} (ok : HOk P w H h) (e : H a = some (.dK kvs)) : kvs.length ≤ sizeLine ∧ (a == sysModules) = false ∧ ∃ vs, KV kvs vs ∧ h.DictOf (mixKind P w) a vs := dk_rd ok (.inl e)
theorem key_of {ks : List Key} (ok : HOk P w H h) (e : H a = some (.tup (ks.map kV))) : (tupleKind (mixKind P w)).is h ks a := by
  obtain ⟨_, its, r, o, h1, h2, n, h3⟩ := (show ObjOk P w H h a (.tup (ks.map kV)) from ok a _ e)
  exact ⟨o, its.toArray, n, h1, h2, h3, by simpa using items_are r⟩
theorem dt_rd {kvs : List (List Key × V)} (ok : HOk P w H h) (e : Rd H a (.dT kvs)) : kvs.length ≤ sizeLine ∧ (a == sysModules) = false ∧
    ∃ xs, KT H kvs xs ∧ h.DictOfH (tupleKind (mixKind P w)) a xs := by
  obtain ⟨z, y, xs, r, o, es, ep, h1, h2, h3, h4, h5⟩ := (show ObjOk P w H h a (.dT kvs) from rd_of ok e)
  refine ⟨z, y, xs, r, o, es, ep, h1, h2, h3, h4, fun x hx => ?_, h5⟩
  have all : ∀ {l : List (List Key × V)} {m : List (List Key × Addr × Value)}, KT H l m → ∀ x ∈ m, (tupleKind (mixKind P w)).is h x.1 x.2.1 := by
    intro l m q
    induction q with
    | nil => intro x hx; exact nomatch hx
    | @cons p q ps qs hq t ih =>
      intro x hx
      rcases List.mem_cons.mp hx with e | hx
      · subst e
        exact key_of ok (by rw [← hq.1]; exact hq.2.1)
      · exact ih x hx
  exact all r x hx
theorem dt_of {kvs : List (List Key × V)} (ok : HOk P w H h) (e : H a = some (.dT kvs)) : kvs.length ≤ sizeLine ∧ (a == sysModules) = false ∧
    ∃ xs, KT H kvs xs ∧ h.DictOfH (tupleKind (mixKind P w)) a xs := dt_rd ok (.inl e)
end
def DGet (H : Hp) (a : Addr) (y : V) (r : Option V) : Prop :=
  (∃ kvs k, Rd H a (.dK kvs) ∧ y = kV k ∧ r = valV kvs k) ∨ ∃ kvs k b, Rd H a (.dT kvs) ∧ y = .ref b ∧ H b = some (.tup (k.map kV)) ∧ r = valV kvs k
def DPut (H : Hp) (a : Addr) (y v : V) (H' : Hp) : Prop :=
  (∃ kvs k, H a = some (.dK kvs) ∧ y = kV k ∧ kvs.length < sizeLine ∧ H' = upd H a (.dK (putK kvs k v))) ∨
  ∃ kvs k b, H a = some (.dT kvs) ∧ y = .ref b ∧ H b = some (.tup (k.map kV)) ∧ kvs.length < sizeLine ∧ H' = upd H a (.dT (putK kvs k v))
theorem DGet.k {H : Hp} {a : Addr} {kvs : List (Key × V)} {k : Key} (e : H a = some (.dK kvs)) : DGet H a (kV k) (valV kvs k) := .inl ⟨kvs, k, .inl e, rfl, rfl⟩
theorem DGet.t {H : Hp} {a b : Addr} {kvs : List (List Key × V)} {k : List Key} (e : H a = some (.dT kvs)) (eb : H b = some (.tup (k.map kV))) : DGet H a (.ref b) (valV kvs k) := .inr ⟨kvs, k, b, .inl e, rfl, eb, rfl⟩
theorem DPut.k {H : Hp} {a : Addr} {kvs : List (Key × V)} {k : Key} {v : V} (e : H a = some (.dK kvs)) (hl : kvs.length < sizeLine) : DPut H a (kV k) v (upd H a (.dK (putK kvs k v))) := .inl ⟨kvs, k, e, rfl, hl, rfl⟩
theorem DPut.t {H : Hp} {a b : Addr} {kvs : List (List Key × V)} {k : List Key} {v : V} (e : H a = some (.dT kvs)) (eb : H b = some (.tup (k.map kV))) (hl : kvs.length < sizeLine) :
    DPut H a (.ref b) v (upd H a (.dT (putK kvs k v))) := .inr ⟨kvs, k, b, e, rfl, eb, hl, rfl⟩
section
variable {X : Cx} {pins : List (Addr × Obj)} {σ : St} {H : Hp} {s : Shared} {a : Addr} {y v : V} {u r : Value} {o : Option V} {A : Around} {E : Value → Shared → Prop}
theorem Inv.big (I : Inv X pins σ H s) : sysModules < s.heap.objs.size := by
  have h : mainGlobals < s.heap.objs.size := (I.mod.glob.keeps I.bk).lt
  exact Nat.lt_trans (by decide) h
theorem d_getItem {Q : Value → Shared → Prop} (hu : A.units + 1 < cLine) (I : Inv X pins σ H s) (g : DGet H a y (some v)) (ry : RelV y u) (h : ∀ w' s', Inv X pins σ H s' → RelV v w' → Q w' s') :
    wpAny (model X.prog X.w) A (getItem (.ref a) u) Q E s := by
  rcases g with ⟨kvs, k, e, ey, l⟩ | ⟨kvs, k, b, e, ey, eb, l⟩
  · subst ey
    obtain ⟨z, hd, vs, rel, dd⟩ := dk_rd I.hok e
    obtain ⟨w', hw, rw'⟩ := RelO.some_of (v := v) (o := valueAt vs k) (by rw [l]; exact rel.val k)
    exact wpAny_getItem_of (kV_is ry) dd.mapOf hw (h w' _ (I.tok _) rw')
  · subst ey
    cases (show u = Value.ref b from ry)
    obtain ⟨z, hd, xs, rel, dd⟩ := dt_rd I.hok e
    obtain ⟨w', hw, rw'⟩ := RelO.some_of (v := v) (o := (atKey xs k).map (·.2)) (by rw [l]; exact rel.val k)
    obtain ⟨p, hp, hp2⟩ := Option.map_eq_some_iff.mp hw
    refine wpAny_getItem_heap (tupleKind_room_in1 hu) (key_of I.hok eb) dd hp ?_
    rw [hp2]
    exact h w' _ (I.tok _) rw'
theorem d_write {h' : Heap} {t' : Nat} {ob : HO} (I : Inv X pins σ H s) (mu : Mut (H a)) (hs : Heap.SameBut a s.heap h') (he : ∃ q, h'.get? a = some q) (new : ObjOk X.prog X.w (upd H a ob) h' a ob) :
    Inv X pins σ (upd H a ob) { s with heap := h', toks := t' } :=
  I.write (x := a) (e := a) mu (.inl rfl) (fun b q hb z => (hs.2 b hb).trans z) he new
theorem dk_new {P : Program} {w : World} {H' : Hp} {h' : Heap} {kvs : List (Key × V)} {vs : List (Key × Value)} (z : kvs.length ≤ sizeLine) (hd : (a == sysModules) = false) (rel : KV kvs vs) (dd : h'.DictOf (mixKind P w) a vs) :
    ObjOk P w H' h' a (.dK kvs) := ⟨z, hd, vs, rel, dd⟩
theorem d_setItem {H' : Hp} {Q : Unit → Shared → Prop} (hu : A.units + 1 < cLine) (I : Inv X pins σ H s) (g : DPut H a y v H') (ry : RelV y u) (rv : RelV v r) (h : ∀ s', Inv X pins σ H' s' → Q () s') :
    wpAny (model X.prog X.w) A (setItem (.ref a) u r) Q E s := by
  rcases g with ⟨kvs, k, e, ey, l, eH⟩ | ⟨kvs, k, b, e, ey, eb, l, eH⟩
  · subst ey eH
    obtain ⟨z, hd, vs, rel, dd⟩ := dk_of I.hok e
    have hz : vs.length ≤ sizeLine := by rw [← rel.length]; exact z
    have hl : (putK kvs k v).length ≤ sizeLine := by have := length_putK kvs k v; omega
    refine wpAny_setItem_pairs (hsz := hz) (kV_is ry) dd fun h' dd' hs => h _ ?_
    have he : ∃ q, h'.get? a = some q := let ⟨q, _, _, hq, _⟩ := dd'; ⟨q, hq⟩
    exact d_write I (by rw [e]; exact True.intro) hs he (dk_new hl hd (rel.put k rv) dd')
  · subst ey eH
    cases (show u = Value.ref b from ry)
    obtain ⟨z, hd, xs, rel, dd⟩ := dt_of I.hok e
    have hz : xs.length ≤ sizeLine := by rw [← Paired.length rel]; exact z
    have hl : (putK kvs k v).length ≤ sizeLine := by have := length_putK kvs k v; omega
    refine wpAny_setItem_heap (hsz := hz) (tupleKind_room_in1 hu) (key_of I.hok eb) dd fun h' dd' hs => h _ ?_
    obtain ⟨q, es, ep, hq, h2, h3, h4, _, h5⟩ := dd'
    refine d_write I (by rw [e]; exact True.intro) hs ⟨q, hq⟩ ⟨hl, hd, _, (rel.put k eb rv).keeps fun c ys ec => ?_, q, es, ep, hq, h2, h3, h4, h5⟩
    rw [upd_ne (ne_of ec e (fun z => nomatch z))]
    exact ec
end
section
variable {X : Cx} {pins : List (Addr × Obj)} {σ : St} {H : Hp} {s : Shared} {a : Addr} {kvs : List (Key × V)} {k : Key} {u : Value} {A : Around} {E : Value → Shared → Prop}
end
def NoSl (i : Expr) : Prop := ∀ ov iv, subscripted i false ov iv = operate [ov, iv] (getItem ov iv)
theorem subD_of {prog : Program} {w : World} {A : Around} {E : Value → Shared → Prop} {s : Shared} {env : Env} {value slice : Expr} {pos : Pos} {T id : String} {Q : Value → Shared → Prop}
    (hl : typeLookup (.type T) "__getitem__" = pure (some (.builtin id))) (hs : NoSl slice)
    (h : wpAny (model prog w) A (eval value env) (fun o s₁ => wpAny (model prog w) A (eval slice env) (fun i s₂ => s₂.TypeIs o T ∧ wpAny (model prog w) A (getItem o i) Q E s₂) E s₁) E s) :
    wpAny (model prog w) A (eval (.Subscript value slice pos) env) Q E s := by
  refine Subscript_ (wpAny_mono h (fun o s₁ h₁ => wpAny_mono h₁ (fun i s₂ h₂ => ?_) fun _ _ x => x) fun _ _ x => x)
  obtain ⟨hT, h₂⟩ := h₂
  unfold subscriptTail
  refine wpAny_bind ?_
  rw [getitemInPython_of_ne hT.not_modules]
  refine wpAny_bind (wpAny_specialOf hT hl ?_)
  have fin : wpAny (model prog w) A (subscripted slice false o i) (fun r s₃ => wpAny (model prog w) A (letTemporaryGo value o r >>= fun _ => pure r) Q E s₃) E s₂ := by
    rw [hs o i]
    exact wpAny_operating (wpAny_mono h₂ (fun r s₃ h₃ => wpAny_bind (wpAny_letTemporaryGo (wpAny_pure h₃))) fun _ _ x => x)
  first
    | exact wpAny_pure (wpAny_bind fin)
    | exact wpAny_bind (wpAny_pure (wpAny_bind fin))
    | exact wpAny_bind fin
theorem dict_typeIs {X : Cx} {pins : List (Addr × Obj)} {σ : St} {H : Hp} {s : Shared} {a : Addr} {y : V} {o : Option V} (I : Inv X pins σ H s) (g : DGet H a y o) : s.TypeIs (.ref a) "dict" := by
  rcases g with ⟨kvs, k, e, _, _⟩ | ⟨kvs, k, b, e, _, _, _⟩
  · obtain ⟨_, _, vs, _, dd⟩ := dk_rd I.hok e
    exact dd.typeIs
  · obtain ⟨_, _, xs, _, dd⟩ := dt_rd I.hok e
    exact dd.typeIs
def tDGet (td ty : TE) : TE := fun σ H Q => td σ H fun x H1 => ty σ H1 fun y H2 => ∃ a v, x = .ref a ∧ DGet H2 a y (some v) ∧ Q v H2
def sDPut (td ty tv : TE) : TS := fun D σ H => tv σ H fun v H1 => td σ H1 fun x H2 => ty σ H2 fun y H3 => ∃ a H4, x = .ref a ∧ DPut H3 a y v H4 ∧ D.nx σ H4
section
variable {X : Cx} {o i e value : Expr} {pos pos' tpos : Pos} {td ty tv : TE}
theorem pe_dget (hu : X.A.units + 1 < cLine) (ho : PE X o td) (hi : PE X i ty) (hs : NoSl i) : PE X (.Subscript o i pos) (tDGet td ty) := by
  intro pins s σ H Q I h
  refine subD_of PySem.F.slot_dict_getitem.lookup hs (thn (ho pins s σ H _ I h) fun u s1 ⟨x, H1, I1, rx, q1⟩ => thn (hi pins s1 σ H1 _ I1 q1) fun iv s2 ⟨y, H2, I2, ry, a, v, ex, g, q2⟩ => ?_)
  subst ex
  obtain rfl : u = Value.ref a := rx
  exact ⟨dict_typeIs I2 g, d_getItem hu I2 g ry fun w' s3 I3 rw' => ⟨v, H2, I3, rw', q2⟩⟩
theorem ps_dput (hu : X.A.units + 1 < cLine) (ho : PE X o td) (hi : PE X i ty) (hv : PE X value tv) (hs : swapsWith value (some (.Subscript o i pos')) pos.line X.env = pure false) :
    PS X (.Assign [.Subscript o i pos'] value pos) (sDPut td ty tv) := by
  intro pins s σ H D I h
  refine wpAny_Assign_Subscript (thn (hv pins s σ H _ I h) fun r s1 ⟨v, H1, I1, rv, q1⟩ => thn (ho pins s1 σ H1 _ I1 q1) fun u s2 ⟨x, H2, I2, rx, q2⟩ => thn (hi pins s2 σ H2 _ I2 q2) fun iv s3 ⟨y, H3, I3, ry, a, H4, ex, g, q3⟩ => ?_) hs
  subst ex
  obtain rfl : u = Value.ref a := rx
  exact d_setItem hu I3 g ry rv fun s4 I4 => ⟨σ, H4, I4, q3⟩
end
theorem dk_empty {P : Program} {w : World} {H : Hp} (h : Heap) (hb : sysModules < h.objs.size) : ObjOk P w H (h.push { cls := .type "dict", data := .dict #[] }) h.objs.size (.dK []) :=
  ⟨Nat.zero_le _, beq_eq_false_iff_ne.mpr (Ne.symm (Nat.ne_of_lt hb)), [], .nil, Heap.DictOf.new h⟩
def tDNewK : TE := fun _ H Q => ∀ p, H p = none → Q (.ref p) (upd H p (.dK []))
section
variable {X : Cx} {pos : Pos}
theorem pe_dnewK : PE X (.Dict [] [] pos) tDNewK := fun pins s σ H Q I h =>
  wpAny_Dict_empty ⟨.ref s.heap.objs.size, _, I.laid (a := s.heap.objs.size) (o := .dK []) (t' := s.toks) (fun _ _ q => Heap.get?_push_of_some _ q) (Nat.le_refl _) (dk_empty s.heap I.big), rfl, h _ (I.hok.fresh (Nat.le_refl _))⟩
end
def tPairs : List (TE × TE) → St → Hp → (List (V × V) → Hp → Prop) → Prop
  | [], _, H, Q => Q [] H
  | (tk, tv) :: r, σ, H, Q => tk σ H fun x H1 => tv σ H1 fun y H2 => tPairs r σ H2 fun ps H3 => Q ((x, y) :: ps) H3
abbrev VV : List (V × V) → List (Value × Value) → Prop := Paired fun p q => RelV p.1 q.1 ∧ RelV p.2 q.2
def PPs (X : Cx) (pos : Pos) (keys : List (Option Expr)) (values : List Expr) (trs : List (TE × TE)) : Prop :=
  ∀ (pins : List (Addr × Obj)) (s : Shared) (σ : St) (H : Hp) (Q : List (V × V) → Hp → Prop), Inv X pins σ H s → tPairs trs σ H Q →
    wpAny (model X.prog X.w) X.A (evalPairs (pairTrees keys values X.env pos)) (fun vs s' => ∃ ps H', Inv X pins σ H' s' ∧ VV ps vs ∧ Q ps H') X.xe s
theorem pps_nil {X : Cx} {pos : Pos} : PPs X pos [] [] [] := fun pins s σ H Q I h => pairTrees_nil_walk ⟨[], H, I, .nil, h⟩
theorem pps_cons {X : Cx} {pos : Pos} {k v : Expr} {ks : List (Option Expr)} {vs : List Expr} {tk tv : TE} {trs : List (TE × TE)} (hk : PE X k tk) (hv : PE X v tv) (hr : PPs X pos ks vs trs) :
    PPs X pos (some k :: ks) (v :: vs) ((tk, tv) :: trs) := fun pins s σ H Q I h =>
  pairTrees_cons_walk (thn (hk pins s σ H _ I h) fun u s1 ⟨x, H1, I1, rx, q1⟩ => thn (hv pins s1 σ H1 _ I1 q1) fun w2 s2 ⟨y, H2, I2, ry, q2⟩ =>
    thn (hr pins s2 σ H2 _ I2 q2) fun ws s3 ⟨ps, H3, I3, rel, q3⟩ => ⟨(x, y) :: ps, H3, I3, .cons ⟨rx, ry⟩ rel, q3⟩)
structure M2 (X : Cx) (o : Expr) (m : Str) (apos : Pos) (e f : Expr) (cpos : Pos) : Prop where
  base : attributeBase o m X.env (eval o X.env) = eval o X.env
  few : ((backTo cpos (starEach [e, f] X.env)).all (fun x => !x.1) && (backToKw cpos (keywordEach [] X.env)).all (fun x => x.1.isSome)
    && decide (([e, f] : List Expr).length + ([] : List Keyword).length + (if ([] : List Keyword).isEmpty then 0 else 1) < 30)) = true
  line : (apos.endLine == cpos.line) = true
  trees : backTo cpos (starEach [e, f] X.env) = [(false, eval e X.env), (false, eval f X.env)]
def IsD (H : Hp) (a : Addr) : Prop := (∃ kvs, Rd H a (.dK kvs)) ∨ ∃ kvs, Rd H a (.dT kvs)
theorem isD_at {X : Cx} {pins : List (Addr × Obj)} {σ : St} {H : Hp} {s : Shared} {a : Addr} (I : Inv X pins σ H s) (d : IsD H a) :
    s.TypeIs (.ref a) "dict" ∧ (∀ b, Value.ref a = .ref b → ∃ ob, s.heap.get? b = some ob ∧ ob.dict = none) ∧ (a == sysModules) = false := by
  rcases d with ⟨kvs, e⟩ | ⟨kvs, e⟩
  · obtain ⟨_, hd, vs, _, dd⟩ := dk_rd I.hok e
    refine ⟨dd.typeIs, fun b q => ?_, hd⟩
    cases q
    obtain ⟨ob, _, _, h1, h2, _⟩ := dd
    exact ⟨ob, h1, h2.2.1⟩
  · obtain ⟨_, hd, xs, _, dd⟩ := dt_rd I.hok e
    refine ⟨dd.typeIs, fun b q => ?_, hd⟩
    cases q
    obtain ⟨ob, _, _, h1, h2, _⟩ := dd
    exact ⟨ob, h1, h2.2.1⟩
section
variable {X : Cx} {pins : List (Addr × Obj)} {σ : St} {H : Hp} {s : Shared} {a : Addr} {y d : V} {u r : Value} {o : Option V} {A : Around} {E : Value → Shared → Prop}
theorem d_get2 {Q : Value → Shared → Prop} (hu : A.units + 1 < cLine) (I : Inv X pins σ H s) (g : DGet H a y o) (ry : RelV y u) (rd : RelV d r) (h : ∀ w' s', Inv X pins σ H s' → RelV (o.getD d) w' → Q w' s') :
    wpAny (model X.prog X.w) A (call (.builtin "dict.get") [.ref a, u, r]) Q E s := by
  rcases g with ⟨kvs, k, e, ey, l⟩ | ⟨kvs, k, b, e, ey, eb, l⟩
  · subst ey
    obtain ⟨z, hd, vs, rel, dd⟩ := dk_rd I.hok e
    refine call_meetsIn PySem.F.slot_dict_get dd.typeIs PySem.F.entry_dict_get (PySem.F.args_dict_get_3 _ _ _) (meets_dict_get_default (mixKind X.prog X.w) a (kV_is ry) hd r) ⟨_, dd.mapOf, h _ _ (I.tok _) ?_⟩
    rw [l]
    exact (rel.val k).getD rd
  · subst ey
    cases (show u = Value.ref b from ry)
    obtain ⟨z, hd, xs, rel, dd⟩ := dt_rd I.hok e
    refine call_meetsIn PySem.F.slot_dict_get dd.typeIs PySem.F.entry_dict_get (PySem.F.args_dict_get_3 _ _ _) (meetsH_dict_get_default (tupleKind (mixKind X.prog X.w)) a b hd r) ⟨tupleKind_room_in1 hu, k, xs, key_of I.hok eb, dd, h _ _ (I.tok _) ?_⟩
    rw [l]
    exact (rel.val k).getD rd
end
def tDGet2 (td ty tx : TE) : TE := fun σ H Q => td σ H fun x H1 => ∃ a, x = .ref a ∧ IsD H1 a ∧ ty σ H1 fun y H2 => tx σ H2 fun z H3 => ∃ o, DGet H3 a y o ∧ Q (o.getD z) H3
section
variable {X : Cx} {o e f : Expr} {apos cpos : Pos} {td ty tx : TE}
theorem pe_dget2 (hu : X.A.units + 1 < cLine) (ho : PE X o td) (he : PE X e ty) (hf : PE X f tx) (m : M2 X o "get" apos e f cpos) : PE X (.Call (.Attribute o "get" apos) [e, f] [] cpos) (tDGet2 td ty tx) := by
  intro pins s σ H Q I h
  refine wpAny_Call_method m.base m.few m.line PySem.F.plainAttrs_dict PySem.F.slot_dict_get PySem.F.type_dict_get (thn (ho pins s σ H _ I h) fun u s1 ⟨x, H1, I1, rx, a, ex, d, q1⟩ => ?_)
  subst ex
  obtain rfl : u = Value.ref a := rx
  obtain ⟨t1, t2, _⟩ := isD_at I1 d
  refine ⟨t1, t2, ?_⟩
  rw [m.trees]
  refine Calls.callWith_builtin rfl (Calls.evalArgs_plain (Calls.spliced_cons (thn (he pins s1 σ H1 _ I1 q1) fun iv s2 ⟨y, H2, I2, ry, q2⟩ =>
    Calls.spliced_cons (thn (hf pins s2 σ H2 _ I2 q2) fun fv s3 ⟨z, H3, I3, rz, ov, g, q3⟩ => Calls.spliced_nil ?_))))
  exact d_get2 hu I3 g ry rz fun w' s4 I4 rw' => ⟨_, H3, I4, rw', q3⟩
end
section
variable {X : Cx} {pins : List (Addr × Obj)} {σ : St} {H : Hp} {s : Shared} {a : Addr} {kvs : List (Key × V)} {A : Around} {E : Value → Shared → Prop}
end
section
variable {X : Cx} {pins : List (Addr × Obj)} {σ : St} {H : Hp} {s : Shared} {a : Addr} {y : V} {u : Value} {A : Around} {E : Value → Shared → Prop}
end
end L2
namespace Att
open PySem PySem.W PySem.Calls PyProof.Rows
theorem ints_of_wellAll {P : Params} {h : Heap} : ∀ (ns : List Int) (vs : List Value), WellAll P h vs (ns.map WData.int) → IntsAre vs ns := by
  intro ns
  induction ns with
  | nil =>
    intro vs w
    rw [List.map_nil] at w
    cases w
    exact .nil
  | cons n ns ih =>
    intro vs w
    rw [List.map_cons] at w
    cases w with
    | cons a b =>
      cases a
      exact .cons _ _ (ih _ b)
theorem script_of {l : OpenLaw} {n : Nat} (hn : l.most = some n) {P : Params} {h : Heap} {args : List WData} {vals : List Value}
    (hpre : l.row.toRowW.claim.pre args = true) (hwl : WellAll P h vals args) :
    ∃ a vs ns, vals = [Value.ref a] ∧ args = [WData.list (ns.map WData.int)] ∧ h.get? a = some { cls := .type "list", data := .seq vs.toArray } ∧ IntsAre vs ns ∧ ns.length ≤ n := by
  have hsh : WShape.hasAll [] args [.list .int] = true := (pre_splitW hpre).1
  have hc : l.pre.holds [] { args := args } = true := (pre_splitW hpre).2
  obtain ⟨d, r, rfl, h1, h2⟩ := hasAllW_cons hsh
  obtain rfl := hasAllW_nil h2
  obtain ⟨xs, rfl, h3⟩ := hasW_list h1
  obtain ⟨ns, rfl⟩ := items_int h3
  have hlen : ns.length ≤ n := by
    unfold OpenLaw.pre at hc
    have h4 : (WTm.not (.lt (.lit (.int (n : Int))) (.len (.arg 0)))).holds [] { args := [.list (ns.map .int)] } = true := by
      have h4 := (holds_andW hc).1
      rw [hn] at h4
      exact h4
    have h5 := condW_of h4 (w_not (w_lt w_lit (w_len_list (w_arg rfl))))
    rw [List.length_map] at h5
    refine Nat.le_of_not_lt fun q => ?_
    have q' : (n : Int) < ((ns.length : Nat) : Int) := by omega
    first
      | (rw [decide_eq_true q'] at h5; exact absurd h5 (by decide))
      | (simp at h5; omega)
  cases hwl with
  | cons w1 w2 =>
    cases w2
    cases w1 with
    | list ho hall => exact ⟨_, _, ns, rfl, rfl, ho, ints_of_wellAll ns _ hall, hlen⟩
theorem post_true (l : OpenLaw) (args : List WData) : l.row.toRowW.claim.post args (.bool true) args = true :=
  postW_of (r := l.row.toRowW) (X := (true == true))
    (show WShape.has [] (.bool true) .bool = true by first | rfl | decide | simp [WShape.has, WShape.arms, WShape.armsAll])
    (show (WTm.eq .res (.lit (.bool true))).value [] { args := args, res := some (.bool true), after := args } = some (.bool (true == true)) from w_eq_bool (w_res rfl) w_lit) rfl
theorem attach_call {l : OpenLaw} {n : Nat} {q : Program} {loose : List Str} {XP : (Str → Option Value) → Heap → Prop} {YP : World → Heap → Prop} {d : DefRec}
    (hn : l.most = some n) (hdf : d.params.defaults = [])
    (call : ∀ (w : World) (s₀ s₁ : Shared) (mg mb : Str → Option Value) (fa : Addr) (o : Obj) (pm cd doc : Value) (a : Addr) (vs : List Value) (ns : List Int),
      Ground q loose [] XP w s₀ mg mb s₁.heap → YP w s₁.heap →
      s₁.heap.get? fa = some o → o.data = .func (docDef d.name d.params d.body d.scope pm cd doc) → s₁.heap.CodeRec cd d.name → mg d.name = some (.ref fa) →
      s₁.heap.get? a = some { cls := .type "list", data := .seq vs.toArray } → IntsAre vs ns → ns.length ≤ n → s₁.gens = #[] →
      codeAny (model l.prog w) callerA (.call (.ref fa) ⟨[.ref a], []⟩) (fun r s' => r = .ok (.ret (.bool true)) ∧ OldK s₁.heap s'.heap ∧ s'.os = s₁.os ∧ AllBare s'.gens) s₁) :
    WalkO q loose XP YP l.row.toRowW d [] (fun f vs => PySem.call f vs) := by
  intro w s₀ s₁ mg mb G Y fa o pm cd doc dV kV ho hd hcd hD hmg hg args vals as hpre hlay hrd hwl hlo
  obtain rfl : dV = .none := Dflts.none hD hdf
  obtain rfl : kV = .none := Dflts.noKw hD
  obtain ⟨a, vs, ns, rfl, rfl, hobj, hints, hlen⟩ := script_of hn hpre hwl
  refine enter_call (codeAny_mono (call w s₀ s₁ mg mb fa o pm cd doc a vs ns G Y ho (fd_plain hd) hcd hmg hobj hints hlen hg) fun r s' hq => ?_)
  obtain ⟨rfl, h2, h3, h4⟩ := hq
  exact ⟨.inl ⟨.bool true, .bool true, [], rfl, fun _ => rfl, .bool true, post_true l _, fun _ => ⟨List.Pairwise.nil, fun _ hm => (nomatch hm)⟩⟩, h2, h3, h4⟩
section
variable {prog : Program} {w : World} {A : Around} {E : Value → Shared → Prop} {s : Shared} {K : Frag}
end
end Att
namespace L2
open PySem PySem.Spec PyProof.Rows
theorem vals_ints : ∀ {vs : List Value} {ns : List Int}, IntsAre vs ns → Vals (ns.map V.int) vs
  | _, _, .nil => .nil
  | _, _, .cons n t h => .cons ⟨t, rfl⟩ (vals_ints h)
def Only (H : Hp) : Prop := ∀ b, H b = none ∨ ∃ o xs, H b = some (.frz o (.lst xs))
theorem law_call {P : Program} {w : World} {K : PySem.W.Frag} {mg mb : Str → Option Value} {CX : CXT} {k : Nat} {fa a : Addr} {fd : FuncData} {x : Str} {sp : Sp} {s₁ : Shared} {vs : List Value} {ns : List Int}
    (KX : K.In s₁.heap) (hns : s₁.heap.Ns mainGlobals mg) (hb : s₁.heap.Ns builtinsNs mb) (hbb : ∀ x : Str, x ≠ "__name__" → mb x = bootBuiltins x) (hlim : s₁.heap.NoLimit) (hg : s₁.gens = #[])
    (ha : s₁.heap.get? a = some { cls := .type "list", data := .seq vs.toArray }) (hi : IntsAre vs ns) (hl : ns.length ≤ sizeLine) (hr : Room k callerA)
    (F : ∀ base : Heap, K.In base → base.Ns mainGlobals mg → FnOk P w K mg base CX k fa fd [x] sp) (hbind : ∀ (s : Shared) (u : Value), BindsTo s fd ⟨[u], []⟩ [(x, u)])
    (hsp : ∀ H : Hp, Only H → SqL K H a (ns.map V.int) → sp [.ref a] H (fun v _ => v = .bl true) fun _ _ _ => False)
    (hCX : ∀ H e s', CX [] H s₁ (fun _ _ _ => False) e s' → False) :
    codeAny (model P w) callerA (.call (.ref fa) ⟨[.ref a], []⟩) (fun r s' => r = .ok (.ret (.bool true)) ∧ OldK s₁.heap s'.heap ∧ s'.os = s₁.os ∧ AllBare s'.gens) s₁ := by
  have rv := vals_ints hi
  have lenV := hi.length
  -- from an abstract heap in which nothing but the script may be tracked
  have core : ∀ H : Hp, Only H → SqL K H a (ns.map V.int) → HOk P w H s₁.heap → (∀ b, H b ≠ none → b = a) → (H a ≠ none → K.lookup a = none) →
      codeAny (model P w) callerA (.call (.ref fa) ⟨[.ref a], []⟩) (fun r s' => r = .ok (.ret (.bool true)) ∧ OldK s₁.heap s'.heap ∧ s'.os = s₁.os ∧ AllBare s'.gens) s₁ := by
    intro H hO hS hok hA hK
    have base_of : ∀ {b : Addr} {o : Obj}, s₁.heap.get? b = some o → H b = none → (hidT s₁.heap H).get? b = some o := fun e n => hidT_get e n
    have noA : ∀ {b : Addr} {o : Obj} {es : Array DictEntry} {ep : Nat}, s₁.heap.get? b = some o → o.data = .dict es ep → H b = none := fun {b o es ep} e d => by
      cases q : H b with
      | none => rfl
      | some u =>
        have e' : b = a := hA b (by rw [q]; simp)
        subst e'
        rw [ha] at e; cases e
        have d' : Data.seq vs.toArray _ = Data.dict es ep := d
        cases d'
    have nsK : ∀ {b : Addr} {m : Str → Option Value}, s₁.heap.Ns b m → (hidT s₁.heap H).Ns b m := fun {b m} ⟨o, es, ep, e, d, r⟩ => ⟨o, es, ep, base_of e (noA e d), d, r⟩
    have hKb : K.In (hidT s₁.heap H) := fun b o e => base_of (KX b o e) (by
      cases q : H b with
      | none => rfl
      | some u =>
        have e' : b = a := hA b (by rw [q]; simp)
        subst e'
        rw [hK (by rw [q]; simp)] at e; cases e)
    have hM : Mod K mg (hidT s₁.heap H) := ⟨hKb, nsK hns, ⟨mb, nsK hb, hbb⟩, let ⟨mc, h1, h2⟩ := hlim; ⟨mc, nsK h1, h2⟩⟩
    have e0 : Env0 P w K mg (hidT s₁.heap H) callerA [] s₁ H := ⟨rfl, hM, fun b o e => of_hidT e, Nat.le_of_eq (hidT_size _ _), trivial, fun b hb => absurd (show b ∈ ([] : List Addr) from hb) (by simp), hok, .of_eq hg⟩
    refine codeAny_mono ((F _ hKb (nsK hns)).run callerA [] s₁ H ⟨[.ref a], []⟩ [.ref a] [.ref a] _ _ hr e0 (hbind s₁ (.ref a)) (.cons rfl .nil) (hsp H hO hS)) fun r s' h => ?_
    cases r with
    | error e => exact (hCX H e s' h).elim
    | ok fl =>
      cases fl with
      | next => exact False.elim h
      | brk => exact False.elim h
      | cont => exact False.elim h
      | ret u =>
        obtain ⟨v, H', os, bare, un, hok', r', q⟩ := h
        have q' : v = .bl true := q
        subst q'
        obtain rfl : u = Value.bool true := r'
        refine ⟨rfl, OldK.of_keep fun b o e => ?_, os, bare⟩
        cases q : H b with
        | none => exact un.keep b o e q (by intro z; exact absurd (show b ∈ ([] : List Addr) from z) (by simp)) (by simp)
        | some u =>
          rcases hO b with z | ⟨ob, xs, z⟩
          · rw [q] at z; cases z
          · have z2 := un.frzs b ob _ z
            obtain ⟨e1, _⟩ := hok b _ z
            obtain ⟨e2, _⟩ := hok' b _ z2
            rw [e] at e1; cases e1
            exact e2
  cases hk : K.lookup a with
  | some o =>
    -- the script is one of the module's own objects
    have e := KX a o hk
    rw [ha] at e
    cases e
    refine core (fun _ => none) (fun _ => .inl rfl) (.inr ⟨_, vs.toArray, _, hk, rfl, rfl, rfl, by rw [List.size_toArray, lenV]; exact hl, by simpa using rv⟩) (fun b u z => by have z' : (none : Option HO) = some u := z; cases z') (fun b z => absurd rfl z) fun z => absurd rfl z
  | none =>
    refine core (fun b => if b = a then some (.frz { cls := .type "list", data := .seq vs.toArray } (.lst (ns.map V.int))) else none) (fun b => ?_) (.inl (.inr ⟨{ cls := .type "list", data := .seq vs.toArray }, if_pos rfl⟩)) (fun b u z => ?_) (fun b z => ?_) fun _ => hk
    · by_cases hb : b = a
      · exact .inr ⟨_, _, if_pos hb⟩
      · exact .inl (if_neg hb)
    · by_cases hb : b = a
      · have z' := (if_pos hb).symm.trans z
        cases z'
        subst hb
        exact ⟨ha, by rw [List.length_map]; exact hl, vs, _, rv, ha⟩
      · have z' := (if_neg hb).symm.trans z
        cases z'
    · by_cases hb : b = a
      · exact hb
      · exact absurd (if_neg hb) z
end L2
namespace L2
open PySem PySem.Spec PyProof.Rows
theorem walk_of {l : PySem.W.OpenLaw} {n k : Nat} {q : Program} {loose : List Str} {XP : (Str → Option Value) → Heap → Prop} {YP : World → Heap → Prop} {d : DefRec} {K : Params → PySem.W.Frag} {CX : World → CXT} {sp : World → Sp} {x : Str}
    (hn : l.most = some n) (hn2 : n ≤ sizeLine) (hdf : d.params.defaults = []) (hr : Room k callerA)
    (hY : ∀ (w : World) (h : Heap), YP w h → (K w.params).In h)
    (F : ∀ (w : World) (mg : Str → Option Value) (fa : Addr) (h : Heap), (K w.params).In h → h.Ns mainGlobals mg → mg d.name = some (.ref fa) →
      ∃ fd : FuncData, (∀ (s : Shared) (u : Value), BindsTo s fd ⟨[u], []⟩ [(x, u)]) ∧
        ∀ base : Heap, (K w.params).In base → base.Ns mainGlobals mg → FnOk l.prog w (K w.params) mg base (CX w) k fa fd [x] (sp w))
    (hsp : ∀ (w : World) (H : Hp) (a : Addr) (ns : List Int), ns.length ≤ n → Only H → SqL (K w.params) H a (ns.map V.int) → sp w [.ref a] H (fun v _ => v = .bl true) fun _ _ _ => False)
    (hCX : ∀ (w : World) (H : Hp) (s : Shared) (e : Value) (s' : Shared), CX w [] H s (fun _ _ _ => False) e s' → False) :
    PySem.W.WalkO q loose XP YP l.row.toRowW d [] (fun f vs => PySem.call f vs) := by
  refine Att.attach_call hn hdf fun w s₀ s₁ mg mb fa o pm cd doc a vs ns G Y ho hd hcd hmg hobj hints hlen hg => ?_
  have KX := hY w _ Y
  obtain ⟨fd, hb, hF⟩ := F w mg fa _ KX G.T.g hmg
  exact law_call KX G.T.g G.T.b G.T.builtins G.T.nolimit hg hobj hints (Nat.le_trans hlen hn2) hr hF hb (fun H hO hS => hsp w H a ns hlen hO hS) fun H e s' => hCX w H s₁ e s'
end L2
namespace L2
open PySem PySem.Spec PyProof.Rows
def inClass (s : Stmt) (j : Nat) : Stmt := match s with
  | .ClassDef _ _ _ body _ _ _ _ _ _ _ => body.getD j (.Pass ⟨0, 0, 0, 0⟩)
  | _ => .Pass ⟨0, 0, 0, 0⟩
def defArgs (s : Stmt) : Arguments := match s with
  | .FunctionDef _ a _ _ _ _ _ _ _ _ => a
  | _ => { posonlyargs := [], args := [], vararg := none, kwonlyargs := [], kw_defaults := [], kwarg := none, defaults := [] }
def defBody (s : Stmt) : List Stmt := match s with
  | .FunctionDef _ _ b _ _ _ _ _ _ _ => b
  | _ => []
def defScope (s : Stmt) : Scope := match s with
  | .FunctionDef _ _ _ _ _ _ sc _ _ _ => sc
  | _ => { kind := .function, names := [], isGenerator := false, isCoroutine := false }
abbrev CX0 : CXT := fun _ _ _ _ _ _ => False
abbrev E0 : XK := fun _ _ _ => False
theorem pass0 {X : Cx} : Passes CX0 X E0 := fun _ _ _ _ _ _ _ h => h.elim
structure Fun (K : PySem.W.Frag) (x qual : Str) (st : Stmt) (f : Addr) (fd : FuncData) : Prop where
  ex : ∃ (oc : Value) (od : Option Addr) (kV doc pm : Value) (an : Option Addr) (cdv ct : Value) (osl : Array (Option Value)),
    fd = PySem.W.fnOf x qual (defArgs st) (defBody st) (defScope st) .none kV doc pm an cdv ct ∧ K.lookup f = some ⟨oc, od, .func fd, osl⟩ ∧ PySem.W.codeIn K cdv qual = true
  kp : PySem.W.keepIn K (.ref f) = true
section
variable {P : Program} {w : World} {K : PySem.W.Frag} {mg : Str → Option Value} {base : Heap}
theorem Fun.ok {x qual : Str} {st : Stmt} {f : Addr} {fd : FuncData} {N ps : List Str} {k : Nat} {sp : Sp} (F : Fun K x qual st f fd) (S : FnScope N ps (defScope st)) (len : ∀ vs H Q E, sp vs H Q E → vs.length = ps.length)
    (hbody : ∀ (cdv : Value) (A : Around) (outer : List Env) (s : Shared) (H : Hp) (vs : List V) (Q : VK) (E : XK), Room k (A.deeper (envOfC qual (defScope st) s.heap.objs.size f cdv)) → sp vs H Q E →
      ∃ t, PSs (cxOf CX0 P w K mg base N qual (defScope st) f cdv A outer s H E).nox (defBody st) t ∧ t { nx := fun _ H' => Q .non H', rt := Q } (start N vs) H) : FnOk P w K mg base CX0 (k + 1) f fd ps sp := by
  obtain ⟨oc, od, kV, doc, pm, an, cdv, ct, osl, rfl, lk, hcd⟩ := F.ex
  refine fn_of lk hcd S len fun A outer s H vs Q E hr hsp => ?_
  obtain ⟨t, h, q⟩ := hbody cdv A outer s H vs Q E hr hsp
  exact ⟨t, h.nox, q⟩
theorem Fun.binds {x qual : Str} {st : Stmt} {f : Addr} {fd : FuncData} {ps : List Str} (F : Fun K x qual st f fd)
    (h : ∀ (kV doc pm : Value) (an : Option Addr) (cdv ct : Value) (us : List Value), us.length = ps.length → bindArgs (PySem.W.fnOf x qual (defArgs st) (defBody st) (defScope st) .none kV doc pm an cdv ct) ⟨us, []⟩ = pure (ps.zip us)) : Binds K fd ps [] := by
  obtain ⟨oc, od, kV, doc, pm, an, cdv, ct, osl, rfl, lk, hcd⟩ := F.ex
  exact .all (h kV doc pm an cdv ct)
theorem fun_mk {x qual : Str} {st : Stmt} {f : Addr} {oc : Value} {od an : Option Addr} {osl : Array (Option Value)} {kV doc pm cdv ct : Value} (l : K.lookup f = some ⟨oc, od, .func (PySem.W.fnOf x qual (defArgs st) (defBody st) (defScope st) .none kV doc pm an cdv ct), osl⟩)
    (c : PySem.W.codeIn K cdv qual = true) (k : PySem.W.keepIn K (.ref f) = true) : Fun K x qual st f (PySem.W.fnOf x qual (defArgs st) (defBody st) (defScope st) .none kV doc pm an cdv ct) := ⟨⟨oc, od, kV, doc, pm, an, cdv, ct, osl, rfl, l, c⟩, k⟩
end
theorem hu_of {A : Around} {k : Nat} (hr : Room k A) : A.units + 1 < cLine := Nat.lt_of_le_of_lt (Nat.add_le_add_left (by decide : 1 ≤ 64) _) hr.units
theorem small1000 {n : Nat} (h : n ≤ 1000) : n < sizeLine := Nat.lt_of_le_of_lt h (by decide)
section
variable {X : Cx}
theorem pv (i : Nat) {x : Str} {pos : Pos} (hN : X.N[i]? = some x := by rfl) (hv : Vis X.env.scope x := by first | exact Or.inl rfl | exact Or.inr (Or.inl rfl) | exact Or.inr (Or.inr rfl)) (hd : (x == ("__debug__" : Str)) = false := by decide)
    (hcd : (x == ("__classdict__" : Str)) = false := by decide) : PE X (.Name x pos) (tVar i) := pe_var hN hv hd hcd
end
theorem iteF {A B : Prop} (h : B) : if false = true then A else B := by
  rw [if_neg Bool.false_ne_true]
  exact h
theorem iteT {A B : Prop} (h : A) : if true = true then A else B := by
  rw [if_pos rfl]
  exact h
theorem ite2 {c A B : Prop} [Decidable c] (h1 : c → A) (h2 : ¬ c → B) : if c then A else B := by
  by_cases h : c
  · rw [if_pos h]
    exact h1 h
  · rw [if_neg h]
    exact h2 h
theorem iteNS {c A B : Prop} [Decidable c] (hc : c) (h : B) : if (!decide c) = true then A else B := by
  rw [decide_eq_true hc]
  exact iteF h
def Same (H H' : Hp) : Prop := ∀ b o, H b = some o → H' b = some o
theorem Same.refl (H : Hp) : Same H H := fun _ _ h => h
theorem Same.trans {H H1 H2 : Hp} (a : Same H H1) (b : Same H1 H2) : Same H H2 := fun c o h => b c o (a c o h)
theorem Same.free {H H' : Hp} (e : Same H H') {l : Addr} (h : H' l = Option.none) : H l = Option.none := by
  cases q : H l with
  | none => rfl
  | some o =>
    rw [e l o q] at h
    cases h
theorem Same.seq {K : PySem.W.Frag} {H H' : Hp} {a : Addr} {xs : List V} (e : Same H H') (h : SqL K H a xs) : SqL K H' a xs := by
  rcases h with (h | ⟨o, h⟩) | h
  · exact .inl (.inl (e _ _ h))
  · exact .inl (.inr ⟨o, e _ _ h⟩)
  · exact .inr h
section
variable {κ : Type} [DecidableEq κ]
theorem valV_in {kvs : List (κ × V)} {k : κ} {v : V} (h : valV kvs k = some v) : k ∈ kvs.map (·.1) := by
  have q : (kvs.any fun kv => decide (kv.1 = k)) = true := by
    rw [valV_any, h]
    all_goals rfl
  obtain ⟨p, hp, e⟩ := List.any_eq_true.mp q
  exact List.mem_map.mpr ⟨p, hp, of_decide_eq_true e⟩
theorem nd_snoc : ∀ {l : List κ} {k : κ}, l.Nodup → ¬ k ∈ l → (l ++ [k]).Nodup
  | [], k, _, _ => by simp
  | a :: r, k, h, hk => by
    obtain ⟨h1, h2⟩ := List.nodup_cons.mp h
    show (a :: (r ++ [k])).Nodup
    refine List.nodup_cons.mpr ⟨fun m => ?_, nd_snoc h2 fun m => hk (List.mem_cons.mpr (Or.inr m))⟩
    rcases List.mem_append.mp m with q | q
    · exact h1 q
    · exact hk (List.mem_cons.mpr (Or.inl (List.mem_singleton.mp q).symm))
end
end L2
set_option maxHeartbeats 4000000
namespace L2
open PySem PySem.Spec PyProof.Rows
mutual
inductive Rep (H : Hp) : V → PyData → Prop
  | non : Rep H .non .none
  | bl (b : Bool) : Rep H (.bl b) (.bool b)
  | int (i : Int) : Rep H (.int i) (.int i)
  | str (x : Str) : Rep H (.str x) (.str x)
  | lst {a : Addr} {xs : List V} {ds : List PyData} : H a = some (.lst xs) → Reps H xs ds → Rep H (.ref a) (.list ds)
  | tup {a : Addr} {xs : List V} {ds : List PyData} : H a = some (.tup xs) → Reps H xs ds → Rep H (.ref a) (.tuple ds)
inductive Reps (H : Hp) : List V → List PyData → Prop
  | nil : Reps H [] []
  | cons {v : V} {d : PyData} {vs : List V} {ds : List PyData} : Rep H v d → Reps H vs ds → Reps H (v :: vs) (d :: ds)
end
mutual
theorem Rep.same {H H' : Hp} (e : Same H H') : ∀ {v : V} {d : PyData}, Rep H v d → Rep H' v d
  | _, _, .non => .non
  | _, _, .bl b => .bl b
  | _, _, .int i => .int i
  | _, _, .str x => .str x
  | _, _, .lst h r => .lst (e _ _ h) (Reps.same e r)
  | _, _, .tup h r => .tup (e _ _ h) (Reps.same e r)
theorem Reps.same {H H' : Hp} (e : Same H H') : ∀ {vs : List V} {ds : List PyData}, Reps H vs ds → Reps H' vs ds
  | _, _, .nil => .nil
  | _, _, .cons r t => .cons (Rep.same e r) (Reps.same e t)
end
theorem Reps.length {H : Hp} : ∀ {vs : List V} {ds : List PyData}, Reps H vs ds → vs.length = ds.length
  | _, _, .nil => rfl
  | _, _, .cons _ t => congrArg (· + 1) (Reps.length t)
theorem Reps.append {H : Hp} : ∀ {vs ws : List V} {ds es : List PyData}, Reps H vs ds → Reps H ws es → Reps H (vs ++ ws) (ds ++ es)
  | _, _, _, _, .nil, t => t
  | _, _, _, _, .cons r t, u => .cons r (Reps.append t u)
theorem Reps.get {H : Hp} : ∀ {vs : List V} {ds : List PyData} {i : Nat} {d : PyData}, Reps H vs ds → ds[i]? = some d → ∃ v, vs[i]? = some v ∧ Rep H v d
  | _, _, _, _, .nil, e => by simp at e
  | _, _, 0, _, .cons r _, e => by simp at e; subst e; exact ⟨_, rfl, r⟩
  | _, _, i + 1, d, .cons _ t, e => by
    obtain ⟨v, h1, h2⟩ := Reps.get (i := i) (d := d) t (by simpa using e)
    exact ⟨v, by simpa using h1, h2⟩
theorem Reps.snoc_inv {H : Hp} {vs : List V} {ds : List PyData} {d : PyData} (r : Reps H vs (ds ++ [d])) : ∃ ws v, vs = ws ++ [v] ∧ Reps H ws ds ∧ Rep H v d := by
  induction ds generalizing vs with
  | nil =>
    cases r with
    | cons h t => cases t; exact ⟨[], _, rfl, .nil, h⟩
  | cons c ds ih =>
    cases r with
    | cons h t =>
      obtain ⟨ws, v, e, h1, h2⟩ := ih t
      exact ⟨_ :: ws, v, by rw [e]; rfl, .cons h h1, h2⟩
section
variable {X : Cx} {pins : List (Addr × Obj)} {σ : St} {H : Hp} {s : Shared}
mutual
theorem Rep.reads (I : Inv X pins σ H s) : ∀ {v : V} {d : PyData} {u : Value}, Rep H v d → RelV v u → ∃ as, Reads s.heap u d as
  | _, _, u, .non, r => by cases (show u = Value.none from r); exact ⟨_, .none⟩
  | _, _, u, .bl b, r => by cases (show u = Value.bool b from r); exact ⟨_, .bool b⟩
  | _, _, u, .int i, r => by obtain ⟨t, e⟩ := (show ∃ t, u = Value.int i t from r); subst e; exact ⟨_, .int i t⟩
  | _, _, u, .str x, r => by obtain ⟨t, e⟩ := (show ∃ t, u = Value.str x t from r); subst e; exact ⟨_, .str x t⟩
  | _, _, u, .lst (a := a) (xs := xs) h q, r => by
    cases (show u = Value.ref a from r)
    obtain ⟨z, its, n, rv, e⟩ := (show ObjOk X.prog X.w H s.heap a (.lst xs) from I.hok a _ h)
    obtain ⟨as, k⟩ := Reps.readsAll I q rv
    exact ⟨_, .list e rfl rfl (by simpa using k)⟩
  | _, _, u, .tup (a := a) (xs := xs) h q, r => by
    cases (show u = Value.ref a from r)
    obtain ⟨z, its, rv, o, e, c, n, dd⟩ := (show ObjOk X.prog X.w H s.heap a (.tup xs) from I.hok a _ h)
    obtain ⟨as, k⟩ := Reps.readsAll I q rv
    exact ⟨_, .tuple e c dd (by simpa using k)⟩
theorem Reps.readsAll (I : Inv X pins σ H s) : ∀ {vs : List V} {ds : List PyData} {us : List Value}, Reps H vs ds → Vals vs us → ∃ as, ReadsAll s.heap us ds as
  | _, _, _, .nil, .nil => ⟨_, .nil⟩
  | _, _, _, .cons r t, .cons h k => by
    obtain ⟨as, e⟩ := Rep.reads I r h
    obtain ⟨bs, f⟩ := Reps.readsAll I t k
    exact ⟨_, .cons e f⟩
end
def rEqD : R2 := fun x y H Q => ∃ d e, Rep H x d ∧ Rep H y e ∧ SeqAt.shaped d = true ∧ SeqAt.shaped e = true ∧ Q (.bl (PyData.eqv d e)) H
def rNeD : R2 := fun x y H Q => ∃ d e, Rep H x d ∧ Rep H y e ∧ SeqAt.shaped d = true ∧ SeqAt.shaped e = true ∧ Q (.bl (!PyData.eqv d e)) H
theorem op_eqD (hu : X.A.units + 64 < cLine) : OpR X (compareOp .Eq) rEqD := by
  intro pins s σ H x y u v Q I rx ry h
  obtain ⟨d, e, h1, h2, h3, h4, q⟩ := h
  obtain ⟨as, k1⟩ := h1.reads I rx
  obtain ⟨bs, k2⟩ := h2.reads I ry
  exact eq_dataH k1 k2 h3 h4 hu ⟨.bl _, H, I, rfl, q⟩
theorem op_neD (hu : X.A.units + 64 < cLine) : OpR X (compareOp .NotEq) rNeD := by
  intro pins s σ H x y u v Q I rx ry h
  obtain ⟨d, e, h1, h2, h3, h4, q⟩ := h
  obtain ⟨as, k1⟩ := h1.reads I rx
  obtain ⟨bs, k2⟩ := h2.reads I ry
  exact ne_dataH k1 k2 h3 h4 hu ⟨.bl _, H, I, rfl, q⟩
def rInD (neg : Bool) : R2 := fun x y H Q => ∃ d es, Rep H x d ∧ Rep H y (.list es) ∧ d.canLay0 = true ∧ PyData.canLayAll0 es = true ∧ d.depth ≤ 60 ∧
  Q (.bl (if neg then !(es.any fun z => PyData.eqv z d) else es.any fun z => PyData.eqv z d)) H
theorem op_inD (hu : X.A.units + 64 < cLine) : OpR X (compareOp .In) (rInD false) := by
  intro pins s σ H x y u v Q I rx ry h
  obtain ⟨d, es, h1, h2, h3, h4, h5, q⟩ := h
  obtain ⟨as, k1⟩ := h1.reads I rx
  obtain ⟨bs, k2⟩ := h2.reads I ry
  refine SeqAt.in_list_reads k2 k1 h4 h3 ?_ ⟨.bl _, H, I, rfl, q⟩
  have := Nat.min_le_right (PyData.depthAll es) d.depth
  omega
theorem op_notInD (hu : X.A.units + 64 < cLine) : OpR X (compareOp .NotIn) (rInD true) := by
  intro pins s σ H x y u v Q I rx ry h
  obtain ⟨d, es, h1, h2, h3, h4, h5, q⟩ := h
  obtain ⟨as, k1⟩ := h1.reads I rx
  obtain ⟨bs, k2⟩ := h2.reads I ry
  refine SeqAt.notIn_list_reads k2 k1 h4 h3 ?_ ⟨.bl _, H, I, rfl, q⟩
  have := Nat.min_le_right (PyData.depthAll es) d.depth
  omega
end
end L2
namespace L2
open PySem PySem.Spec PyProof.Rows
def TbAt (X : Cx) (pins : List (Addr × Obj)) (H : Hp) (h : Heap) (x : Addr) (vs : Array Value) : Prop :=
  ∃ (T : Addr) (oT : Obj) (ts : Array Value), vs[1]? = some (.ref T) ∧ T ≠ x ∧ FpOk X pins H T ∧ h.get? T = some oT ∧ oT.data = .fields ts ∧ 3 < ts.size
structure Fl (X : Cx) (pins : List (Addr × Obj)) (σ : St) (H : Hp) (x : Addr) (cls : Value) (tr : Bool) (s : Shared) : Prop where
  inv : Inv X pins σ H s
  own : FpOk X pins H x
  exc : ∃ (oe : Obj) (vs : Array Value), s.heap.get? x = some oe ∧ oe.cls = cls ∧ oe.data = .fields vs ∧ ((tr = false ∧ vs[1]? = some .none) ∨ TbAt X pins H s.heap x vs)
theorem ObjOk.some {P : Program} {w : World} {H : Hp} {h : Heap} {a : Addr} {o : HO} (x : ObjOk P w H h a o) : ∃ ob, h.get? a = Option.some ob := by
  cases o with
  | lst xs => obtain ⟨_, _, _, _, e⟩ := x; exact ⟨_, e⟩
  | tup xs => obtain ⟨_, _, _, o, e, _⟩ := x; exact ⟨o, e⟩
  | dK kvs => obtain ⟨_, _, _, _, o, _, _, e, _⟩ := x; exact ⟨o, e⟩
  | dT kvs => obtain ⟨_, _, _, _, o, _, _, e, _⟩ := x; exact ⟨o, e⟩
  | dN kvs => obtain ⟨_, _, _, _, o, _, _, e, _⟩ := x; exact ⟨o, e⟩
  | set S n => obtain ⟨o, _, _, _, e, _⟩ := x; exact ⟨o, e⟩
  | ins C dx fs => obtain ⟨_, _, _, e, _⟩ := x; exact ⟨_, e⟩
  | own y => exact x
  | xd fs => obtain ⟨_, ⟨o, _, _, e, _⟩, _⟩ := x; exact ⟨o, e⟩
  | rng lo hi => obtain ⟨_, _, _, e⟩ := x; exact ⟨_, e⟩
  | frz ob u => exact ⟨_, x.1⟩
  | tbl ps => exact ⟨_, x⟩
  | met f y => exact ⟨_, x⟩
  | ext φ => exact x.2.1
section
variable {X : Cx} {pins : List (Addr × Obj)} {σ : St} {H : Hp} {s : Shared} {x : Addr} {cls : Value} {M : Model} {A : Around} {E : Value → Shared → Prop}
theorem Fl.weak {tr : Bool} (F : Fl X pins σ H x cls true s) : Fl X pins σ H x cls tr s := by
  obtain ⟨I, f, oe, vs, h1, h2, h3, h4⟩ := F
  refine ⟨I, f, oe, vs, h1, h2, h3, ?_⟩
  rcases h4 with ⟨z, _⟩ | h4
  · cases z
  · exact .inr h4
theorem Inv.reco {h' : Heap} (I : Inv X pins σ H s) (f : FpOk X pins H x) (keep : ∀ b o, b ≠ x → b ∉ frs X.stack → s.heap.get? b = some o → h'.get? b = some o)
    (slot : ∀ b o, b ≠ x → b ∈ frs X.stack → s.heap.get? b = some o → ∃ sl, h'.get? b = some { o with slots := sl }) (there : ∃ o, h'.get? x = some o) : Inv X pins σ H { s with heap := h' } := by
  obtain ⟨f0, f1, f2, f3, f4, f5⟩ := f
  refine I.call (h' := h') (g' := s.gens) (t' := s.toks) (d' := s.drawn) (ch := [x]) ⟨fun b o e n hb hx => keep b o (fun z => hx (by simp [z])) hb e, fun b o e n hb hx => slot b o (fun z => hx (by simp [z])) hb e, fun _ _ _ n _ => n, fun b o e hx => ?_, fun _ _ e => e, fun _ _ _ e => e, fun b ps e => ⟨#[], by rw [e]; simp⟩⟩ (fun b u e => ?_) I.bare (fun b hb => ?_)
  · by_cases hb : b ∈ frs X.stack
    · obtain ⟨sl, q⟩ := slot b o (fun z => hx (by simp [z])) hb e
      exact ⟨_, q⟩
    · exact ⟨o, keep b o (fun z => hx (by simp [z])) hb e⟩
  · have out : ∀ c v, H c = some v → c ≠ x ∧ c ∉ frs X.stack := fun c v q => ⟨fun z => (by rw [z, f0] at q; cases q), fun z => (by rw [I.stkFree c z] at q; cases q)⟩
    refine (I.hok b u e).stay (fun c v hc q => ?_) (fun _ q => q) fun _ _ q => q
    have hn : c ≠ x ∧ c ∉ frs X.stack := by
      rcases hc with z | z
      · rw [z]; exact out b u e
      · exact out c _ z
    exact keep c v hn.1 hn.2 q
  · have e : b = x := by simpa using hb
    subst e
    exact ⟨f3, f1, f4, f5⟩
theorem Inv.fpNew {H' : Hp} {b : Addr} (I : Inv X pins σ H s) (hb : s.heap.get? b = none) (hn : H' b = none) : FpOk X pins H' b := by
  refine ⟨hn, fun z => ?_, fun z => ?_, ?_, fun y c e z => ?_, fun p hp z => ?_⟩
  · obtain ⟨m, ⟨o, _, _, ho, _⟩, _⟩ := I.loc
    rw [z, ho] at hb; cases hb
  · obtain ⟨_, o, ho, _⟩ := I.funs.mem z
    rw [ho] at hb; cases hb
  · by_cases hx : b ∈ X.ex
    · exact .inl hx
    · refine .inr ?_
      cases e : X.s₀.heap.get? b with
      | none => rfl
      | some o =>
        obtain ⟨o', e'⟩ := I.base.there b o e hx
        rw [e'] at hb; cases hb
  · obtain ⟨v, o, ho, _⟩ := I.cell y c e
    rw [z, hb] at ho; cases ho
  · have q := (I.pin p hp).1
    rw [z, hb] at q; cases q
theorem FpOk.notFr (I : Inv X pins σ H s) (f : FpOk X pins H x) : x ∉ frs X.stack := fun z => by
  rcases List.mem_cons.mp (I.stkSub x z) with e | e
  · exact f.2.1 e
  · exact f.2.2.1 e
theorem fl_entry {oe : Obj} {vs : Array Value} {head : Value} {hadNext : Bool} {Q : Unit → Shared → Prop} (hst : X.stack = X.env :: X.outer) (hf : X.env.frame = some X.env.locals) (hA : A.frames = some X.stack)
    (I : Inv X pins σ H s) (f : FpOk X pins H x) (he : s.heap.get? x = some oe) (hc : oe.cls = cls) (hd : oe.data = .fields vs) (hsz : 1 < vs.size) (h : ∀ s', Fl X pins σ H x cls true s' → Q () s') :
    wpAny M A (do let a ← frameOf X.env; let pl ← entryPlaceOf X.env.locals hadNext; let b ← EntryCells.newEntry head a .none (rawInt X.env.locals) .none pl; setField (.ref x) 1 b) Q E s := by
  have hl : s.heap.FunFrames X.base (X.env :: X.outer) := hst ▸ I.stack
  have nf := f.notFr I
  refine wpAny_bind (wpAny_frameOf_fun (hst ▸ hA) hl hf fun h1 hs1 => ?_)
  refine wpAny_bind (wpAny_entryPlaceOf fun pl hpl => ?_)
  unfold EntryCells.newEntry newFields
  refine wpAny_bind (wpAny_newObj_type ?_ (hpl.sizeOk5 _ _ _ _ _))
  have nf' : x ∉ (X.env :: X.outer).filterMap (·.frame) := by
    have z := nf
    rw [hst] at z
    exact z
  have e1 : h1.get? x = some oe := (hs1.2.1 x nf').trans he
  generalize hob : ({ cls := .type "traceback", dict := none, data := .fields ([head, .ref X.env.locals, .none, rawInt X.env.locals, .none] ++ (if pl.isEmpty then List.replicate 6 Value.none else pl)).toArray } : Obj) = ob
  have hobd : ∃ ts, ob.data = .fields ts ∧ 3 < ts.size := by
    rw [← hob]
    refine ⟨_, rfl, ?_⟩
    simp only [List.size_toArray, List.length_append, List.length_cons, List.length_nil]
    omega
  obtain ⟨ts, hts, hts3⟩ := hobd
  have hfr : ob.isFreed = false := Obj.isFreed_of_fields hts
  have e2 := Heap.get?_push_of_some (h := h1) ob e1
  refine wpAny_setField e2 hd hsz (h _ ?_)
  have hs : h1.objs.size = s.heap.objs.size := hs1.1
  have nTx : h1.objs.size ≠ x := Nat.ne_of_gt (Heap.lt_size e1)
  have d3 := Obj.data_mapFields hd (·.setIfInBounds 1 (Value.ref h1.objs.size))
  have e3 := Heap.get?_update_self (Obj.mapFields (·.setIfInBounds 1 (Value.ref h1.objs.size))) e2 (Obj.isFreed_of_fields d3)
  have eT : ((h1.push ob).update x (Obj.mapFields (·.setIfInBounds 1 (Value.ref h1.objs.size)))).get? h1.objs.size = some ob := by
    rw [Heap.get?_update_other _ _ (Ne.symm nTx)]
    exact Heap.get?_push_size _ hfr
  have back : ∀ b o, b ≠ x → h1.get? b = some o → ((h1.push ob).update x (Obj.mapFields (·.setIfInBounds 1 (Value.ref h1.objs.size)))).get? b = some o := fun b o hb e => by
    rw [Heap.get?_update_other _ _ (Ne.symm hb)]
    exact Heap.get?_push_of_some _ e
  have I' : Inv X pins σ H { s with heap := (h1.push ob).update x (Obj.mapFields (·.setIfInBounds 1 (Value.ref h1.objs.size))) } := by
    refine I.reco f (fun b o hb hn e => back b o hb ((hs1.2.1 b (fun z => hn (by rw [hst]; exact z))).trans e)) (fun b o hb _ e => ?_) ⟨_, e3⟩
    obtain ⟨sl, q⟩ := hs1.2.2 b o e
    exact ⟨sl, back b _ hb q⟩
  refine ⟨I', f, _, _, e3, (Obj.cls_mapFields _ _).trans hc, d3, .inr ⟨h1.objs.size, ob, ts, by simp [hsz], nTx, ?_, eT, hts, hts3⟩⟩
  exact I.fpOk (Nat.le_of_eq hs.symm) (I.hok.fresh (Nat.le_of_eq hs.symm))
theorem fl_note {tr : Bool} {Q : Unit → Shared → Prop} (hst : X.stack = X.env :: X.outer) (hf : X.env.frame = some X.env.locals) (hA : A.frames = some X.stack) (F : Fl X pins σ H x cls tr s)
    (h : ∀ s', Fl X pins σ H x cls true s' → Q () s') : wpAny M A (noteFrame (.ref x) X.env) Q E s := by
  obtain ⟨I, f, oe, vs, he, hc, hd, tb⟩ := F
  unfold noteFrame
  simp only [hf]
  rcases tb with ⟨_, h1⟩ | ⟨T, oT, ts, h1, nTx, fT, eT, dT, h3⟩
  · refine wpAny_bind (wpAny_field he hd h1 ?_)
    rw [if_neg (by decide)]
    exact fl_entry hst hf hA I f he hc hd (Array.getElem?_eq_some_iff.mp h1).1 h
  · refine wpAny_bind (wpAny_field he hd h1 ?_)
    rw [if_pos (show (Value.ref T != Value.none) = true from by simp)]
    have g3 : ts[3]? = some ts[3] := Array.getElem?_eq_getElem h3
    refine wpAny_bind (wpAny_field eT dT g3 ?_)
    by_cases hq : (ts[3] == rawInt X.env.locals) = true
    · rw [if_pos hq]
      exact wpAny_pure (h s ⟨I, f, oe, vs, he, hc, hd, .inr ⟨T, oT, ts, h1, nTx, fT, eT, dT, h3⟩⟩)
    · rw [if_neg hq]
      refine wpAny_bind (wpAny_setField eT dT h3 ?_)
      have d3 := Obj.data_mapFields dT (·.setIfInBounds 3 Value.none)
      have eT' := Heap.get?_update_self (Obj.mapFields (·.setIfInBounds 3 Value.none)) eT (Obj.isFreed_of_fields d3)
      have other : ∀ b, b ≠ T → (s.heap.update T (Obj.mapFields (·.setIfInBounds 3 Value.none))).get? b = s.heap.get? b := fun b hb => Heap.get?_update_other _ _ (Ne.symm hb)
      have I' : Inv X pins σ H { s with heap := s.heap.update T (Obj.mapFields (·.setIfInBounds 3 Value.none)) } :=
        I.reco fT (fun b o hb _ e => (other b hb).trans e) (fun b o hb _ e => ⟨o.slots, (other b hb).trans e⟩) ⟨_, eT'⟩
      exact fl_entry hst hf hA I' f ((other x (Ne.symm nTx)).trans he) hc hd (Array.getElem?_eq_some_iff.mp h1).1 h
theorem fl_flight {tr : Bool} {fr : Option Addr} {Q : Unit → Shared → Prop} (F : Fl X pins σ H x cls tr s) (h : ∀ s', Fl X pins σ H x cls tr s' → Q () s') : wpAny M A (setFlight (.ref x) fr) Q E s := by
  obtain ⟨I, f, oe, vs, he, hc, hd, tb⟩ := id F
  unfold setFlight
  rcases tb with ⟨_, h1⟩ | ⟨T, oT, ts, h1, nTx, fT, eT, dT, h3⟩
  · refine wpAny_bind (wpAny_field he hd h1 ?_)
    rw [if_neg (by decide)]
    exact wpAny_pure (h s F)
  · refine wpAny_bind (wpAny_field he hd h1 ?_)
    rw [if_pos (show (Value.ref T != Value.none) = true from by simp)]
    refine wpAny_setField eT dT h3 (h _ ?_)
    generalize hv : (fr.elim Value.none fun f => rawInt f) = nv
    have d3 := Obj.data_mapFields dT (·.setIfInBounds 3 nv)
    have eT' := Heap.get?_update_self (Obj.mapFields (·.setIfInBounds 3 nv)) eT (Obj.isFreed_of_fields d3)
    have other : ∀ b, b ≠ T → (s.heap.update T (Obj.mapFields (·.setIfInBounds 3 nv))).get? b = s.heap.get? b := fun b hb => Heap.get?_update_other _ _ (Ne.symm hb)
    have I' : Inv X pins σ H { s with heap := s.heap.update T (Obj.mapFields (·.setIfInBounds 3 nv)) } :=
      I.reco fT (fun b o hb _ e => (other b hb).trans e) (fun b o hb _ e => ⟨o.slots, (other b hb).trans e⟩) ⟨_, eT'⟩
    exact ⟨I', f, oe, vs, (other x (Ne.symm nTx)).trans he, hc, hd, .inr ⟨T, _, _, h1, nTx, fT, eT', d3, by simpa using h3⟩⟩
def Flies (X : Cx) (W : List (Addr × Obj) → St → Value → Hp → Prop) (e : Value) (s : Shared) : Prop := ∃ pins σ H x cls tr, e = .ref x ∧ Fl X pins σ H x cls tr s ∧ W pins σ cls H
theorem flies_own {W : List (Addr × Obj) → St → Value → Hp → Prop} (hst : X.stack = X.env :: X.outer) (hf : X.env.frame = some X.env.locals) : PassesOwn M X.A X.env (Flies X W) := by
  rintro e s ⟨pins, σ, H, x, cls, tr, rfl, F, w⟩
  refine fl_note hst hf F.inv.ok.frames F fun s' F' => ?_
  obtain ⟨I, f, oe, vs, he, hc, hd, tb⟩ := id F'
  rcases tb with ⟨z, _⟩ | ⟨T, oT, ts, h1, nTx, fT, eT, dT, h3⟩
  · cases z
  · unfold cameBackBy
    refine wpAny_bind (wpAny_field he hd h1 ?_)
    rw [if_neg (show ¬ ((Value.ref T == Value.none) = true) from by simp)]
    exact fl_flight F' fun s'' F'' => ⟨pins, σ, H, x, cls, true, rfl, F'', w⟩
end
def CXE (P : Program) (w : World) : CXT := fun outer H s E e s' => ∃ (x : Addr) (cls : Value) (H' : Hp) (oe : Obj) (vs : Array Value) (T : Addr) (oT : Obj) (ts : Array Value), e = .ref x ∧ s'.os = s.os ∧ AllBare s'.gens ∧ Un (frs outer) [] H H' s.heap s'.heap ∧ HOk P w H' s'.heap ∧
  s.heap.get? x = none ∧ H' x = none ∧ s'.heap.get? x = some oe ∧ oe.cls = cls ∧ oe.data = .fields vs ∧ vs[1]? = some (.ref T) ∧ T ≠ x ∧ s.heap.get? T = none ∧ H' T = none ∧ s'.heap.get? T = some oT ∧ oT.data = .fields ts ∧ 3 < ts.size ∧ E cls none H'
section
variable {X : Cx} {pins : List (Addr × Obj)} {σ : St} {H : Hp} {s s' : Shared} {e : Value} {E : XK}
theorem CXE.fl (I : Inv X pins σ H s) (h : CXE X.prog X.w X.stack H s E e s') : ∃ x cls H', e = .ref x ∧ Fl X pins σ H' x cls true s' ∧ E cls none H' := by
  obtain ⟨x, cls, H', oe, vs, T, oT, ts, rfl, ho, hg, u, hok, hx, hnx, ex, hc, hd, h1, nTx, hT, hnT, eT, dT, h3, q⟩ := h
  have I' : Inv X pins σ H' s' := I.call' (ch := []) ho u hok hg (fun b z => absurd z (by simp))
  exact ⟨x, cls, H', rfl, ⟨I', I.fpNew hx hnx, oe, vs, ex, hc, hd, .inr ⟨T, oT, ts, h1, nTx, I.fpNew hT hnT, eT, dT, h3⟩⟩, q⟩
theorem passX {W : List (Addr × Obj) → St → Value → Hp → Prop} {E : XK} (h : ∀ pins σ cls H, E cls none H → W pins σ cls H) : Passes (CXE X.prog X.w) (X.wish (Flies X W)) E := fun pins σ H s e s' I q => by
  obtain ⟨x, cls, H', rfl, F, w⟩ := CXE.fl I.unwish q
  exact ⟨pins, σ, H', x, cls, true, rfl, F, h _ _ _ _ w⟩
theorem PSs.wishes {st : List Stmt} {t : TS} {W : Value → Shared → Prop} (h : PSs (X.wish W) st t) (hw : ∀ e s, W e s → X.xe e s) : PSs X st t := fun pins s σ H D I q =>
  wpAny_mono (h pins s σ H D (I.wish W) q) (fun f s' z => SP.unwish z) hw
end
section
variable {P : Program} {w : World} {K : PySem.W.Frag} {mg : Str → Option Value} {base : Heap}
abbrev cxE (P : Program) (w : World) (K : PySem.W.Frag) (mg : Str → Option Value) (base : Heap) (N : List Str) (qual : Str) (scope : Scope) (f : Addr) (cd : Value) (A : Around) (outer : List Env) (s : Shared) (H : Hp) (E : XK) : Cx :=
  cxOf (CXE P w) P w K mg base N qual scope f cd A outer s H E
theorem flies_leave {N : List Str} {qual : Str} {scope : Scope} {f : Addr} {cd : Value} {A : Around} {outer : List Env} {s : Shared} {H : Hp} {E : XK} {e : Value} {s' : Shared}
    (h : Flies (cxE P w K mg base N qual scope f cd A outer s H E) (fun _ _ cls H' => E cls none H') e s') : (cxE P w K mg base N qual scope f cd A outer s H E).xe e s' := by
  obtain ⟨pins, σ, H', x, cls, tr, rfl, F, q⟩ := h
  show wpAny (model P w) (A.deeper (envOfC qual scope s.heap.objs.size f cd)) (leaving (envOfC qual scope s.heap.objs.size f cd) (.ref x)) (fun _ s'' => CXE P w outer H s E (.ref x) s'') (fun e' s'' => CXE P w outer H s E e' s'') s'
  unfold leaving
  refine wpAny_bind (fl_note (X := cxE P w K mg base N qual scope f cd A outer s H E) rfl rfl F.inv.ok.frames F fun s1 F1 => fl_flight F1 fun s2 F2 => ?_)
  obtain ⟨I, g, oe, vs, he, hc, hd, tb⟩ := F2
  rcases tb with ⟨z, _⟩ | ⟨T, oT, ts, h1, nTx, fT, eT, dT, h3⟩
  · cases z
  · have at0 : ∀ {b : Addr}, FpOk (cxE P w K mg base N qual scope f cd A outer s H E) pins H' b → s.heap.get? b = none := fun {b} z => by
      rcases z.2.2.2.1 with y | y
      · exact absurd (show b ∈ ([] : List Addr) from y) (by simp)
      · exact y
    exact ⟨x, cls, H', oe, vs, T, oT, ts, rfl, I.os, I.bare, I.base, I.hok, at0 g, g.1, he, hc, hd, h1, nTx, at0 fT, fT.1, eT, dT, h3, q⟩
theorem Fun.okX {x qual : Str} {st : Stmt} {f : Addr} {fd : FuncData} {N ps : List Str} {k : Nat} {sp : Sp} (F : Fun K x qual st f fd) (S : FnScope N ps (defScope st)) (len : ∀ vs H Q E, sp vs H Q E → vs.length = ps.length)
    (hbody : ∀ (cdv : Value) (A : Around) (outer : List Env) (s : Shared) (H : Hp) (vs : List V) (Q : VK) (E : XK), Room k (A.deeper (envOfC qual (defScope st) s.heap.objs.size f cdv)) → sp vs H Q E →
      ∃ t, PSs ((cxE P w K mg base N qual (defScope st) f cdv A outer s H E).wish (Flies (cxE P w K mg base N qual (defScope st) f cdv A outer s H E) fun _ _ cls H' => E cls none H')) (defBody st) t ∧
        t { nx := fun _ H' => Q .non H', rt := Q } (start N vs) H) : FnOk P w K mg base (CXE P w) (k + 1) f fd ps sp := by
  obtain ⟨oc, od, kV, doc, pm, an, cdv, ct, osl, rfl, lk, hcd⟩ := F.ex
  refine fn_of lk hcd S len fun A outer s H vs Q E hr hsp => ?_
  obtain ⟨t, h, q⟩ := hbody cdv A outer s H vs Q E hr hsp
  exact ⟨t, h.wishes fun e s' z => flies_leave z, q⟩
end
end L2
namespace L2
open PySem PySem.Spec PyProof.Rows
theorem exc_in {K : PySem.W.Frag} {h : Heap} {C : Addr} {bmB : List Value} {newId : String} (X : K.In h) (q : PySem.W.excIn K C bmB newId = true) :
    ∃ bm N nm qn bs hdct sn sub ab col dd k0 k1 k2 k3 k5 mN, h.get? C = some (excClassObj nm qn C N bs bm hdct sn sub ab col dd k0 k1 k2 k3 k5 newId) ∧ h.Ns N mN ∧ mN "__init__" = none ∧ OwnTail h bmB bm := by
  unfold PySem.W.excIn at q
  split at q
  next dd cd sl ho =>
    split at q
    next C' bm k0 k1 k2 k3 n k5 hm hs =>
      have z := q
      simp only [Bool.and_eq_true, beq_iff_eq, Bool.not_eq_true'] at z
      have a1 := z.1.1.1.1.1
      have a2 := z.1.1.1.1.2
      have a3 := z.1.1.1.2
      have a4 := z.1.1.2
      have a5 := z.1.2
      have a6 := z.2
      subst a1 a2
      cases cd
      dsimp only at hm a3 a5 a6
      subst hm a3
      have hsl : sl = #[k0, k1, k2, k3, some (.builtin n), k5] := by
        cases sl
        simp only at hs
        rw [hs]
      rw [hsl] at ho
      exact ⟨bm, _, _, _, _, _, _, _, _, _, dd, k0, k1, k2, k3, k5, _, X _ _ ho, .of_isNs (PySem.W.isNs_of_in X a5), PySem.W.nsMap_none_of_in X a5 a6, PySem.W.tail_of_in X a4⟩
    next => cases q
  next => cases q
section
variable {X : Cx} {x : Str} {np cpos pos : Pos} {a : Expr} {t : TA} {C : Addr} {bmB : List Value} {B newId initId : String} {W : List (Addr × Obj) → St → Value → Hp → Prop}
def tRaise (W : List (Addr × Obj) → St → Value → Hp → Prop) (C : Addr) (t : TA) : TS := fun _ σ H => t σ H fun vs H1 => vs.length ≤ sizeLine ∧ ∀ pins, W pins σ (.ref C) H1
theorem ps_raise (hc : X.calm = true) (hg : Gl (X.wish (Flies X W)) x) (hm : X.mg x = some (.ref C)) (q : PySem.W.excIn X.K C bmB newId = true) (FB : ExcBaseFacts B newId initId bmB) (ha : PA (X.wish (Flies X W)) [a] t)
    (hd : (x == ("__debug__" : Str)) = false := by decide) (hs : starEach [a] X.env = [(false, eval a X.env)] := by rfl) :
    PS (X.wish (Flies X W)) (.Raise (some (.Call (.Name x np) [a] [] cpos)) none pos) (tRaise W C t) := by
  intro pins s σ H D I h
  obtain ⟨bm, N, nm, qn, bs, hdct, sn, sub, ab, col, dd, k0, k1, k2, k3, k5, mN, hC, hN, hni, T⟩ := exc_in I.ok.mod.kin q
  refine wpAny_Raise_call_subT (C := C) (nm := nm) (q := qn) (N := N) (bs := bs) (bm := bm) (hdct := hdct) (sn := sn) (sub := sub) (ab := ab) (col := col) (dd := dd) (k0 := k0) (k1 := k1) (k2 := k2) (k3 := k3) (k5 := k5) FB (mN := mN) (T.hasType FB.hasBase) (I.ok.hd hc) ?_ hni
    (ld_glob I hg hm ⟨rfl, ?_⟩ hd)
  · show (backTo cpos (starEach [a] X.env)).any (·.1) = false
    rw [hs]; rfl
  · have hA := ha cpos pins s σ H _ I h
    show wpAny _ _ (evalArgs (.ref C) true (backTo cpos (starEach [a] X.env)) []) _ _ s
    have hA' : wpAny (model X.prog X.w) X.A (spliced (backTo cpos (starEach [a] X.env))) (AP (X.wish (Flies X W)) pins σ fun vs H1 => vs.length ≤ sizeLine ∧ ∀ pins, W pins σ (.ref C) H1) (Flies X W) s := hA
    rw [hs] at hA' ⊢
    refine Calls.evalArgs_plain (wpAny_mono hA' (fun us s2 z => ?_) fun _ _ y => y)
    obtain ⟨vs, H1, I1, r, z1, z2⟩ := z
    refine ⟨rfl, by rw [← r.length]; exact z1, I1.bk _ _ hC, hN.keeps I1.bk, T.keeps I1.bk, fun h' e mk => ?_⟩
    have I2 : Inv X pins σ H1 { s2 with heap := h' } := I1.unwish.kept (t' := s2.toks) mk.keeps
    have hn : H1 e = none := by
      cases z : H1 e with
      | none => rfl
      | some o =>
        obtain ⟨o', ho'⟩ := (I1.hok e o z).some
        have y := mk.new
        rw [ho'] at y
        cases y
    obtain ⟨tt, he, _, _⟩ := mk.there
    exact ⟨pins, σ, H1, e, .ref C, false, rfl, ⟨I2, I1.unwish.fpNew mk.new hn, _, _, he, rfl, rfl, .inl ⟨rfl, rfl⟩⟩, z2 pins⟩
end
section
variable {X : Cx} {pins pins' : List (Addr × Obj)} {σ : St} {H : Hp} {s : Shared} {A' : Around} {c' : Bool} {E' : Value → Shared → Prop} {pn' : List (Addr × Obj)}
end
section
variable {X : Cx} {CX : CXT} {k : Nat} {f : Addr} {fd : FuncData} {ps : List Str} {sp : Sp} {EX : St → XK} {x : Str} {p pos : Pos} {e : Expr} {es : List Expr} {t : TA}
end
end L2
namespace L2
open PySem PySem.Spec PyProof.Rows
abbrev cxC (X : Cx) (N' : List Str) (scope : Scope) (cl : List (Str × Addr)) (C : Addr) (s₂ : Shared) (H₂ : Hp) (fp : List Addr) : Cx :=
  { X with N := N', s₀ := s₂, H₀ := H₂, env := compEnvC scope cl C X.env, outer := X.stack, ex := fp, fn := fun _ => false, pn := [], xe := fun _ _ => False }
def GK (n : Nat) (g : TG) : Prop := ∀ v σ H Q, g v σ H Q → g v σ H fun σ2 H2 => Q σ2 H2 ∧ σ2.length = σ.length ∧ ∀ i, n ≤ i → σ2[i]? = σ[i]?
theorem gk_name {n i : Nat} (h : i < n) : GK n (gName i) := fun v σ H Q q => by
  refine ⟨q, by simp, fun j hj => ?_⟩
  rw [List.getElem?_set_ne (by omega)]
def GM (g : TG) : Prop := ∀ v σ H (Q Q' : St → Hp → Prop), (∀ a b, Q a b → Q' a b) → g v σ H Q → g v σ H Q'
def PTs (X : Cx) (ifs : List Expr) (t : TT) : Prop :=
  ∀ (pins : List (Addr × Obj)) (s : Shared) (σ : St) (H : Hp) (Q : Bool → Hp → Prop), Inv X pins σ H s → t σ H Q →
    wpAny (model X.prog X.w) X.A (forIn ifs true fun c r => if r = true then do let ok ← isTrue c X.env (eval c X.env); pure (ForInStep.yield ok) else pure (ForInStep.yield r)) (TP X pins σ Q) X.xe s
def tYes : TT := fun _ H Q => Q true H
theorem pts_nil {X : Cx} : PTs X [] tYes := fun pins s σ H Q I h => wpAny_tests_nil ⟨H, I, h⟩
theorem pts_one {X : Cx} {c : Expr} {t : TT} (h : PT X c t) : PTs X [c] t := fun pins s σ H Q I q => wpAny_tests_one (h pins s σ H Q I q)
def CompR (J : It) (g : TG) (tt : TT) (te : TE) (σ' : St) (H1 : Hp) (Q : VK) : Prop := ∀ D, H1 D = none → ∃ W : Nat → Nat → List V → Hp → Prop, (∃ m, W 0 m [] (upd H1 D (.lst []))) ∧ ∀ i m ys H, W i m ys H → H D = some (.lst ys) ∧ ys.length < sizeLine ∧
  ((J.stop i H ∧ Q (.ref D) H) ∨ (J.go i H ∧ ∃ N : List V → Hp → Prop, (∀ zs H', N zs H' → ∃ m', m' < m ∧ W (i + 1) m' zs H') ∧
    ∀ x H2, J.yld i H x H2 → g x σ' H2 fun σ2 H3 => tt σ2 H3 fun b H4 => if b = true then te σ2 H4 fun y H5 => H5 D = some (.lst ys) ∧ N (ys ++ [y]) (upd H5 D (.lst (ys ++ [y]))) else N ys H4))
theorem comp_list {K : PySem.W.Frag} {a : Addr} {xs : List V} {g : TG} {tt : TT} {te : TE} {σ' : St} {H1 : Hp} {Q : VK} (Pv : Addr → Nat → List V → Hp → Prop) (h0 : ∀ D, H1 D = none → Pv D 0 [] (upd H1 D (.lst [])))
    (hl : ∀ D i ys H, i ≤ xs.length → Pv D i ys H → SqL K H a xs ∧ H D = some (.lst ys) ∧ ys.length < sizeLine)
    (hs : ∀ D i x ys H, xs[i]? = some x → Pv D i ys H → g x σ' H fun σ2 H3 => tt σ2 H3 fun b H4 => if b = true then te σ2 H4 fun y H5 => H5 D = some (.lst ys) ∧ Pv D (i + 1) (ys ++ [y]) (upd H5 D (.lst (ys ++ [y]))) else Pv D (i + 1) ys H4)
    (hd : ∀ D ys H, Pv D xs.length ys H → Q (.ref D) H) : CompR (Itl K a) g tt te σ' H1 Q := by
  intro D hD
  refine ⟨fun i m ys H => m = xs.length - i ∧ i ≤ xs.length ∧ Pv D i ys H, ⟨xs.length, by simp, Nat.zero_le _, h0 D hD⟩, ?_⟩
  rintro i m ys H ⟨rfl, hi, p⟩
  obtain ⟨q1, q2, q3⟩ := hl D i ys H hi p
  refine ⟨q2, q3, ?_⟩
  by_cases hlt : i < xs.length
  · refine .inr ⟨⟨xs, xs[i], q1, by simp [hlt]⟩, Pv D (i + 1), fun zs H' p' => ⟨xs.length - (i + 1), by omega, rfl, hlt, p'⟩, fun x H' y => ?_⟩
    obtain ⟨e, y⟩ := y
    subst e
    exact hs D i x ys _ (y xs q1) p
  · have e : i = xs.length := by omega
    subst e
    exact .inl ⟨⟨xs, q1, Nat.le_refl _⟩, hd D ys H p⟩
theorem comp_range {lo : Int} {n : Nat} {g : TG} {tt : TT} {te : TE} {σ' : St} {H1 : Hp} {Q : VK} (Pv : Addr → Nat → List V → Hp → Prop) (h0 : ∀ D, H1 D = none → Pv D 0 [] (upd H1 D (.lst [])))
    (hl : ∀ D i ys H, i ≤ n → Pv D i ys H → H D = some (.lst ys) ∧ ys.length < sizeLine)
    (hs : ∀ D i ys H, i < n → Pv D i ys H → g (.int (lo + i)) σ' H fun σ2 H3 => tt σ2 H3 fun b H4 => if b = true then te σ2 H4 fun y H5 => H5 D = some (.lst ys) ∧ Pv D (i + 1) (ys ++ [y]) (upd H5 D (.lst (ys ++ [y]))) else Pv D (i + 1) ys H4)
    (hd : ∀ D ys H, Pv D n ys H → Q (.ref D) H) : CompR (Itr lo n) g tt te σ' H1 Q := by
  intro D hD
  refine ⟨fun i m ys H => m = n - i ∧ i ≤ n ∧ Pv D i ys H, ⟨n, by simp, Nat.zero_le _, h0 D hD⟩, ?_⟩
  rintro i m ys H ⟨rfl, hi, p⟩
  obtain ⟨q2, q3⟩ := hl D i ys H hi p
  refine ⟨q2, q3, ?_⟩
  by_cases hlt : i < n
  · refine .inr ⟨hlt, Pv D (i + 1), fun zs H' p' => ⟨n - (i + 1), by omega, rfl, hlt, p'⟩, fun x H' y => ?_⟩
    obtain ⟨e, y⟩ := y
    subst e y
    exact hs D i ys _ hlt p
  · have e : i = n := by omega
    subst e
    exact .inl ⟨Nat.le_refl _, hd D ys H p⟩
structure CompS (X : Cx) (N' : List Str) (scope : Scope) (cl : List (Str × Addr)) (n : Nat) (js : List Nat) : Prop where
  clos : closureFor scope X.env = pure cl
  cell : ∀ y ∈ scope.names, y.2 ≠ .cell
  kind : scope.kind = .function
  names : ∀ y ∈ scope.names, y.2 = .local → scope.names.lookup y.1 = some .local
  sub : ∀ y c, cl.lookup y = some c → X.env.cells.lookup y = some c
  has : ∀ y, ((relabel scope X.env).names.lookup y = some .cell ∨ (relabel scope X.env).names.lookup y = some .free) → ∃ c, cl.lookup y = some c
  len : N'.length = n + js.length
  frees : ∀ (k j : Nat), js[k]? = some j → ∃ y, N'[n + k]? = some y ∧ X.N[j]? = some y ∧ (X.env.kindOf y = some .cell ∨ X.env.kindOf y = some .free) ∧
    ((relabel scope X.env).names.lookup y = some .cell ∨ (relabel scope X.env).names.lookup y = some .free) ∧ cl.lookup y = X.env.cells.lookup y
theorem relabel_names {scope : Scope} {env : Env} (h : ∀ y ∈ scope.names, y.2 ≠ .free) : (relabel scope env).names = scope.names := by
  show scope.names.map _ = scope.names
  refine map_eq_self fun y hy => ?_
  obtain ⟨a, k⟩ := y
  have e : (k == NameKind.free) = false := by simpa using h _ hy
  simp [e]
theorem CompS.closed {X : Cx} {N' : List Str} {scope : Scope} {n : Nat} (hf : ∀ y ∈ scope.names, y.2 ≠ .free) (hc : ∀ y ∈ scope.names, y.2 ≠ .cell) (hk : scope.kind = .function) (hn : ∀ y ∈ scope.names, y.2 = .local → scope.names.lookup y.1 = some .local) (hl : N'.length = n) : CompS X N' scope [] n [] where
  clos := closureFor_none hf
  cell := hc
  kind := hk
  names := hn
  sub := fun y c e => by simp at e
  has := fun y h => by
    rw [relabel_names hf] at h
    rcases h with h | h
    · exact absurd rfl (hc _ (PySem.mem_of_lookup h))
    · exact absurd rfl (hf _ (PySem.mem_of_lookup h))
  len := by simpa using hl
  frees := fun k j e => by simp at e
theorem CompS.one {X : Cx} {N' : List Str} {scope : Scope} {y : Str} {c : Addr} {n j : Nat} (h1 : closureFor scope X.env = pure [(y, c)]) (h2 : X.env.cells.lookup y = some c) (hc : ∀ z ∈ scope.names, z.2 ≠ .cell) (hk : scope.kind = .function)
    (hn : ∀ z ∈ scope.names, z.2 = .local → scope.names.lookup z.1 = some .local) (ho : ∀ z ∈ scope.names, z.2 = .free → z.1 = y) (hN : N'[n]? = some y) (hl : N'.length = n + 1) (hj : X.N[j]? = some y) (hy : X.env.kindOf y = some .cell)
    (hr : (relabel scope X.env).names.lookup y = some .cell) : CompS X N' scope [(y, c)] n [j] where
  clos := h1
  cell := hc
  kind := hk
  names := hn
  sub := fun z d e => by
    by_cases q : z = y
    · subst q; rw [List.lookup_cons, beq_self_eq_true] at e; rw [h2]; exact e
    · have b : (z == y) = false := beq_false_of_ne q
      rw [List.lookup_cons, b] at e; simp at e
  has := fun z h => by
    have mem : ∃ k, (k = NameKind.cell ∨ k = NameKind.free) ∧ (z, k) ∈ (relabel scope X.env).names := by
      rcases h with h | h
      · exact ⟨_, .inl rfl, PySem.mem_of_lookup h⟩
      · exact ⟨_, .inr rfl, PySem.mem_of_lookup h⟩
    obtain ⟨k, hk2, hm⟩ := mem
    obtain ⟨⟨a, ka⟩, ha, e⟩ := List.mem_map.mp (show (z, k) ∈ scope.names.map _ from hm)
    have hz : z = y := by
      by_cases hfree : ka = .free
      · have e2 : z = a := by
          dsimp only at e
          split at e
          · exact (Prod.mk.inj e).1.symm
          · exact (Prod.mk.inj e).1.symm
        rw [e2]
        exact ho _ ha hfree
      · have b : (ka == NameKind.free) = false := by simpa using hfree
        simp only [b, Bool.false_and, Bool.false_eq_true, if_false] at e
        have e3 := (Prod.mk.inj e).2
        rcases hk2 with q | q
        · exact absurd (e3.trans q) (hc _ ha)
        · exact absurd (e3.trans q) hfree
    subst hz
    exact ⟨c, by rw [List.lookup_cons, beq_self_eq_true]⟩
  len := by simpa using hl
  frees := fun k i e => by
    have hk0 : k = 0 := by
      cases k with
      | zero => rfl
      | succ k => simp at e
    subst hk0
    have e' : j = i := by simpa using e
    subst e'
    exact ⟨y, hN, hj, .inl hy, .inl hr, by rw [h2, List.lookup_cons, beq_self_eq_true]⟩
def frees (n : Nat) (js : List Nat) (σ : St) : St := List.replicate n none ++ js.map fun j => σ.getD j none
section
variable {X : Cx} {pins : List (Addr × Obj)} {σ : St} {s₂ : Shared} {H₂ : Hp} {elt iter target : Expr} {ifs : List Expr} {scope : Scope} {pos : Pos} {cl : List (Str × Addr)} {N' : List Str} {n : Nat} {js : List Nat} {g : TG} {tt : TT} {te : TE} {E : Value → Shared → Prop}
theorem comp_block {J : It} {fp : List Addr} {it : Addr} {tn : Nat → Heap → Prop} {RR : Value → Addr → Result → Shared → Prop} {Q : VK} (hc : X.calm = true) (S : CompS X N' scope cl n js) (gk : GK n g)
    (hg : ∀ C s₂ H₂ fp, PG (cxC X N' scope cl C s₂ H₂ fp) target g) (ht : ∀ C s₂ H₂ fp, PTs (cxC X N' scope cl C s₂ H₂ fp) ifs tt) (he : ∀ C s₂ H₂ fp, PE (cxC X N' scope cl C s₂ H₂ fp) elt te)
    (I : Inv X pins σ H₂ s₂) (T : Turn X.prog X.w X.K target J fp it tn) (st : tn 0 s₂.heap) (f2 : ∀ b ∈ fp, FpOk X pins H₂ b) (R : CompR J g tt te (frees n js σ) H₂ Q)
    (hRR : ∀ D C s' H', Inv X pins σ H' s' → (∃ m, s'.heap.Ns C m) → FpOk X pins H' C → Q (.ref D) H' → RR (.ref D) C (.ok .next) s') :
    wpAny (model X.prog X.w) X.A (newList []) (fun acc s₃ => wpAny (model X.prog X.w) X.A (newFunctionEnv scope X.env.globals cl [] X.env.qual none .none (some X.env)) (fun cenv s₄ =>
      codeAny (model X.prog X.w) X.A (.compStart (.ListComp elt [⟨target, iter, ifs, 0⟩] scope pos) 0 (.ref it) acc { cenv with scope := relabel scope X.env }) (RR acc cenv.locals) s₄) E s₃) E s₂ := by
  refine wpAny_newObj_type (wpAny_newFunctionEnv S.cell (by intro y hy; simp at hy) (fun h1 hns hsb => ?_) S.kind)
  dsimp only at hns hsb ⊢
  generalize hh3 : s₂.heap.push { cls := .type "list", dict := none, data := .seq ([] : List Value).toArray } = h3 at hns hsb ⊢
  generalize hD : s₂.heap.objs.size = D at *
  generalize hCC : h3.objs.size = C at *
  have eC : C = D + 1 := by rw [← hCC, ← hh3, Heap.size_push, hD]
  have hDC : D ≠ C := by omega
  have lt2 : ∀ b o, s₂.heap.get? b = some o → b < D := fun b o e => hD ▸ Heap.lt_size e
  have old : ∀ b o, s₂.heap.get? b = some o → h1.get? b = some o := fun b o e => by
    have l := lt2 b o e
    refine hsb.extBut b o (Nat.ne_of_lt (Nat.lt_of_lt_of_le l (by omega))) (Heap.get?_push_of_some _ ?_)
    rw [← hh3]
    exact Heap.get?_push_of_some _ e
  have newD : h1.get? D = some { cls := .type "list", data := .seq ([] : List Value).toArray 0 } := by
    refine hsb.extBut D _ hDC (Heap.get?_push_of_some _ ?_)
    rw [← hh3, ← hD]
    exact Heap.get?_push_size _ rfl
  have nD2 : s₂.heap.get? D = none := hD ▸ Heap.get?_none_of_le (Nat.le_refl _)
  have nC2 : s₂.heap.get? C = none := Heap.get?_none_of_le (by omega)
  have hHD : H₂ D = none := I.hok.fresh (by omega)
  have hHC : H₂ C = none := I.hok.fresh (by omega)
  have fpLt : ∀ b ∈ fp, b < D := fun b hb => by
    obtain ⟨o, e, _⟩ := T.obj 0 _ st b hb
    exact lt2 b o e
  obtain ⟨W, ⟨m0, w0⟩, turn⟩ := R D hHD
  -- the block's context and its invariant
  have okY : (cxC X N' scope cl C s₂ H₂ fp).Ok := by
    refine ⟨I.ok.mod, S.kind, I.ok.glob, I.ok.blt, ?_, ?_, fun y hy => S.has y hy, (fun y c hf _ => by cases hf), I.ok.hd, I.ok.frames, .inl rfl, ?_, I.bs, Nat.le_trans I.ok.bsz I.sz, ?_, ?_, I.stack, I.stkFree⟩
    · show s₂.heap.objs.size ≤ C
      omega
    · exact fun y z c h1 h2 => I.ok.inj y z c (S.sub y c h1) (S.sub z c h2)
    · intro b hb
      refine ⟨?_, fun y c e => (f2 b hb).2.2.2.2.1 y c (S.sub y c e)⟩
      exact Nat.ne_of_lt (Nat.lt_of_lt_of_le (fpLt b hb) (show D ≤ C by omega))
    · intro b o e hb
      rcases (f2 b hb).2.2.2.1 with z | z
      · exact I.ok.noex b o e z
      · rw [(I.ok.bs b o e).1] at z; cases z
    · intro b hb hz
      rcases List.mem_cons.mp (I.stkSub b hz) with z | z
      · exact (f2 b hb).2.1 z
      · exact (f2 b hb).2.2.1 z
  have I4 : Inv (cxC X N' scope cl C s₂ H₂ fp) [] (frees n js σ) (upd H₂ D (.lst [])) { s₂ with heap := h1, toks := s₂.toks + ([] : List (Str × Value)).length } := by
    refine ⟨okY, rfl, I.bare, ?_, ⟨_, hns, fun i y v e1 e2 e3 => ?_⟩, fun y c e => ?_, ?_, fun y c e => ?_, fun p hp => absurd hp (by simp), ?_, ?_⟩
    · exact Un.laid (fun b u e => old b u e) (Nat.le_of_eq hD) hHD
    · have hin : n ≤ i := by
        refine Nat.le_of_not_lt fun hi => ?_
        unfold frees at e2
        rw [List.getElem?_append_left (by simpa using hi), List.getElem?_replicate] at e2
        split at e2 <;> cases e2
      obtain ⟨k, rfl⟩ : ∃ k, i = n + k := ⟨i - n, by omega⟩
      unfold frees at e2
      rw [List.getElem?_append_right (by simp), List.length_replicate, Nat.add_sub_cancel_left, List.getElem?_map] at e2
      cases ej : js[k]? with
      | none => rw [ej] at e2; cases e2
      | some j =>
        rw [ej] at e2
        have e2' : σ.getD j none = some v := Option.some.inj e2
        obtain ⟨y', a1, a2, a3, a4, a5⟩ := S.frees k j ej
        have ey : y' = y := Option.some.inj (a1.symm.trans e1)
        subst ey
        have e4 : σ[j]? = some (some v) := by
          rw [List.getD_eq_getElem?_getD] at e2'
          cases q : σ[j]? with
          | none => rw [q] at e2'; cases e2'
          | some z => rw [q] at e2'; exact congrArg some e2'
        obtain ⟨m, hm, hl⟩ := I.loc
        have vis : Vis X.env.scope y' := by
          rcases a3 with z | z
          · exact .inr (.inl z)
          · exact .inr (.inr z)
        obtain ⟨u, ru, lk⟩ := hl j y' v a2 e4 vis
        refine ⟨u, ru, ?_⟩
        rcases lk with ⟨z, _⟩ | ⟨_, c, z1, o, z2, z3⟩
        · rcases a3 with y | y <;> (rw [z] at y; cases y)
        · exact .inr ⟨a4, c, a5.trans z1, o, old c o z2, z3⟩
    · obtain ⟨v, o, z1, z2⟩ := I.cell y c (S.sub y c e)
      exact ⟨v, o, old c o z1, z2⟩
    · show upd H₂ D _ C = none
      rw [upd_ne (Ne.symm hDC)]
      exact hHC
    · obtain ⟨v, o, z1, z2⟩ := I.cell y c (S.sub y c e)
      have l := lt2 c o z1
      rw [upd_ne (Nat.ne_of_lt l)]
      exact I.freeC y c (S.sub y c e)
    · exact I.hok.laid old (Nat.le_of_eq hD) ⟨Nat.zero_le _, [], 0, .nil, newD⟩
    · unfold frees
      show _ = N'.length
      rw [S.len, List.length_append, List.length_replicate, List.length_map]
  have fY : ∀ {H' : Hp}, (∀ b ∈ fp, H' b = none) → ∀ b ∈ fp, FpOk (cxC X N' scope cl C s₂ H₂ fp) [] H' b := fun hn b hb => by
    refine ⟨hn b hb, (okY.exf b hb).1, okY.exfs b hb, .inl hb, (okY.exf b hb).2, fun p hp => absurd hp (by simp)⟩
  have st4 : tn 0 h1 := T.keep _ _ _ st fun b hb o e => old b o e
  have fr4 : ∀ b ∈ fp, upd H₂ D (.lst []) b = none := fun b hb => by
    rw [upd_ne (Nat.ne_of_lt (fpLt b hb))]
    exact (f2 b hb).1
  have loop : ∀ s3 : Shared, s3 = { s₂ with heap := h1, toks := s₂.toks + ([] : List (Str × Value)).length } →
      codeAny (model X.prog X.w) X.A (.compLoop (.ListComp elt [⟨target, iter, ifs, 0⟩] scope pos) 0 (.ref it) (.ref D) (compEnvC scope cl C X.env)) (RR (.ref D) C) s3 := by
    rintro s3 rfl
    refine codeAny_loop rfl (fun k s' => ∃ i ys H', Inv (cxC X N' scope cl C s₂ H₂ fp) [] (frees n js σ) H' s' ∧ tn i s'.heap ∧ (∀ b ∈ fp, H' b = none) ∧ W i k ys H') (fun k s5 hI => ?_) m0 ⟨0, [], _, I4, st4, fr4, w0⟩
    obtain ⟨i, ys, H5, I5, st5, fr5, w5⟩ := hI
    obtain ⟨hD5, hsz, alt⟩ := turn i k ys H5 w5
    show wpAny _ X.A ((compTurn (.ListComp elt [⟨target, iter, ifs, 0⟩] scope pos) 0 (.ref it) (.ref D) (compEnvC scope cl C X.env)).onRaise (fun x => do noteFrame x (compEnvC scope cl C X.env); theTreesLotGoes x)) _ _ s5
    refine wpAny_noted ?_
    rw [compTurn_list]
    refine wpAny_bind (wpAny_standAt ?_)
    rcases alt with ⟨stop, q⟩ | ⟨go, NN, hNN, step⟩
    · refine wpAny_bind (thn (T.done (cxC X N' scope cl C s₂ H₂ fp) rfl rfl rfl hc i [] s5 _ H5 _ I5 (fY fr5) st5 stop) fun r s6 hr => ?_)
      obtain ⟨rfl, I6⟩ := hr
      refine wpAny_pure (hRR D C s6 H5 ?_ ?_ ?_ q)
      · exact I.call' (ch := fp) I6.os I6.base I6.hok I6.bare fun b hb => ⟨(f2 b hb).2.2.2.1, (f2 b hb).2.1, (f2 b hb).2.2.2.2.1, (f2 b hb).2.2.2.2.2⟩
      · obtain ⟨m, hm, _⟩ := I6.loc
        exact ⟨m, hm⟩
      · exact I.fpNew nC2 I6.free
    · refine wpAny_bind (thn (T.item (cxC X N' scope cl C s₂ H₂ fp) rfl rfl rfl hc i [] s5 _ H5 _ I5 (fY fr5) st5 go) fun r s6 hr => ?_)
      obtain ⟨u, rfl, h6⟩ := hr
      refine wpAny_bind (thn h6 fun _ s7 h7 => ?_)
      obtain ⟨x, H7, I7, r7, y7, st7, fr7⟩ := h7
      have I7' := I7.pinned (fY fr7) (T.obj _ _ st7)
      -- what a turn's end gives
      have fin : ∀ {σ8 : St} {H8 : Hp} {s8 : Shared} {zs : List V}, Inv (cxC X N' scope cl C s₂ H₂ fp) ([] ++ pinsAt fp s7.heap) σ8 H8 s8 → (σ8.length = (frees n js σ).length ∧ ∀ i, n ≤ i → σ8[i]? = (frees n js σ)[i]?) → NN zs H8 →
          ∃ m, m < k ∧ ∃ i ys H', Inv (cxC X N' scope cl C s₂ H₂ fp) [] (frees n js σ) H' s8 ∧ tn i s8.heap ∧ (∀ b ∈ fp, H' b = none) ∧ W i m ys H' := fun {σ8 H8 s8 zs} I8 ag n8 => by
        obtain ⟨m', hm, w8⟩ := hNN zs H8 n8
        refine ⟨m', hm, i + 1, zs, H8, ?_, T.keep _ _ _ st7 fun b hb o e => (I8.pin (b, o) (List.mem_append_right _ (List.mem_append_right _ (mem_pinsAt hb e)))).1, fun b hb => ?_, w8⟩
        · refine (I8.unpinned).weak ag.1.symm fun j v e => ?_
          by_cases hj : n ≤ j
          · rw [ag.2 j hj]; exact e
          · unfold frees at e
            rw [List.getElem?_append_left (by simpa using hj), List.getElem?_replicate] at e
            split at e <;> cases e
        · obtain ⟨o, e, d⟩ := T.obj _ _ st7 b hb
          exact (I8.pin (b, o) (List.mem_append_right _ (List.mem_append_right _ (mem_pinsAt hb e)))).2.1
      refine wpAny_bind (wpAny_mono (hg C s₂ H₂ fp _ s7 _ H7 x u _ I7' r7 (gk _ _ _ _ (step x H7 y7))) (fun _ s8 h8 => ?_) fun _ _ z => z.elim)
      obtain ⟨σ8, H8, I8, q8, ag⟩ := h8
      refine wpAny_bind (wpAny_mono (ht C s₂ H₂ fp _ s8 σ8 H8 _ I8 q8) (fun ok s9 h9 => ?_) fun _ _ z => z.elim)
      obtain ⟨H9, I9, q9⟩ := h9
      cases ok with
      | false =>
        rw [if_neg (by decide)] at q9
        exact wpAny_pure ⟨rfl, fin I9 ag q9⟩
      | true =>
        rw [if_pos rfl] at q9
        refine wpAny_bind (wpAny_bind (wpAny_mono (he C s₂ H₂ fp _ s9 σ8 H9 _ I9 q9) (fun y sa ha => ?_) fun _ _ z => z.elim))
        obtain ⟨yv, Ha, Ia, ra, hDa, wa⟩ := ha
        refine wpAny_bind (wpAny_mono (mt_append (X := cxC X N' scope cl C s₂ H₂ fp) _ sa σ8 Ha (.ref D) [yv] (.ref D) [y] (fun v H' => v = .non ∧ H' = upd Ha D (.lst (ys ++ [yv]))) Ia rfl (.cons ra .nil) ⟨D, ys, yv, rfl, rfl, hDa, hsz, rfl, rfl⟩) (fun v sb hb => ?_) fun _ _ z => z.elim)
        obtain ⟨v', Hb, Ib, rb, _, rfl⟩ := hb
        exact wpAny_pure (wpAny_pure ⟨rfl, fin Ib ag wa⟩)
  exact codeAny_compStart_list (loop _ rfl) (T.self X.A 0 _ _ _ st4 (loop _ rfl))
end
section
variable {X : Cx} {elt iter target : Expr} {ifs : List Expr} {scope : Scope} {pos : Pos} {cl : List (Str × Addr)} {N' : List Str} {n : Nat} {js : List Nat} {g : TG} {tt : TT} {te : TE} {wi : TI}
def tComp (wi : TI) (g : TG) (tt : TT) (te : TE) (n : Nat) (js : List Nat) : TE := fun σ H Q => wi σ H fun J H1 => CompR J g tt te (frees n js σ) H1 Q
theorem pe_comp (hc : X.calm = true) (S : CompS X N' scope cl n js) (gk : GK n g) (hi : PI X target iter wi) (hg : ∀ C s₂ H₂ fp, PG (cxC X N' scope cl C s₂ H₂ fp) target g) (ht : ∀ C s₂ H₂ fp, PTs (cxC X N' scope cl C s₂ H₂ fp) ifs tt)
    (he : ∀ C s₂ H₂ fp, PE (cxC X N' scope cl C s₂ H₂ fp) elt te) (hs : ∀ x, foldedSetIterable iter X.env x = pure x := by intro _; rfl) : PE X (.ListComp elt [⟨target, iter, ifs, 0⟩] scope pos) (tComp wi g tt te n js) := by
  intro pins s σ H Q I h
  rw [eval_ListComp]
  refine wpAny_comprehension_free (use := none) rfl hs S.clos S.kind S.names (thn (hi pins s σ H _ I h) fun v s1 h1 => thn h1 fun itv s2 h2 => ?_)
  obtain ⟨it, fp, tn, J, H2, rfl, I2, T, st2, f2, R⟩ := h2
  refine comp_block hc S gk hg ht he I2 T st2 f2 R fun D C s' H' I' hn f q => ?_
  obtain ⟨m, hn⟩ := hn
  refine ⟨m, hn, fun h' sb => ⟨.ref D, H', ?_, rfl, q⟩⟩
  exact I'.turned (t' := s'.toks) (fun b o hb e => (sb.2 b hb).trans e) f.1 f.2.1 f.2.2.2.1 f.2.2.2.2.1 f.2.2.2.2.2
def tAsgC (i : Nat) (wi : TI) (g : TG) (tt : TT) (te : TE) (n : Nat) (js : List Nat) : TS := fun D σ H => wi σ H fun J H1 => CompR J g tt te (frees n js σ) H1 fun v H' => D.nx (σ.set i (some v)) H'
theorem ps_setC {i : Nat} {x : Str} {pos' spos : Pos} (hc : X.calm = true) (S : CompS X N' scope cl n js) (gk : GK n g) (hN : X.N.Nodup) (hx : X.N[i]? = some x) (hl : X.env.scope.names.lookup x = some .local) (hi : PI X target iter wi)
    (hg : ∀ C s₂ H₂ fp, PG (cxC X N' scope cl C s₂ H₂ fp) target g) (ht : ∀ C s₂ H₂ fp, PTs (cxC X N' scope cl C s₂ H₂ fp) ifs tt) (he : ∀ C s₂ H₂ fp, PE (cxC X N' scope cl C s₂ H₂ fp) elt te)
    (hsw : swapsWith (.ListComp elt [⟨target, iter, ifs, 0⟩] scope pos) (some (.Name x pos')) spos.line X.env = pure true := by rfl) (hs : ∀ x, foldedSetIterable iter X.env x = pure x := by intro _; rfl) :
    PS X (.Assign [.Name x pos'] (.ListComp elt [⟨target, iter, ifs, 0⟩] scope pos) spos) (tAsgC i wi g tt te n js) := by
  intro pins s σ H D I h
  rw [exec_Assign_Name_used _ _ _ _ hsw]
  refine wpAny_bind (wpAny_standAt (wpAny_bind ?_))
  show wpAny _ X.A (do let _ ← comprehension (.ListComp elt [⟨target, iter, ifs, 0⟩] scope pos) scope X.env _ (newList []) false (eval iter X.env) (some (assign (.Name x pos') X.env))) _ _ s
  refine wpAny_bind (wpAny_mono (wpAny_comprehension_free (use := some (assign (.Name x pos') X.env)) (Q := fun _ s' => SP X pins D .next s') rfl hs S.clos S.kind S.names
    (thn (hi pins s σ H _ I h) fun v s1 h1 => thn h1 fun itv s2 h2 => ?_)) (fun _ s' q => wpAny_pure (wpAny_pure q)) fun _ _ e => e)
  obtain ⟨it, fp, tn, J, H2, rfl, I2, T, st2, f2, R⟩ := h2
  refine comp_block hc S gk hg ht he I2 T st2 f2 R fun C0 C s' H' I' hn f q => ?_
  obtain ⟨m, hn⟩ := hn
  show wpAny _ X.A (assign (.Name x pos') X.env (.ref C0)) _ _ s'
  refine wpAny_assign_Name (store_ok2 (v := .ref C0) I' hN hx (.inl hl) rfl (fun s'' I'' ⟨a, sb, ha⟩ => ?_) (.inr hl))
  have hCa : C ≠ a := by
    rcases ha with z | z
    · rw [z]; exact f.2.1
    · exact Ne.symm (f.2.2.2.2.1 _ _ z)
  refine ⟨m, hn.sameBut sb hCa, fun h' sb' => ⟨_, H', ?_, q⟩⟩
  exact I''.turned (t' := s''.toks) (fun b o hb e => (sb'.2 b hb).trans e) f.1 f.2.1 f.2.2.2.1 f.2.2.2.2.1 f.2.2.2.2.2
end
end L2
namespace L2
open PySem PySem.Spec PyProof.Rows
section
variable {X : Cx}
theorem call_isinst : CallR X (.builtin "isinstance") (fun xs H Q => ∃ (x : V) (T : String) (t : Value) (b : Bool), xs = [x, .ty T] ∧ TyOf X.K H x t ∧ PySem.W.kitOne X.K t (.type T) = some b ∧ Q (.bl b) H) := by
  intro pins s σ H xs us Q I r h
  obtain ⟨x, T, t, b, rfl, ty, e, q⟩ := h
  obtain ⟨u, u', rfl, r1, r2⟩ := vals2 r
  cases (show u' = Value.type T from r2)
  exact isinst_ok I r1 ty e fun tk => ⟨.bl b, H, I.tok tk, rfl, q⟩
theorem call_isinstT : CallR X (.builtin "isinstance") (fun xs H Q => ∃ (x : V) (a : Addr) (Ts : List String) (t : Value) (b : Bool), xs = [x, .ref a] ∧ H a = some (.tup (Ts.map V.ty)) ∧ TyOf X.K H x t ∧ (∀ C, t ≠ .ref C) ∧ PySem.W.kitAny X.K t (Ts.map Value.type) = some b ∧ Q (.bl b) H) := by
  intro pins s σ H xs us Q I r h
  obtain ⟨x, a, Ts, t, b, rfl, ha, ty, nc, e, q⟩ := h
  obtain ⟨u, u', rfl, r1, r2⟩ := vals2 r
  cases (show u' = Value.ref a from r2)
  obtain ⟨z, its, rv, o, ho, hc, n, hd⟩ := (show ObjOk X.prog X.w H s.heap a (.tup (Ts.map V.ty)) from I.hok a _ ha)
  have ei : its = Ts.map Value.type := by
    clear ha z ho hd e
    induction Ts generalizing its with
    | nil => cases rv; rfl
    | cons T Ts ih =>
      cases rv with
      | cons h t =>
        rw [List.map_cons, ih _ t]
        exact congrArg (· :: _) h
  subst ei
  obtain ⟨oc, odd, od, osl⟩ := o
  dsimp only at hc hd
  subst hc hd
  have fin : ∀ tk, EP X pins σ Q (.bool b) { s with toks := tk } := fun tk => ⟨.bl b, H, I.tok tk, rfl, q⟩
  cases ty with
  | non => cases (show u = Value.none from r1); exact PySem.W.kia_tup PySem.W.kitx_none I.kIn True.intro ho e (fun z => nomatch z) fin
  | bl y => cases (show u = Value.bool y from r1); exact PySem.W.kia_tup PySem.W.kitx_bool I.kIn True.intro ho e (fun z => nomatch z) fin
  | int i => obtain ⟨t, q⟩ := (show ∃ t, u = Value.int i t from r1); cases q; exact PySem.W.kia_tup PySem.W.kitx_int I.kIn True.intro ho e (fun z => nomatch z) fin
  | str y => obtain ⟨t, q⟩ := (show ∃ t, u = Value.str y t from r1); cases q; exact PySem.W.kia_tup PySem.W.kitx_str I.kIn True.intro ho e (fun z => nomatch z) fin
  | flt y => obtain ⟨t, q⟩ := (show ∃ t, u = Value.float y t from r1); cases q; exact PySem.W.kia_tup PySem.W.kitx_float I.kIn True.intro ho e (fun z => nomatch z) fin
  | @lst c xs ea =>
    cases (show u = Value.ref c from r1)
    obtain ⟨_, _, n, _, h1⟩ := (show ObjOk X.prog X.w H s.heap c (.lst xs) from I.hok c _ ea)
    exact PySem.W.kia_tup PySem.W.kitx_list I.kIn ⟨_, h1, rfl⟩ ho e (fun z => nomatch z) fin
  | @frz c ob xs ea =>
    cases (show u = Value.ref c from r1)
    obtain ⟨_, _, _, n, _, h1⟩ := (show ObjOk X.prog X.w H s.heap c (.frz ob (.lst xs)) from I.hok c _ ea)
    exact PySem.W.kia_tup PySem.W.kitx_list I.kIn ⟨_, h1, rfl⟩ ho e (fun z => nomatch z) fin
  | @tup c xs ea =>
    cases (show u = Value.ref c from r1)
    obtain ⟨_, _, _, p⟩ := (show ObjOk X.prog X.w H s.heap c (.tup xs) from I.hok c _ ea)
    obtain ⟨o, h1, h2, _⟩ := p
    exact PySem.W.kia_tup PySem.W.kitx_tuple I.kIn ⟨o, h1, h2⟩ ho e (fun z => nomatch z) fin
  | @dK c kvs ea =>
    cases (show u = Value.ref c from r1)
    obtain ⟨_, _, vs, _, p⟩ := (show ObjOk X.prog X.w H s.heap c (.dK kvs) from I.hok c _ ea)
    obtain ⟨o, es, ep, h1, h2, _⟩ := p
    exact PySem.W.kia_tup PySem.W.kitx_dict I.kIn ⟨o, h1, h2.1⟩ ho e (fun z => nomatch z) fin
  | @dT c kvs ea =>
    cases (show u = Value.ref c from r1)
    obtain ⟨_, _, xs, _, o, es, ep, h1, h2, _⟩ := (show ObjOk X.prog X.w H s.heap c (.dT kvs) from I.hok c _ ea)
    exact PySem.W.kia_tup PySem.W.kitx_dict I.kIn ⟨o, h1, h2.1⟩ ho e (fun z => nomatch z) fin
  | @ins c C dx fs ea cl ha hn htk hm => exact absurd rfl (nc C)
theorem sorted_lay {pins : List (Addr × Obj)} {σ : St} {H : Hp} {s : Shared} {vs : List Value} {out : Array Value} {ns' : List Int} (I : Inv X pins σ H s) (hi : IntsAre out.toList ns') (hl : ns'.length ≤ sizeLine) :
    Inv X pins σ (upd H (s.heap.objs.size + 1) (.lst (ns'.map V.int))) { s with heap := sortedAll s.heap vs out } := by
  obtain ⟨e, he⟩ := sortedAll_at s.heap vs out
  refine I.laid (t' := s.toks) (fun b u q => sortedAll_old q) (Nat.le_succ _) ⟨by rw [List.length_map]; exact hl, out.toList, e, vals_ints hi, ?_⟩
  rw [he]
theorem call_sorted : CallR X (.builtin "sorted") (fun xs H Q => ∃ (a : Addr) (ns : List Int), xs = [.ref a] ∧ SqL X.K H a (ns.map V.int) ∧ ns.length < 64 ∧ ∀ (p : Addr) (ns' : List Int), H p = none → ns'.Perm ns → ns'.Pairwise (· ≤ ·) → Q (.ref p) (upd H p (.lst (ns'.map V.int)))) := by
  intro pins s σ H xs us Q I r h
  obtain ⟨a, ns, rfl, hS, h64, q⟩ := h
  obtain ⟨u, rfl, r1⟩ := vals1 r
  cases (show u = Value.ref a from r1)
  obtain ⟨its, rv, p, hz⟩ := I.list hS
  have hi := intsAre_of rv
  have hl : its.length = ns.length := by rw [← rv.length, List.length_map]
  refine sorted_ints p.isList hi (by omega) fun out ns' a1 a2 a3 => ?_
  have l2 := a2.length_eq
  refine ⟨.ref (s.heap.objs.size + 1), _, sorted_lay I a1 ?_, rfl, q _ ns' (I.hok.fresh (Nat.le_succ _)) a2 a3⟩
  rw [l2]
  exact Nat.le_trans (Nat.le_of_lt h64) (by decide)
def tSortR (K : PySem.W.Frag) (te : TE) : TE := fun σ H Q => te σ H fun x H1 => ∃ (a : Addr) (ns : List Int), x = .ref a ∧ SqL K H1 a (ns.map V.int) ∧ ns.length < 64 ∧ ∀ (p : Addr) (ns' : List Int), H1 p = none → ns'.Perm ns → ns'.Pairwise (· ≥ ·) → Q (.ref p) (upd H1 p (.lst (ns'.map V.int)))
theorem pe_sortR {e : Expr} {te : TE} {p pos kp cp : Pos} {k : Nat} (hg : Gl X "sorted") (hm : X.mg "sorted" = none) (he : PE X e te) (hs : starEach [e] X.env = [(false, eval e X.env)] := by rfl) :
    PE X (.Call (.Name "sorted" p) [e] [⟨some "reverse", .Constant (.bool true) k cp, kp⟩] pos) (tSortR X.K te) := by
  intro pins s σ H Q I h
  refine wpAny_Call_Name_kw (ld_blt I hg hm boot_sorted ?_ (by decide) (by decide))
  refine callWith_kw ?_ (by rw [hs]; rfl) (by rw [hs]; rfl)
  have hA := (pa_cons he pa_nil hs) pos pins s σ H (fun vs H1 => match vs with | [x] => (∃ (a : Addr) (ns : List Int), x = .ref a ∧ SqL X.K H1 a (ns.map V.int) ∧ ns.length < 64 ∧ ∀ (p : Addr) (ns' : List Int), H1 p = none → ns'.Perm ns → ns'.Pairwise (· ≥ ·) → Q (.ref p) (upd H1 p (.lst (ns'.map V.int)))) | _ => False) I h
  refine thn hA fun us s1 ⟨vs, H1, I1, r, q0⟩ => ?_
  match vs, r, q0 with
  | [x], r, ⟨a, ns, e2, hS, h64, q⟩ =>
    subst e2
    obtain ⟨u, rfl, r1⟩ := vals1 r
    cases (show u = Value.ref a from r1)
    refine kws_cons (Constant_bool (kws_nil ?_))
    obtain ⟨its, rv, pl, hz⟩ := I1.list hS
    have hi := intsAre_of rv
    have hl : its.length = ns.length := by rw [← rv.length, List.length_map]
    refine sorted_ints_rev (b := true) pl.isList hi (by omega) fun out ns' a1 a2 a3 => ?_
    have l2 := a2.length_eq
    refine ⟨.ref (s1.heap.objs.size + 1), _, sorted_lay I1 a1 ?_, rfl, q _ ns' (I1.hok.fresh (Nat.le_succ _)) a2 a3⟩
    rw [l2]
    exact Nat.le_trans (Nat.le_of_lt h64) (by decide)
end
theorem lri_len : typeLookup (.type "list_reverseiterator") "__len__" = pure none := by rw [typeLookup_type, builtinLookup_eq_fast]; kernel_rfl
theorem lri_hint : typeLookup (.type "list_reverseiterator") "__length_hint__" = pure (some (.builtin "list_reverseiterator.__length_hint__")) := by rw [typeLookup_type, builtinLookup_eq_fast]; kernel_rfl
theorem sub_lri : isSubtype (.type "list_reverseiterator") (.type "list_reverseiterator") = pure true := by rw [isSubtype_type]; kernel_rfl
section
variable {prog : Program} {w : World} {A : Around} {E : Value → Shared → Prop} {s : Shared} {it l : Addr} {items : Array Value}
theorem hint_lri {Q : Bool → Shared → Prop} (hT : s.TypeIs (.ref it) "list_reverseiterator") (h : Q false s) : wpAny (model prog w) A (Builtin.List.listLengthHint (.ref it)) Q E s := by
  unfold Builtin.List.listLengthHint
  refine wpAny_bind (wpAny_specialOf hT lri_len ?_)
  wp_delta
  refine wpAny_ite_split (fun hab => absurd hab (by decide +kernel)) (fun _ => ?_)
  refine wpAny_ite_split (fun hab => absurd hab (by decide +kernel)) (fun _ => ?_)
  refine wpAny_bind (wpAny_specialOf hT lri_hint ?_)
  generalize hid : ("list_reverseiterator.__length_hint__" : String) = idn
  wp_delta
  have hsp : splitId idn = some ("list_reverseiterator", "__length_hint__") := by subst hid; decide +kernel
  rw [hsp]
  subst hid
  refine wpAny_bind (wpAny_isInstance (T := "list_reverseiterator") (b := true) hT sub_lri ?_)
  refine wpAny_ite_split (fun z => absurd z (by decide)) (fun _ => ?_)
  refine wpAny_ite_split (fun _ => ?_) (fun z => absurd (by decide +kernel) z)
  refine wpAny_ite_split (fun z => absurd z (by decide +kernel)) (fun _ => ?_)
  exact wpAny_pure h
theorem list_lri {Q : Value → Shared → Prop} (hh : A.handled = none) (hit : s.heap.IsRevIter it l ((items.size : Int) - 1)) (hl : s.heap.IsList l items) (hne : l ≠ it) (hz : items.size ≤ sizeLine)
    (hQ : ∀ h' tk acc c, (∀ b o, b ≠ it → s.heap.get? b = some o → h'.get? b = some o) → h'.get? s.heap.objs.size = some { cls := .type "list", dict := none, data := .seq acc c, slots := #[] } → acc.toList = items.toList.reverse →
      Q (.ref s.heap.objs.size) { s with heap := h', toks := tk }) : wpAny (model prog w) A (call (.type "list") [.ref it]) Q E s := by
  have lt1 : it < s.heap.objs.size := let ⟨_, e, _⟩ := hit; Heap.lt_size e
  have lt2 : l < s.heap.objs.size := let ⟨_, e, _⟩ := hl; Heap.lt_size e
  generalize hS0 : s.heap.objs.size = S at *
  have nSi : S ≠ it := Nat.ne_of_gt lt1
  have nSl : S ≠ l := Nat.ne_of_gt lt2
  refine callType_codes (Q₁ := fun obj s1 => obj = .ref S ∧ s1 = { s with heap := s.heap.push { cls := .type "list", data := .seq #[] } }) PySem.F.called_list (PySem.F.typeCall_list_1 _) PySem.F.entry_list_init (code_list_new _ ⟨by rw [hS0], rfl⟩) fun obj s1 e1 => ?_
  obtain ⟨rfl, rfl⟩ := e1
  have eS : (s.heap.push { cls := .type "list", data := .seq #[] }).get? S = some { cls := .type "list", data := .seq #[] } := by rw [← hS0]; exact Heap.get?_push_size _ rfl
  refine ⟨⟨_, eS, rfl⟩, PySem.F.args_list_init_2 _ _, ?_⟩
  show wpAny _ _ (do let was ← Builtin.List.listItems (.ref S); Builtin.List.listUpdate (.ref S) (fun _ => #[]); letGo was.toList.reverse; Builtin.List.listExtendWith (.ref S) (.ref it) .none) _ _ _
  refine wpAny_bind ?_
  unfold Builtin.List.listItems
  refine wpAny_bind (wpAny_seqItems eS rfl (wpAny_pure ?_))
  show wpAny _ _ (updateSeq S (fun _ => #[]) >>= fun _ => letGo (#[] : Array Value).toList.reverse >>= fun _ => Builtin.List.listExtendWith (.ref S) (.ref it) .none) _ _ _
  refine wpAny_bind (wpAny_updateSeq eS rfl ?_)
  have eS2 := Heap.get?_update_self (Obj.mapSeq (fun _ => (#[] : Array Value))) eS rfl
  have up : ∀ b o, s.heap.get? b = some o → ((s.heap.push { cls := .type "list", data := .seq #[] }).update S (Obj.mapSeq (fun _ => (#[] : Array Value)))).get? b = some o := fun b o e => by
    have hb : b ≠ S := by
      have := Heap.lt_size e
      rw [hS0] at this
      exact Nat.ne_of_lt this
    rw [Heap.get?_update_other _ _ (Ne.symm hb)]
    exact Heap.get?_push_of_some _ e
  refine wpAny_bind (wpAny_letGo ?_)
  generalize hh2 : (s.heap.push { cls := .type "list", data := .seq #[] }).update S (Obj.mapSeq (fun _ => (#[] : Array Value))) = h2 at *
  have hit2 : h2.IsRevIter it l ((items.size : Int) - 1) := hit.at fun o e => up it o e
  have hl2 : h2.IsList l items := hl.at fun o e => up l o e
  have eS3 : ∃ c0, h2.get? S = some { cls := .type "list", data := .seq #[] c0 } := ⟨_, eS2⟩
  obtain ⟨c0, eS3⟩ := eS3
  unfold Builtin.List.listExtendWith
  refine wpAny_bind (wpAny_typeOf (T := "list_reverseiterator") (Heap.IsRevIter.typeIs (s := { s with heap := h2 }) hit2) ?_)
  have h1 : Builtin.List.listSameRef (.ref S) (.ref it) = false := by simp [Builtin.List.listSameRef, nSi]
  have k1 : (Value.type "list_reverseiterator" == Value.type "list") = false := by decide
  have k2 : (Value.type "list_reverseiterator" == Value.type "tuple") = false := by decide
  simp only [h1, k1, k2, Bool.or_false, Bool.false_eq_true, if_false]
  refine wpAny_bind (wpAny_pyIter_revIter (s := { s with heap := h2 }) hit2 ?_)
  refine wpAny_bind (wpAny_holding (hint_lri (s := { s with heap := h2 }) (Heap.IsRevIter.typeIs (s := { s with heap := h2 }) hit2) ?_))
  refine wpAny_ite_split (fun z => absurd z (by decide +kernel)) (fun _ => ?_)
  have hSf : S ∉ [it, l] := by
    simp only [List.mem_cons, List.not_mem_nil, or_false, not_or]
    exact ⟨nSi, nSl⟩
  refine wpAny_pure ⟨plainId_quiet PySem.F.plain_extend_loop _, ?_⟩
  have W := Walks.listRev (prog := prog) (w := w) (A := A.in1.in1) hh it l hne items
  refine codeAny_extend_loopS W.toS hz S hSf .none items.size 0 _ #[] c0 rfl (Nat.zero_le _) ⟨Nat.zero_le _, by simpa using hit2, hl2⟩ eS3 (ItemsOf.nil _) fun s' acc c' mv eS4 hacc => ?_
  rw [Moved.eq_with mv]
  refine ⟨rfl, hQ s'.heap s'.toks acc c' (fun b o hb e => mv.heap b o (fun hm => ?_) (up b o e)) eS4 ?_⟩
  · rcases List.mem_cons.mp hm with z | z
    · have := Heap.lt_size e
      rw [hS0, z] at this
      exact Nat.lt_irrefl _ this
    · exact hb (List.mem_singleton.mp z)
  · refine List.ext_getElem? fun j => ?_
    by_cases hj : j < items.size
    · have ha : acc[j]? = some (acc[j]'(by rw [hacc.1]; exact hj)) := Array.getElem?_eq_getElem _
      have hp := hacc.2 j _ ha
      rw [List.getElem?_reverse (by simpa using hj), Array.getElem?_toList, Array.getElem?_toList, ha, Array.length_toList]
      exact hp.symm
    · rw [List.getElem?_eq_none (by rw [Array.length_toList, hacc.1]; omega), List.getElem?_eq_none (by rw [List.length_reverse, Array.length_toList]; omega)]
end
theorem Inv.adopt {X : Cx} {pins : List (Addr × Obj)} {σ : St} {H : Hp} {s : Shared} {p : Addr} {o : HO} (I : Inv X pins σ H s) (f : FpOk X pins H p) (new : ObjOk X.prog X.w (upd H p o) s.heap p o) : Inv X pins σ (upd H p o) s := by
  have ne : ∀ b u, H b = some u → b ≠ p := fun b u e => ne_of_none e f.1
  refine I.step (h' := s.heap) (g' := s.gens) (d' := s.drawn) (t' := s.toks) (ch := [p]) (fun b hb => ?_) (fun b o _ _ _ e _ => e) (fun b o _ _ _ e _ => ⟨o.slots, e⟩) (fun b o hb _ n => ?_) (fun b o _ e => ⟨o, e⟩) (fun b xs e => ?_) (fun b u v e => ?_) (fun b ps e => ⟨#[], ?_⟩) (fun m hm => hm) (fun b u e => ?_) I.bare
  · have e : b = p := by simpa using hb
    subst e
    exact ⟨f.2.2.2.1, f.2.1, f.2.2.2.2.1, f.2.2.2.2.2⟩
  · rw [upd_ne (fun z => hb (by simp [z]))]; exact n
  · rw [upd_ne (ne b _ e)]; exact e
  · rw [upd_ne (ne b _ e)]; exact e
  · rw [upd_ne (ne b _ e), e]; simp
  · by_cases hb : b = p
    · subst hb
      rw [upd_same] at e
      cases e
      exact new
    · rw [upd_ne hb] at e
      exact (I.hok b u e).stay (fun c v _ q => q) (fun c q => by rw [upd_ne (ne c _ q)]; exact q) fun c xs q => by rw [upd_ne (ne c _ q)]; exact q
section
variable {X : Cx}
def tRevL (K : PySem.W.Frag) (te : TE) : TE := fun σ H Q => te σ H fun x H1 => ∃ (a : Addr) (xs : List V), x = .ref a ∧ SqL K H1 a xs ∧ ∀ p : Addr, H1 p = none → Q (.ref p) (upd H1 p (.lst xs.reverse))
theorem pe_revL {e : Expr} {te : TE} {p p2 pos pos2 : Pos} (hc : X.calm = true) (hg : Gl X "list") (hm : X.mg "list" = none) (hg2 : Gl X "reversed") (hm2 : X.mg "reversed" = none) (he : PE X e te) (hs : starEach [e] X.env = [(false, eval e X.env)] := by rfl)
    (hs2 : starEach [.Call (.Name "reversed" p2) [e] [] pos2] X.env = [(false, eval (.Call (.Name "reversed" p2) [e] [] pos2) X.env)] := by rfl) :
    PE X (.Call (.Name "list" p) [.Call (.Name "reversed" p2) [e] [] pos2] [] pos) (tRevL X.K te) := by
  intro pins s σ H Q I h
  refine wpAny_Call_Name_kw (ld_blt I hg hm boot_list ?_ (by decide) (by decide))
  refine PyProof.Rows.callWith_type1 ?_ hs2 rfl
  rw [hs2]
  refine Calls.spliced_cons ?_
  refine wpAny_Call_Name_kw (ld_blt I hg2 hm2 PyProof.Rows.Boot.«reversed» ?_ (by decide) (by decide))
  refine PyProof.Rows.callWith_type1 ?_ hs rfl
  have hA := (pa_cons he pa_nil hs) pos2 pins s σ H (fun vs H1 => match vs with | [x] => (∃ (a : Addr) (xs : List V), x = .ref a ∧ SqL X.K H1 a xs ∧ ∀ p : Addr, H1 p = none → Q (.ref p) (upd H1 p (.lst xs.reverse))) | _ => False) I h
  refine thn hA fun us s1 ⟨vs, H1, I1, r, q0⟩ => ?_
  match vs, r, q0 with
  | [x], r, ⟨a, xs, e2, hS, q⟩ =>
    subst e2
    obtain ⟨u, rfl, r1⟩ := vals1 r
    cases (show u = Value.ref a from r1)
    obtain ⟨its, rv, pl, hz⟩ := I1.list hS
    refine call_reversed_list pl.isList (Calls.spliced_nil ?_)
    generalize hi0 : s1.heap.objs.size = it
    have nit : s1.heap.get? it = none := hi0 ▸ Heap.get?_none_of_le (Nat.le_refl _)
    have hnt : H1 it = none := I1.hok.fresh (Nat.le_of_eq hi0)
    have eit : (s1.heap.push (revObj a ((its.toArray.size : Int) - 1))).get? it = some (revObj a ((its.toArray.size : Int) - 1)) := by rw [← hi0]; exact Heap.get?_push_size _ rfl
    have I2 : Inv X pins σ H1 { s1 with heap := s1.heap.push (revObj a ((its.toArray.size : Int) - 1)) } := I1.kept (t' := s1.toks) fun b o q => Heap.get?_push_of_some _ q
    have hl2 : (s1.heap.push (revObj a ((its.toArray.size : Int) - 1))).IsList a its.toArray := pl.isList.push _
    have hne : a ≠ it := by
      obtain ⟨o, ho, _⟩ := pl.isList
      exact fun z => by rw [z, nit] at ho; cases ho
    have lz : its.length = xs.length := rv.length.symm
    refine list_lri (s := { s1 with heap := s1.heap.push (revObj a ((its.toArray.size : Int) - 1)) }) (I2.ok.hd hc) ⟨_, eit, rfl, rfl⟩ hl2 hne (by rw [List.size_toArray, lz]; exact hz) fun h' tk acc c k eS ea => ?_
    have f := I1.fpNew nit hnt
    generalize hp0 : (s1.heap.push (revObj a ((its.toArray.size : Int) - 1))).objs.size = pn at eS ⊢
    have hpn : pn = it + 1 := by rw [← hp0, Heap.size_push, hi0]
    have hfr : H1 pn = none := I2.hok.fresh (Nat.le_of_eq hp0)
    refine ⟨.ref pn, upd H1 pn (.lst xs.reverse), ?_, rfl, q _ hfr⟩
    have I3 : Inv X pins σ H1 { s1 with heap := h', toks := tk } := I2.turned (t' := tk) (fun b o hb e => k b o hb e) hnt f.2.1 f.2.2.2.1 f.2.2.2.2.1 f.2.2.2.2.2
    have fp : FpOk X pins H1 pn := I2.fpNew (hp0 ▸ Heap.get?_none_of_le (Nat.le_refl _)) hfr
    refine I3.adopt fp ⟨by rw [List.length_reverse]; exact hz, its.reverse, c, ?_, ?_⟩
    · exact rv.reverse
    · show h'.get? pn = _
      rw [eS, ← ea]
end
end L2
namespace L2
open PySem PySem.Spec PyProof.Rows
section
variable {X : Cx}
def tF3 (a b : Str) (te : TE) : TE := fun σ H Q => te σ H fun x H1 => ∃ z : Str, x = .str z ∧ (reprText z).length ≤ 1000 ∧ Q (.str (Str.empty ++ a ++ reprText z ++ b)) H1
theorem pe_f3 {a b : Str} {e : Expr} {te : TE} {k k' : Nat} {pa pb pf pos : Pos} (he : PE X e te) (la : a.length ≤ 1000) (h3 : b.length ≤ 1000) :
    PE X (.JoinedStr [.Constant (.str a) k pa, .FormattedValue e 114 none pf, .Constant (.str b) k' pb] pos) (tF3 a b te) := by
  intro pins s σ H Q I h
  refine wpAny_JoinedStr ?_
  have lw : ∀ n : Nat, n ≤ 3000 → n ≤ sizeLine := fun n hn => Nat.le_trans hn (by decide)
  have l0 : (Str.empty : Str).length = 0 := by decide +kernel
  refine Calls.Constant_str ?_
  refine ⟨a, _, rfl, lw _ (by rw [strLen_append, l0]; omega), ?_⟩
  refine wpAny_FormattedValue_repr (thn (he pins _ σ H _ (I.tok _) h) fun u s1 ⟨x, H1, I1, r1, z, e1, h1, q⟩ => ?_)
  subst e1
  obtain ⟨t, rfl⟩ := (show ∃ t, u = Value.str z t from r1)
  refine pyReprObj_str (hx := lw _ (by omega)) ?_
  refine formatField_str (hsz := lw _ (by omega)) fun t' tk => ?_
  refine ⟨_, t', rfl, lw _ (by rw [strLen_append, strLen_append, l0]; omega), ?_⟩
  refine Calls.Constant_str ⟨b, _, rfl, lw _ (by rw [strLen_append, strLen_append, strLen_append, l0]; omega), ?_⟩
  exact ⟨lw _ (by rw [strLen_append, strLen_append, strLen_append, l0]; omega), .str _, H1, ((I1.tok _).tok _).tok _, ⟨_, rfl⟩, q⟩
end
end L2
namespace L2
open PySem PySem.Spec PyProof.Rows
section
variable {P : Program} {w : World}
def IsN (P : Program) (w : World) (h : Heap) : NKey → Value → Prop
  | none, u => u = .none
  | some ks, u => ∃ b, u = .ref b ∧ (tupleKind (mixKind P w)).is h ks b
theorem IsN.inj {h : Heap} {u : Value} : ∀ {x y : NKey}, IsN P w h x u → IsN P w h y u → x = y
  | none, none, _, _ => rfl
  | none, some _, hx, ⟨b, e, _⟩ => by rw [show u = Value.none from hx] at e; cases e
  | some _, none, ⟨b, e, _⟩, hy => by rw [show u = Value.none from hy] at e; cases e
  | some x, some y, ⟨b, e, hb⟩, ⟨c, f, hc⟩ => by rw [e] at f; cases f; rw [(tupleKind (mixKind P w)).inj hb hc]
theorem IsN.keep {h h' : Heap} {k : NKey} {u : Value} {d : Addr} {o : Obj} {es : Array DictEntry} {ep : Nat} (x : IsN P w h k u) (ho : h.get? d = some o) (hd : o.data = .dict es ep) (hs : Heap.SameBut d h h') : IsN P w h' k u := by
  cases k with
  | none => exact x
  | some ks => obtain ⟨b, e, hb⟩ := x; exact ⟨b, e, (tupleKind (mixKind P w)).keeps hb ho hd hs⟩
theorem keyN_is {H : Hp} {h : Heap} {k : NKey} {u : Value} (ok : HOk P w H h) (x : KeyN H k u) : IsN P w h k u := by
  cases k with
  | none => exact x
  | some ks => obtain ⟨b, e, hb⟩ := x; exact ⟨b, e, key_of ok hb⟩
variable {A : Around} {E : Value → Shared → Prop} {s : Shared}
theorem n_hash {k : NKey} {u : Value} {Q : Int → Shared → Prop} (hu : A.units < cLine) (hk : IsN P w s.heap k u) (h : ∀ tk, Q (hashN P w k) { s with toks := tk }) : wpAny (model P w) A (pyHash u) Q E s := by
  cases k with
  | none =>
    rw [show u = Value.none from hk]
    exact PySem.W.pyHash_laid .none .none A s Q rfl .none hu h
  | some ks =>
    obtain ⟨b, rfl, hb⟩ := hk
    exact (tupleKind (mixKind P w)).pyHash hu hb (h _)
theorem n_tuple {h : Heap} {ks : List Key} {b : Addr} (x : (tupleKind (mixKind P w)).is h ks b) : ∃ its, h.IsTuple b its := by
  obtain ⟨o, its, n, h1, h2, h3, _⟩ := (show IsTupleKey (mixKind P w) h ks b from x)
  exact ⟨its, o, h1, h2, n, h3⟩
theorem n_eq {x y : NKey} {u v : Value} {Q : Bool → Shared → Prop} (hu : A.units < cLine) (hx : IsN P w s.heap x u) (hy : IsN P w s.heap y v) (h : Q (decide (x = y)) s) : wpAny (model P w) A (eqBool u v) Q E s := by
  cases x with
  | none =>
    rw [show u = Value.none from hx]
    cases y with
    | none =>
      rw [show v = Value.none from hy]
      exact SeqAt.eqBoolOverData P w A E s .none .none .none .none _ _ Q .none .none rfl rfl hu h
    | some ys =>
      obtain ⟨b, rfl, hb⟩ := hy
      obtain ⟨its, ht⟩ := n_tuple hb
      exact SeqAt.EqAt.none_tuple ht hu P w E Q h
  | some xs =>
    obtain ⟨b, rfl, hb⟩ := hx
    cases y with
    | none =>
      rw [show v = Value.none from hy]
      obtain ⟨its, ht⟩ := n_tuple hb
      exact SeqAt.EqAt.tuple_none ht hu P w E Q h
    | some ys =>
      obtain ⟨c, rfl, hc⟩ := hy
      refine (tupleKind (mixKind P w)).eqBool hu hb hc ?_
      by_cases q : xs = ys
      · subst q; simpa using h
      · rw [decide_eq_false q]
        rw [decide_eq_false (fun z => q (Option.some.inj z))] at h
        exact h
theorem n_quiet {k : NKey} {u : Value} {Q : Bool → Shared → Prop} (hk : IsN P w s.heap k u) (h : Q true s) : wpAny (model P w) A (eqIsQuiet 8 u) Q E s := by
  cases k with
  | none => rw [show u = Value.none from hk]; exact wpAny_pure h
  | some ks => obtain ⟨b, rfl, hb⟩ := hk; exact (tupleKind (mixKind P w)).quiet hb h
theorem n_tells {k : NKey} {u : Value} {us : List Value} {Q : Bool → Shared → Prop} (hk : IsN P w s.heap k u) (hus : ∀ v ∈ us, ∃ j, IsN P w s.heap j v) (h : Q false s) : wpAny (model P w) A (tableMayTell u us) Q E s := by
  unfold tableMayTell
  split
  · exact wpAny_pure h
  refine wpAny_bind (n_quiet hk ?_)
  rw [if_neg (by decide)]
  refine wpAny_bind (wpAny_forIn_list _ (fun rest r s' => s' = s ∧ r = (none, ()) ∧ ∀ v ∈ rest, ∃ j, IsN P w s.heap j v) _ ?_ ?_ _ _ ⟨rfl, rfl, hus⟩)
  · rintro v rest r s' ⟨rfl, rfl, all⟩
    obtain ⟨j, hj⟩ := all v (by simp)
    refine wpAny_bind (n_quiet hj ?_)
    rw [if_neg (by decide)]
    exact wpAny_pure ⟨rfl, rfl, fun z hz => all z (by simp [hz])⟩
  · rintro r s' ⟨rfl, rfl, _⟩
    exact wpAny_pure h
structure EntsN (P : Program) (w : World) (h : Heap) (es : Array DictEntry) (ks : List NKey) : Prop where
  nd : ks.Nodup
  sz : es.size = ks.length
  at_ : ∀ (i : Nat) (k : NKey), ks[i]? = some k → ∃ e, es[i]? = some e ∧ e.hash = hashN P w k ∧ IsN P w h k e.key
theorem EntsN.back {h : Heap} {es : Array DictEntry} {ks : List NKey} (x : EntsN P w h es ks) {i : Nat} {e : DictEntry} (q : es[i]? = some e) : ∃ k, ks[i]? = some k ∧ e.hash = hashN P w k ∧ IsN P w h k e.key := by
  have hi : i < ks.length := by rw [← x.sz]; exact (Array.getElem?_eq_some_iff.mp q).1
  obtain ⟨e', h1, h2, h3⟩ := x.at_ i ks[i] (List.getElem?_eq_getElem hi)
  rw [q] at h1
  cases h1
  exact ⟨_, List.getElem?_eq_getElem hi, h2, h3⟩
theorem EntsN.one {h : Heap} {es : Array DictEntry} {ks : List NKey} (x : EntsN P w h es ks) {i j : Nat} {k : NKey} (hi : ks[i]? = some k) (hj : ks[j]? = some k) : i = j :=
  (List.getElem?_inj (List.getElem?_eq_some_iff.mp hi).1 x.nd).mp (hi.trans hj.symm)
variable {d : Addr} {o : Obj} {es : Array DictEntry} {ep : Nat} {ks : List NKey} {k : NKey} {u : Value} {Q : Option Nat → Shared → Prop}
theorem n_plain (hu : A.units < cLine) (hk : IsN P w s.heap k u) (ho : s.heap.get? d = some o) (hd : o.data = .dict es ep) (X : EntsN P w s.heap es ks) (l : List Nat) (hl : ∀ i ∈ l, ∃ e, es[i]? = some e ∧ (e.hash == hashN P w k) = true)
    (h0 : (∀ j ∈ l, ks[j]? ≠ some k) → Q none s) (h1 : ∀ j ∈ l, ks[j]? = some k → Q (some j) s) : wpAny (model P w) A (dictWalkPlain d u (hashN P w k) es l) Q E s := by
  unfold dictWalkPlain
  refine wpAny_bind (wpAny_forIn_list _ (fun rest b s' => s' = s ∧ b = (none, ()) ∧ (∀ i ∈ rest, i ∈ l) ∧ ((∀ j ∈ rest, ks[j]? ≠ some k) → Q none s)) _ ?_ ?_ _ _ ⟨rfl, rfl, fun _ z => z, h0⟩)
  · rintro i rest b s' ⟨rfl, rfl, sub, no⟩
    obtain ⟨e, he, hh⟩ := hl i (sub i (by simp))
    obtain ⟨j, hj, _, ej⟩ := X.back he
    simp only [he]
    rw [if_pos hh]
    refine wpAny_bind (wpAny_dictEpoch ho hd (wpAny_bind (n_eq hu ej hk (wpAny_bind (wpAny_dictEpoch ho hd ?_)))))
    rw [if_neg (by simp)]
    by_cases q : j = k
    · rw [decide_eq_true q, if_pos rfl]
      exact wpAny_bind (wpAny_rule (wpAny_pure (wpAny_pure (h1 i (sub i (by simp)) (q ▸ hj)))))
    · rw [decide_eq_false q, if_neg (by decide)]
      refine wpAny_bind (wpAny_rule (wpAny_pure ⟨rfl, rfl, fun z hz => sub z (by simp [hz]), fun all => no fun z hz => ?_⟩))
      rcases List.mem_cons.mp hz with y | y
      · subst y; rw [hj]; exact fun y => q (Option.some.inj y)
      · exact all z y
  · rintro b s' ⟨rfl, rfl, _, no⟩
    exact wpAny_pure (no fun _ z => nomatch z)
theorem n_find (hu : A.units < cLine) (hk : IsN P w s.heap k u) (ho : s.heap.get? d = some o) (hd : o.data = .dict es ep) (X : EntsN P w s.heap es ks) (h0 : k ∉ ks → Q none s) (h1 : ∀ j, ks[j]? = some k → Q (some j) s) :
    wpAny (model P w) A (dictFind d u (hashN P w k)) Q E s := by
  generalize hpl : placesWithHash es.size (fun i => es[i]?.map (·.hash)) (hashN P w k) = pl
  have hin : ∀ i, i ∈ pl → ∃ e, es[i]? = some e ∧ (e.hash == hashN P w k) = true := fun i hi => by
    rw [← hpl, placesWithHash, List.mem_filter] at hi
    cases he : es[i]? with
    | none => rw [he] at hi; simp at hi
    | some e => rw [he] at hi; exact ⟨e, rfl, by simpa using hi.2⟩
  have hall : ∀ j, ks[j]? = some k → j ∈ pl := fun j hj => by
    obtain ⟨e, he, hh, _⟩ := X.at_ j k hj
    rw [← hpl, placesWithHash, List.mem_filter, List.mem_range]
    exact ⟨(Array.getElem?_eq_some_iff.mp he).1, by rw [he]; simp [hh]⟩
  have hnd : pl.Nodup := by rw [← hpl, placesWithHash]; exact List.Pairwise.filter _ List.nodup_range
  have hno : (∀ j ∈ pl, ks[j]? ≠ some k) → Q none s := fun all => h0 fun hm => by
    obtain ⟨j, hj⟩ := List.mem_iff_getElem?.mp hm
    exact all j (hall j hj) hj
  have hst : ∀ v ∈ pl.filterMap (fun i => es[i]?.map (·.key)), ∃ j, IsN P w s.heap j v := fun v hv => by
    obtain ⟨i, hi, hv⟩ := List.mem_filterMap.mp hv
    obtain ⟨e, he, _⟩ := hin i hi
    rw [he] at hv
    obtain ⟨j, _, _, hj⟩ := X.back he
    cases hv
    exact ⟨j, hj⟩
  have hsh : u = .none ∨ ∃ b, u = .ref b := by
    cases k with
    | none => exact .inl hk
    | some x => obtain ⟨b, e, _⟩ := hk; exact .inr ⟨b, e⟩
  unfold dictFind
  try with_reducible refine wpAny_holding ?_
  refine wpAny_bind (wpAny_dictEntries ho hd ?_)
  rcases hsh with rfl | ⟨b, rfl⟩
  · dsimp only
    rw [hpl]
    by_cases hv : ((Value.none :: pl.filterMap fun i => es[i]?.map (·.key)).all carriedByValue) = true
    · rw [if_pos hv]
      exact n_plain hu hk ho hd X pl hin hno fun j _ hj => h1 j hj
    rw [if_neg hv]
    by_cases hone : ((pl.filterMap fun i => es[i]?.map (·.key)) == [Value.none]) = true
    · rw [if_pos hone]
      refine wpAny_bind (wpAny_pure ?_)
      rw [if_neg (by simp)]
      refine wpAny_bind (wpAny_forIn_list _ (fun rest b s' => s' = s ∧ (∀ i ∈ rest, i ∈ pl) ∧ rest.Nodup ∧ ((b = (none, none) ∧ ((∀ j ∈ rest, ks[j]? ≠ some k) → Q none s)) ∨ ∃ j, b = (none, some j) ∧ ks[j]? = some k ∧ j ∉ rest)) _ ?_ ?_ _ _ ⟨rfl, fun _ z => z, hnd, .inl ⟨rfl, hno⟩⟩)
      · rintro i rest r s' ⟨rfl, sub, nd, st⟩
        obtain ⟨e, he, hh⟩ := hin i (sub i (by simp))
        obtain ⟨j, hj, _, ej⟩ := X.back he
        rw [List.nodup_cons] at nd
        simp only [he]
        rw [if_pos hh]
        refine wpAny_bind (wpAny_dictEpoch ho hd (wpAny_bind (n_eq hu ej hk (wpAny_bind (wpAny_dictEpoch ho hd ?_)))))
        rw [if_neg (by simp)]
        by_cases q : j = k
        · rw [decide_eq_true q, if_pos rfl]
          subst q
          rcases st with ⟨rfl, no⟩ | ⟨j', rfl, hj', nj⟩
          · rw [if_neg (by simp)]
            refine wpAny_bind (wpAny_rule ?_)
            split
            · exact wpAny_pure (wpAny_pure (h1 i hj))
            · exact wpAny_pure ⟨rfl, fun z hz => sub z (by simp [hz]), nd.2, .inr ⟨i, rfl, hj, nd.1⟩⟩
          · exact absurd (X.one hj hj') (fun z => nj (by simp [z]))
        · rw [decide_eq_false q, if_neg (by decide)]
          refine wpAny_bind (wpAny_rule ?_)
          rw [if_neg (by simp)]
          refine wpAny_pure ⟨rfl, fun z hz => sub z (by simp [hz]), nd.2, ?_⟩
          rcases st with ⟨rfl, no⟩ | ⟨j', rfl, hj', nj⟩
          · refine .inl ⟨rfl, fun all => no fun z hz => ?_⟩
            rcases List.mem_cons.mp hz with y | y
            · subst y; rw [hj]; exact fun y => q (Option.some.inj y)
            · exact all z y
          · exact .inr ⟨j', rfl, hj', fun z => nj (by simp [z])⟩
      · rintro r s' ⟨rfl, _, _, st⟩
        rcases st with ⟨rfl, no⟩ | ⟨j', rfl, hj', _⟩
        · exact wpAny_pure (no fun _ z => nomatch z)
        · exact wpAny_pure (h1 j' hj')
    · rw [if_neg hone]
      refine wpAny_bind (n_tells hk hst ?_)
      rw [if_neg (by simp)]
      refine wpAny_bind (wpAny_forIn_list _ (fun rest b s' => s' = s ∧ (∀ i ∈ rest, i ∈ pl) ∧ rest.Nodup ∧ ((b = (none, none) ∧ ((∀ j ∈ rest, ks[j]? ≠ some k) → Q none s)) ∨ ∃ j, b = (none, some j) ∧ ks[j]? = some k ∧ j ∉ rest)) _ ?_ ?_ _ _ ⟨rfl, fun _ z => z, hnd, .inl ⟨rfl, hno⟩⟩)
      · rintro i rest r s' ⟨rfl, sub, nd, st⟩
        obtain ⟨e, he, hh⟩ := hin i (sub i (by simp))
        obtain ⟨j, hj, _, ej⟩ := X.back he
        rw [List.nodup_cons] at nd
        simp only [he]
        rw [if_pos hh]
        refine wpAny_bind (wpAny_dictEpoch ho hd (wpAny_bind (n_eq hu ej hk (wpAny_bind (wpAny_dictEpoch ho hd ?_)))))
        rw [if_neg (by simp)]
        by_cases q : j = k
        · rw [decide_eq_true q, if_pos rfl]
          subst q
          rcases st with ⟨rfl, no⟩ | ⟨j', rfl, hj', nj⟩
          · rw [if_neg (by simp)]
            refine wpAny_bind (wpAny_rule ?_)
            split
            · exact wpAny_pure (wpAny_pure (h1 i hj))
            · exact wpAny_pure ⟨rfl, fun z hz => sub z (by simp [hz]), nd.2, .inr ⟨i, rfl, hj, nd.1⟩⟩
          · exact absurd (X.one hj hj') (fun z => nj (by simp [z]))
        · rw [decide_eq_false q, if_neg (by decide)]
          refine wpAny_bind (wpAny_rule ?_)
          rw [if_neg (by simp)]
          refine wpAny_pure ⟨rfl, fun z hz => sub z (by simp [hz]), nd.2, ?_⟩
          rcases st with ⟨rfl, no⟩ | ⟨j', rfl, hj', nj⟩
          · refine .inl ⟨rfl, fun all => no fun z hz => ?_⟩
            rcases List.mem_cons.mp hz with y | y
            · subst y; rw [hj]; exact fun y => q (Option.some.inj y)
            · exact all z y
          · exact .inr ⟨j', rfl, hj', fun z => nj (by simp [z])⟩
      · rintro r s' ⟨rfl, _, _, st⟩
        rcases st with ⟨rfl, no⟩ | ⟨j', rfl, hj', _⟩
        · exact wpAny_pure (no fun _ z => nomatch z)
        · exact wpAny_pure (h1 j' hj')
  · have hv : ¬ ((Value.ref b :: pl.filterMap fun i => es[i]?.map (·.key)).all carriedByValue) = true := by simp [carriedByValue]
    have hany : ¬ (es.any fun e => e.key == Value.ref b && e.hash != hashN P w k) = true := by
      rw [← Array.any_toList, List.any_eq_true]
      rintro ⟨e, hm, hc⟩
      obtain ⟨i, hi⟩ := List.mem_iff_getElem?.mp hm
      rw [Array.getElem?_toList] at hi
      obtain ⟨j, _, hh, hj⟩ := X.back hi
      rw [Bool.and_eq_true, beq_iff_eq, bne_iff_ne] at hc
      rw [hc.1] at hj
      exact hc.2 (by rw [hh, hj.inj hk])
    dsimp only
    rw [hpl, if_neg hv, if_neg hany]
    by_cases hone : ((pl.filterMap fun i => es[i]?.map (·.key)) == [Value.ref b]) = true
    · rw [if_pos hone]
      refine wpAny_bind (wpAny_pure ?_)
      rw [if_neg (by simp)]
      refine wpAny_bind (wpAny_forIn_list _ (fun rest b s' => s' = s ∧ (∀ i ∈ rest, i ∈ pl) ∧ rest.Nodup ∧ ((b = (none, none) ∧ ((∀ j ∈ rest, ks[j]? ≠ some k) → Q none s)) ∨ ∃ j, b = (none, some j) ∧ ks[j]? = some k ∧ j ∉ rest)) _ ?_ ?_ _ _ ⟨rfl, fun _ z => z, hnd, .inl ⟨rfl, hno⟩⟩)
      · rintro i rest r s' ⟨rfl, sub, nd, st⟩
        obtain ⟨e, he, hh⟩ := hin i (sub i (by simp))
        obtain ⟨j, hj, _, ej⟩ := X.back he
        rw [List.nodup_cons] at nd
        simp only [he]
        rw [if_pos hh]
        refine wpAny_bind (wpAny_dictEpoch ho hd (wpAny_bind (n_eq hu ej hk (wpAny_bind (wpAny_dictEpoch ho hd ?_)))))
        rw [if_neg (by simp)]
        by_cases q : j = k
        · rw [decide_eq_true q, if_pos rfl]
          subst q
          rcases st with ⟨rfl, no⟩ | ⟨j', rfl, hj', nj⟩
          · rw [if_neg (by simp)]
            refine wpAny_bind (wpAny_rule ?_)
            split
            · exact wpAny_pure (wpAny_pure (h1 i hj))
            · exact wpAny_pure ⟨rfl, fun z hz => sub z (by simp [hz]), nd.2, .inr ⟨i, rfl, hj, nd.1⟩⟩
          · exact absurd (X.one hj hj') (fun z => nj (by simp [z]))
        · rw [decide_eq_false q, if_neg (by decide)]
          refine wpAny_bind (wpAny_rule ?_)
          rw [if_neg (by simp)]
          refine wpAny_pure ⟨rfl, fun z hz => sub z (by simp [hz]), nd.2, ?_⟩
          rcases st with ⟨rfl, no⟩ | ⟨j', rfl, hj', nj⟩
          · refine .inl ⟨rfl, fun all => no fun z hz => ?_⟩
            rcases List.mem_cons.mp hz with y | y
            · subst y; rw [hj]; exact fun y => q (Option.some.inj y)
            · exact all z y
          · exact .inr ⟨j', rfl, hj', fun z => nj (by simp [z])⟩
      · rintro r s' ⟨rfl, _, _, st⟩
        rcases st with ⟨rfl, no⟩ | ⟨j', rfl, hj', _⟩
        · exact wpAny_pure (no fun _ z => nomatch z)
        · exact wpAny_pure (h1 j' hj')
    · rw [if_neg hone]
      refine wpAny_bind (n_tells hk hst ?_)
      rw [if_neg (by simp)]
      refine wpAny_bind (wpAny_forIn_list _ (fun rest b s' => s' = s ∧ (∀ i ∈ rest, i ∈ pl) ∧ rest.Nodup ∧ ((b = (none, none) ∧ ((∀ j ∈ rest, ks[j]? ≠ some k) → Q none s)) ∨ ∃ j, b = (none, some j) ∧ ks[j]? = some k ∧ j ∉ rest)) _ ?_ ?_ _ _ ⟨rfl, fun _ z => z, hnd, .inl ⟨rfl, hno⟩⟩)
      · rintro i rest r s' ⟨rfl, sub, nd, st⟩
        obtain ⟨e, he, hh⟩ := hin i (sub i (by simp))
        obtain ⟨j, hj, _, ej⟩ := X.back he
        rw [List.nodup_cons] at nd
        simp only [he]
        rw [if_pos hh]
        refine wpAny_bind (wpAny_dictEpoch ho hd (wpAny_bind (n_eq hu ej hk (wpAny_bind (wpAny_dictEpoch ho hd ?_)))))
        rw [if_neg (by simp)]
        by_cases q : j = k
        · rw [decide_eq_true q, if_pos rfl]
          subst q
          rcases st with ⟨rfl, no⟩ | ⟨j', rfl, hj', nj⟩
          · rw [if_neg (by simp)]
            refine wpAny_bind (wpAny_rule ?_)
            split
            · exact wpAny_pure (wpAny_pure (h1 i hj))
            · exact wpAny_pure ⟨rfl, fun z hz => sub z (by simp [hz]), nd.2, .inr ⟨i, rfl, hj, nd.1⟩⟩
          · exact absurd (X.one hj hj') (fun z => nj (by simp [z]))
        · rw [decide_eq_false q, if_neg (by decide)]
          refine wpAny_bind (wpAny_rule ?_)
          rw [if_neg (by simp)]
          refine wpAny_pure ⟨rfl, fun z hz => sub z (by simp [hz]), nd.2, ?_⟩
          rcases st with ⟨rfl, no⟩ | ⟨j', rfl, hj', nj⟩
          · refine .inl ⟨rfl, fun all => no fun z hz => ?_⟩
            rcases List.mem_cons.mp hz with y | y
            · subst y; rw [hj]; exact fun y => q (Option.some.inj y)
            · exact all z y
          · exact .inr ⟨j', rfl, hj', fun z => nj (by simp [z])⟩
      · rintro r s' ⟨rfl, _, _, st⟩
        rcases st with ⟨rfl, no⟩ | ⟨j', rfl, hj', _⟩
        · exact wpAny_pure (no fun _ z => nomatch z)
        · exact wpAny_pure (h1 j' hj')
end
def getN (xs : List (NKey × Value × Value)) (k : NKey) : Option Value := (xs.find? fun x => decide (x.1 = k)).map (·.2.2)
def repN (k : NKey) (v : Value) (x : NKey × Value × Value) : NKey × Value × Value := if x.1 = k then (x.1, x.2.1, v) else x
def putN (xs : List (NKey × Value × Value)) (k : NKey) (u v : Value) : List (NKey × Value × Value) := if (getN xs k).isSome = true then xs.map (repN k v) else xs ++ [(k, u, v)]
def DictN (P : Program) (w : World) (h : Heap) (d : Addr) (xs : List (NKey × Value × Value)) : Prop :=
  ∃ o es ep, h.get? d = some o ∧ o.ExactDict ∧ o.data = .dict es ep ∧ es.toList = xs.map (entN P w) ∧ (∀ x ∈ xs, IsN P w h x.1 x.2.1) ∧ (xs.map (·.1)).Nodup
theorem getN_none {xs : List (NKey × Value × Value)} {k : NKey} (h : k ∉ xs.map (·.1)) : getN xs k = none := by
  unfold getN
  rw [List.find?_eq_none.mpr fun x hx hk => h (List.mem_map.mpr ⟨x, hx, of_decide_eq_true hk⟩)]
  rfl
theorem getN_at {k : NKey} {p : Value × Value} : ∀ {xs : List (NKey × Value × Value)} {j : Nat}, (xs.map (·.1)).Nodup → xs[j]? = some (k, p) → getN xs k = some p.2
  | [], j, _, h => by simp at h
  | x :: xs, 0, _, h => by
    have e : x = (k, p) := by simpa using h
    subst e
    simp [getN]
  | x :: xs, j + 1, hn, h => by
    rw [List.map_cons, List.nodup_cons] at hn
    have h' : xs[j]? = some (k, p) := by simpa using h
    have ne : ¬ x.1 = k := fun e => hn.1 (e ▸ List.mem_map.mpr ⟨(k, p), List.mem_of_getElem? h', rfl⟩)
    have := getN_at hn.2 h'
    simpa [getN, List.find?_cons, ne] using this
theorem repN_key (k : NKey) (v : Value) (x : NKey × Value × Value) : (repN k v x).1 = x.1 := by unfold repN; split <;> rfl
section
variable {P : Program} {w : World} {A : Around} {E : Value → Shared → Prop} {s : Shared} {d : Addr} {xs : List (NKey × Value × Value)} {k : NKey} {u : Value}
theorem DictN.typeIs (D : DictN P w s.heap d xs) : s.TypeIs (.ref d) "dict" := let ⟨o, _, _, ho, hc, _⟩ := D; ⟨o, ho, hc.1⟩
theorem ents_of {h : Heap} {es : Array DictEntry} (he : es.toList = xs.map (entN P w)) (hi : ∀ x ∈ xs, IsN P w h x.1 x.2.1) (hn : (xs.map (·.1)).Nodup) : EntsN P w h es (xs.map (·.1)) := by
  refine ⟨hn, by rw [← Array.length_toList, he, List.length_map, List.length_map], fun i k hk => ?_⟩
  rw [List.getElem?_map] at hk
  obtain ⟨x, hx, rfl⟩ := Option.map_eq_some_iff.mp hk
  exact ⟨entN P w x, by rw [← Array.getElem?_toList, he, List.getElem?_map, hx]; rfl, rfl, hi x (List.mem_of_getElem? hx)⟩
theorem n_dget {Q : Option Value → Shared → Prop} (hu : A.units < cLine) (hk : IsN P w s.heap k u) (D : DictN P w s.heap d xs) (h : ∀ tk, Q (getN xs k) { s with toks := tk }) : wpAny (model P w) A (dictGet d u) Q E s := by
  obtain ⟨o, es, ep, ho, _, hd, he, hi, hn⟩ := D
  unfold dictGet
  try with_reducible refine wpAny_holding ?_
  refine wpAny_bind (n_hash hu hk fun tk => wpAny_bind (n_find (s := { s with toks := tk }) hu hk ho hd (ents_of he hi hn) (fun hno => ?_) (fun j hj => ?_)))
  · rw [getN_none hno] at h
    exact wpAny_pure (h tk)
  · rw [List.getElem?_map] at hj
    obtain ⟨x, hx, e⟩ := Option.map_eq_some_iff.mp hj
    obtain ⟨x1, x2⟩ := x
    obtain rfl : k = x1 := e.symm
    rw [getN_at hn hx] at h
    refine wpAny_bind (wpAny_dictEntries (s := { s with toks := tk }) ho hd (wpAny_pure ?_))
    rw [← Array.getElem?_toList, he, List.getElem?_map, hx]
    exact h tk
theorem n_dset {v : Value} {Q : Unit → Shared → Prop} (hu : A.units < cLine) (hk : IsN P w s.heap k u) (D : DictN P w s.heap d xs) (hz : xs.length ≤ sizeLine)
    (h : ∀ h' tk, DictN P w h' d (putN xs k u v) → Heap.SameBut d s.heap h' → Q () { s with heap := h', toks := tk }) : wpAny (model P w) A (dictSet d u v) Q E s := by
  obtain ⟨o, es, ep, ho, hc, hd, he, hi, hn⟩ := D
  have hsz : es.size = xs.length := by rw [← Array.length_toList, he, List.length_map]
  unfold dictSet
  try with_reducible refine wpAny_holding ?_
  refine wpAny_bind (n_hash hu hk fun tk => ?_)
  unfold dictSetHashed
  try with_reducible refine wpAny_holding ?_
  refine wpAny_bind (n_find (s := { s with toks := tk }) hu hk ho hd (ents_of he hi hn) (fun hno => ?_) (fun j hj => ?_))
  · have hp : putN xs k u v = xs ++ [(k, u, v)] := by unfold putN; rw [getN_none hno, if_neg (by decide)]
    refine wpAny_bind (wpAny_rule (wpAny_updateDictKeys (hz := by omega) (s := { s with toks := tk }) ho hd (h _ tk ?_ (Heap.SameBut.update ..))))
    refine ⟨_, _, ep + 1, Heap.get?_update_self _ ho (Obj.isFreed_of_dict (Obj.data_mapDictKeys hd _)), hc.mapDictKeys _, Obj.data_mapDictKeys hd _, ?_, fun x hx => ?_, ?_⟩
    · rw [hp]; simp [he, entN]
    · rw [hp] at hx
      rcases List.mem_append.mp hx with z | z
      · exact (hi x z).keep ho hd (Heap.SameBut.update ..)
      · rw [List.mem_singleton.mp z]; exact hk.keep ho hd (Heap.SameBut.update ..)
    · rw [hp, List.map_append, List.nodup_append]
      refine ⟨hn, by simp, fun a ha b hb z => hno ?_⟩
      rw [List.map_cons, List.map_nil, List.mem_singleton] at hb
      rw [z, hb] at ha
      exact ha
  · rw [List.getElem?_map] at hj
    obtain ⟨x, hx, e⟩ := Option.map_eq_some_iff.mp hj
    obtain ⟨x1, x2⟩ := x
    obtain rfl : k = x1 := e.symm
    have hp : putN xs k u v = xs.map (repN k v) := by unfold putN; rw [getN_at hn hx, if_pos (show (some x2.2).isSome = true from rfl)]
    refine wpAny_bind (wpAny_rule (wpAny_bind (wpAny_updateDict (s := { s with toks := tk }) ho hd (wpAny_point (h _ tk ?_ (Heap.SameBut.update ..))))))
    refine ⟨_, _, ep, Heap.get?_update_self _ ho (Obj.isFreed_of_dict (Obj.data_mapDict hd _)), hc.mapDict _, Obj.data_mapDict hd _, ?_, fun x hx => ?_, ?_⟩
    · rw [hp, Array.toList_modify, he, List.map_map]
      refine List.ext_getElem? fun m => ?_
      rw [List.getElem?_modify, List.getElem?_map, List.getElem?_map]
      cases hm : xs[m]? with
      | none => rfl
      | some y =>
        by_cases hjm : j = m
        · subst hjm
          rw [hx] at hm
          cases hm
          simp [entN, repN]
        · have ne : ¬ y.1 = k := fun z => hjm ((List.getElem?_inj (by rw [List.length_map]; exact (List.getElem?_eq_some_iff.mp hx).1) hn).mp (by rw [List.getElem?_map, List.getElem?_map, hx, hm]; exact congrArg some z.symm))
          simp [repN, ne, hjm]
    · rw [hp] at hx
      obtain ⟨y, hy, rfl⟩ := List.mem_map.mp hx
      have q := (hi y hy).keep ho hd (Heap.SameBut.update s.heap d (Obj.mapDict (fun l => l.modify j fun e => { e with val := v })))
      unfold repN
      split
      · exact q
      · exact q
    · rw [hp, List.map_map, show ((fun x : NKey × Value × Value => x.1) ∘ repN k v) = (·.1) from funext fun x => repN_key k v x]
      exact hn
theorem item_by {Q : Value → Shared → Prop} (hT : s.TypeIs (.ref d) "dict") (h : wpAny (model P w) A.in1 (dictGet d u) (fun r s' => ∃ v, r = some v ∧ Q v s') E s) : wpAny (model P w) A (getItem (.ref d) u) Q E s := by
  unfold getItem
  try with_reducible refine wpAny_holding ?_
  refine wpAny_bind (wpAny_sequenceKey hT (by decide) (wpAny_bind (wpAny_callSpecial?_slot (name := Str.ofString "__getitem__") hT slot_dict_getitem (wpAny_call_entry slot_dict_getitem hT entry_dict_getitem ?_ (args_dict_getitem _ _)))))
  show wpAny _ _ (dictGet d u >>= _) _ _ s
  refine wpAny_bind (wpAny_mono h (fun r s' ⟨v, e, q⟩ => ?_) fun _ _ z => z)
  subst e
  exact wpAny_pure ⟨v, rfl, wpAny_pure q⟩
theorem in_by {Q : Bool → Shared → Prop} (hT : s.TypeIs (.ref d) "dict") (hd : (d == sysModules) = false) (h : wpAny (model P w) A.in1 (dictGet d u) (fun r s' => Q r.isSome s') E s) : wpAny (model P w) A (contains (.ref d) u) Q E s := by
  unfold contains
  try with_reducible refine wpAny_holding ?_
  refine wpAny_bind (wpAny_specialOf hT slot_dict_contains.lookup ?_)
  show wpAny _ _ (if (some (Value.builtin "dict.__contains__") == some Value.none) = true then _ else _) _ _ s
  rw [if_neg (by rw [beq_builtin_none]; exact Bool.false_ne_true)]
  refine wpAny_bind (wpAny_callSpecialUnlessNone?_slot (name := Str.ofString "__contains__") hT slot_dict_contains (wpAny_call_entry slot_dict_contains hT entry_dict_contains ?_ (args_dict_contains _ _)))
  show wpAny _ _ (dictGet d u >>= _) _ _ s
  refine wpAny_bind (wpAny_mono h (fun r s' q => ?_) fun _ _ z => z)
  cases r with
  | some v => exact wpAny_pure ⟨_, rfl, wpAny_truthy_bool q⟩
  | none => exact wpAny_bind (wpAny_pendingKey_other hd (wpAny_pure ⟨_, rfl, wpAny_truthy_bool q⟩))
theorem store_by {v : Value} {Q : Unit → Shared → Prop} (hT : s.TypeIs (.ref d) "dict") (h : wpAny (model P w) A.in1 (dictSet d u v) Q E s) : wpAny (model P w) A (setItem (.ref d) u v) Q E s := by
  unfold setItem
  try with_reducible refine wpAny_holding ?_
  refine wpAny_bind (wpAny_sequenceKey hT (by decide) (wpAny_bind (wpAny_callSpecial?_slot (name := Str.ofString "__setitem__") hT slot_dict_setitem (wpAny_call_entry slot_dict_setitem hT entry_dict_setitem ?_ (args_dict_setitem _ _ _)))))
  refine wpAny_bind (wpAny_notOrdered_dict hT ?_)
  show wpAny _ _ (dictSet d u v >>= _) _ _ s
  exact wpAny_bind (wpAny_mono h (fun _ s' q => wpAny_pure ⟨.none, rfl, wpAny_pure q⟩) fun _ _ z => z)
end
theorem KNv.val {H : Hp} {kvs : List (NKey × V)} {xs : List (NKey × Value × Value)} (r : KNv H kvs xs) (k : NKey) : RelO (valV kvs k) (getN xs k) := by
  induction r with
  | nil => exact True.intro
  | @cons p q ps qs h t ih =>
    obtain ⟨h1, _, h2⟩ := h
    by_cases e : p.1 = k
    · have b : getN (q :: qs) k = some q.2.2 := by simp [getN, List.find?_cons, h1.symm.trans e]
      rw [valV_pos e, b]; exact h2
    · have e' : ¬ q.1 = k := fun z => e (h1.trans z)
      have b : getN (q :: qs) k = getN qs k := by simp [getN, List.find?_cons, e']
      rw [valV_neg e, b]; exact ih
theorem KNv.rep {H : Hp} {kvs : List (NKey × V)} {xs : List (NKey × Value × Value)} (r : KNv H kvs xs) (k : NKey) {y : V} {v : Value} (ry : RelV y v) : KNv H (kvs.map fun kv => if kv.1 = k then (kv.1, y) else kv) (xs.map (repN k v)) := by
  induction r with
  | nil => exact .nil
  | @cons p q ps qs h t ih =>
    obtain ⟨h1, h2, h3⟩ := h
    rw [List.map_cons, List.map_cons]
    refine .cons ?_ ih
    unfold repN
    by_cases e : p.1 = k
    · rw [if_pos e, if_pos (h1.symm.trans e)]; exact ⟨h1, h2, ry⟩
    · rw [if_neg e, if_neg (fun z => e (h1.trans z))]; exact ⟨h1, h2, h3⟩
theorem KNv.put {H : Hp} {kvs : List (NKey × V)} {xs : List (NKey × Value × Value)} (r : KNv H kvs xs) (k : NKey) {u : Value} {y : V} {v : Value} (hb : KeyN H k u) (ry : RelV y v) : KNv H (putK kvs k y) (putN xs k u v) := by
  unfold putK putN
  rw [valV_any, (r.val k).isSome_eq]
  by_cases q : (getN xs k).isSome = true
  · rw [if_pos q, if_pos q]; exact r.rep k ry
  · rw [if_neg q, if_neg q]; exact Paired.snoc r ⟨rfl, hb, ry⟩
theorem KeyN.keeps {H H' : Hp} {k : NKey} {u : Value} (x : KeyN H k u) (ht : ∀ b ys, H b = some (.tup ys) → H' b = some (.tup ys)) : KeyN H' k u := by
  cases k with
  | none => exact x
  | some ks => obtain ⟨b, e, hb⟩ := x; exact ⟨b, e, ht _ _ hb⟩
def KeyV (H : Hp) : NKey → V → Prop
  | none, y => y = .non
  | some ks, y => ∃ b, y = .ref b ∧ H b = some (.tup (ks.map kV))
theorem KeyV.rel {H : Hp} {k : NKey} {y : V} {u : Value} (x : KeyV H k y) (r : RelV y u) : KeyN H k u := by
  cases k with
  | none => rw [show y = V.non from x] at r; exact r
  | some ks => obtain ⟨b, rfl, hb⟩ := x; exact ⟨b, r, hb⟩
section
variable {P : Program} {w : World} {H : Hp} {h : Heap} {a : Addr} {kvs : List (NKey × V)}
theorem dn_rd (ok : HOk P w H h) (e : Rd H a (.dN kvs)) : kvs.length ≤ sizeLine ∧ (a == sysModules) = false ∧ ∃ xs, KNv H kvs xs ∧ DictN P w h a xs := by
  obtain ⟨z, y, xs, r, o, es, ep, h1, h2, h3, h4, h5⟩ := (show ObjOk P w H h a (.dN kvs) from rd_of ok e)
  have all : ∀ {l : List (NKey × V)} {m : List (NKey × Value × Value)}, KNv H l m → ∀ x ∈ m, IsN P w h x.1 x.2.1 := by
    intro l m q
    induction q with
    | nil => intro x hx; exact nomatch hx
    | @cons p q ps qs hq t ih =>
      intro x hx
      rcases List.mem_cons.mp hx with e | hx
      · subst e
        rw [← hq.1]
        exact keyN_is ok hq.2.1
      · exact ih x hx
  exact ⟨z, y, xs, r, o, es, ep, h1, h2, h3, h4, all r, h5⟩
end
def DGetN (H : Hp) (a : Addr) (y : V) (r : Option V) : Prop := ∃ kvs k, Rd H a (.dN kvs) ∧ KeyV H k y ∧ r = valV kvs k
def DPutN (H : Hp) (a : Addr) (y v : V) (H' : Hp) : Prop := ∃ kvs k, H a = some (.dN kvs) ∧ KeyV H k y ∧ kvs.length < sizeLine ∧ H' = upd H a (.dN (putK kvs k v))
theorem DGetN.of {H : Hp} {a : Addr} {kvs : List (NKey × V)} {k : NKey} {y : V} (e : H a = some (.dN kvs)) (hk : KeyV H k y) : DGetN H a y (valV kvs k) := ⟨kvs, k, .inl e, hk, rfl⟩
theorem DPutN.of {H : Hp} {a : Addr} {kvs : List (NKey × V)} {k : NKey} {y v : V} (e : H a = some (.dN kvs)) (hk : KeyV H k y) (hl : kvs.length < sizeLine) : DPutN H a y v (upd H a (.dN (putK kvs k v))) := ⟨kvs, k, e, hk, hl, rfl⟩
section
variable {X : Cx} {pins : List (Addr × Obj)} {σ : St} {H : Hp} {s : Shared} {a : Addr} {y v : V} {u r : Value} {o : Option V} {A : Around} {E : Value → Shared → Prop}
theorem dn_get {Q : Option Value → Shared → Prop} (hu : A.units < cLine) (I : Inv X pins σ H s) (g : DGetN H a y o) (ry : RelV y u) (h : ∀ o' s', Inv X pins σ H s' → RelO o o' → Q o' s') : wpAny (model X.prog X.w) A (dictGet a u) Q E s := by
  obtain ⟨kvs, k, e, hk, rfl⟩ := g
  obtain ⟨z, hd, xs, rel, dd⟩ := dn_rd I.hok e
  exact n_dget hu (keyN_is I.hok (hk.rel ry)) dd fun tk => h _ _ (I.tok tk) (rel.val k)
theorem dn_type (I : Inv X pins σ H s) (g : DGetN H a y o) : s.TypeIs (.ref a) "dict" ∧ (a == sysModules) = false := by
  obtain ⟨kvs, k, e, hk, rfl⟩ := g
  obtain ⟨z, hd, xs, rel, dd⟩ := dn_rd I.hok e
  exact ⟨dd.typeIs, hd⟩
theorem dn_getItem {Q : Value → Shared → Prop} (hu : A.units + 1 < cLine) (I : Inv X pins σ H s) (g : DGetN H a y (some v)) (ry : RelV y u) (h : ∀ w' s', Inv X pins σ H s' → RelV v w' → Q w' s') : wpAny (model X.prog X.w) A (getItem (.ref a) u) Q E s := by
  refine item_by (dn_type I g).1 (dn_get hu I g ry fun o' s' I' ro => ?_)
  obtain ⟨w', e, rw'⟩ := RelO.some_of ro
  exact ⟨w', e, h w' s' I' rw'⟩
theorem dn_in {Q : Bool → Shared → Prop} (hu : A.units + 1 < cLine) (I : Inv X pins σ H s) (g : DGetN H a y o) (ry : RelV y u) (h : ∀ s', Inv X pins σ H s' → Q o.isSome s') : wpAny (model X.prog X.w) A (contains (.ref a) u) Q E s := by
  obtain ⟨t, hd⟩ := dn_type I g
  refine in_by t hd (dn_get hu I g ry fun o' s' I' ro => ?_)
  rw [← ro.isSome_eq]
  exact h s' I'
theorem dn_setItem {H' : Hp} {Q : Unit → Shared → Prop} (hu : A.units + 1 < cLine) (I : Inv X pins σ H s) (g : DPutN H a y v H') (ry : RelV y u) (rv : RelV v r) (h : ∀ s', Inv X pins σ H' s' → Q () s') : wpAny (model X.prog X.w) A (setItem (.ref a) u r) Q E s := by
  obtain ⟨kvs, k, e, hk, hl, rfl⟩ := g
  obtain ⟨z, hd, xs, rel, dd⟩ := dn_rd I.hok (.inl e)
  have hz : xs.length ≤ sizeLine := by rw [← Paired.length rel]; exact z
  have hp : (putK kvs k v).length ≤ sizeLine := by have := length_putK kvs k v; omega
  refine store_by dd.typeIs (n_dset hu (keyN_is I.hok (hk.rel ry)) dd hz fun h' tk dd' hs => h _ ?_)
  obtain ⟨ob, es, ep, h1, h2, h3, h4, _, h5⟩ := dd'
  have keep : ∀ c ys, H c = some (.tup ys) → upd H a (.dN (putK kvs k v)) c = some (.tup ys) := fun c ys ec => by
    rw [upd_ne (ne_of ec e (fun z => nomatch z))]
    exact ec
  exact d_write I (by rw [e]; exact True.intro) hs ⟨ob, h1⟩ ⟨hp, hd, _, Paired.mapP (rel.put k (hk.rel ry) rv) fun _ _ q => ⟨q.1, q.2.1.keeps keep, q.2.2⟩, ob, es, ep, h1, h2, h3, h4, h5⟩
end
def tDGetN (td ty : TE) : TE := fun σ H Q => td σ H fun x H1 => ty σ H1 fun y H2 => ∃ a v, x = .ref a ∧ DGetN H2 a y (some v) ∧ Q v H2
def tDInN (neg : Bool) (ty td : TE) : TE := fun σ H Q => ty σ H fun y H1 => td σ H1 fun x H2 => ∃ a o, x = .ref a ∧ DGetN H2 a y o ∧ Q (.bl (if neg then !o.isSome else o.isSome)) H2
def sDPutN (td ty tv : TE) : TS := fun D σ H => tv σ H fun v H1 => td σ H1 fun x H2 => ty σ H2 fun y H3 => ∃ a H4, x = .ref a ∧ DPutN H3 a y v H4 ∧ D.nx σ H4
section
variable {X : Cx} {o i e value : Expr} {pos pos' tpos : Pos} {td ty tv : TE}
theorem pe_dgetN (hu : X.A.units + 1 < cLine) (ho : PE X o td) (hi : PE X i ty) (hs : NoSl i) : PE X (.Subscript o i pos) (tDGetN td ty) := by
  intro pins s σ H Q I h
  refine subD_of PySem.F.slot_dict_getitem.lookup hs (thn (ho pins s σ H _ I h) fun u s1 ⟨x, H1, I1, rx, q1⟩ => thn (hi pins s1 σ H1 _ I1 q1) fun iv s2 ⟨y, H2, I2, ry, a, v, ex, g, q2⟩ => ?_)
  subst ex
  obtain rfl : u = Value.ref a := rx
  exact ⟨(dn_type I2 g).1, dn_getItem hu I2 g ry fun w' s3 I3 rw' => ⟨v, H2, I3, rw', q2⟩⟩
theorem pc_dinN (hu : X.A.units + 1 < cLine) (hi : PE X i ty) (ho : PE X o td) : PC X .In i o (tDInN false ty td) := by
  intro pins s σ H Q I h
  refine thn (hi pins s σ H _ I h) fun iv s1 ⟨y, H1, I1, ry, q1⟩ => thn (ho pins s1 σ H1 _ I1 q1) fun u s2 ⟨x, H2, I2, rx, a, ov, ex, g, q2⟩ => ?_
  subst ex
  obtain rfl : u = Value.ref a := rx
  exact wpAny_bind (dn_in hu I2 g ry fun s3 I3 => wpAny_pure ⟨.bl ov.isSome, H2, I3, rfl, q2⟩)
theorem pc_dnotinN (hu : X.A.units + 1 < cLine) (hi : PE X i ty) (ho : PE X o td) : PC X .NotIn i o (tDInN true ty td) := by
  intro pins s σ H Q I h
  refine thn (hi pins s σ H _ I h) fun iv s1 ⟨y, H1, I1, ry, q1⟩ => thn (ho pins s1 σ H1 _ I1 q1) fun u s2 ⟨x, H2, I2, rx, a, ov, ex, g, q2⟩ => ?_
  subst ex
  obtain rfl : u = Value.ref a := rx
  exact wpAny_bind (dn_in hu I2 g ry fun s3 I3 => wpAny_pure ⟨.bl (!ov.isSome), H2, I3, rfl, q2⟩)
theorem ps_dputN (hu : X.A.units + 1 < cLine) (ho : PE X o td) (hi : PE X i ty) (hv : PE X value tv) (hs : swapsWith value (some (.Subscript o i pos')) pos.line X.env = pure false) : PS X (.Assign [.Subscript o i pos'] value pos) (sDPutN td ty tv) := by
  intro pins s σ H D I h
  refine wpAny_Assign_Subscript (thn (hv pins s σ H _ I h) fun r s1 ⟨v, H1, I1, rv, q1⟩ => thn (ho pins s1 σ H1 _ I1 q1) fun u s2 ⟨x, H2, I2, rx, q2⟩ => thn (hi pins s2 σ H2 _ I2 q2) fun iv s3 ⟨y, H3, I3, ry, a, H4, ex, g, q3⟩ => ?_) hs
  subst ex
  obtain rfl : u = Value.ref a := rx
  exact dn_setItem hu I3 g ry rv fun s4 I4 => ⟨σ, H4, I4, q3⟩
end
def tDNewN : TE := fun _ H Q => ∀ p, H p = none → Q (.ref p) (upd H p (.dN []))
theorem dn_empty {P : Program} {w : World} {H : Hp} (h : Heap) (hb : sysModules < h.objs.size) : ObjOk P w H (h.push { cls := .type "dict", data := .dict #[] }) h.objs.size (.dN []) :=
  ⟨Nat.zero_le _, beq_eq_false_iff_ne.mpr (Ne.symm (Nat.ne_of_lt hb)), [], .nil, _, #[], 0, Heap.get?_push_size _ rfl, ⟨rfl, rfl, rfl⟩, rfl, rfl, List.nodup_nil⟩
theorem pe_dnewN {X : Cx} {pos : Pos} : PE X (.Dict [] [] pos) tDNewN := fun pins s σ H Q I h =>
  wpAny_Dict_empty ⟨.ref s.heap.objs.size, _, I.laid (a := s.heap.objs.size) (o := .dN []) (t' := s.toks) (fun _ _ q => Heap.get?_push_of_some _ q) (Nat.le_refl _) (dn_empty s.heap I.big), rfl, h _ (I.hok.fresh (Nat.le_refl _))⟩
def oneKind (P : Program) (w : World) : PySem.KeyKind P w Unit where
  is := fun _ v => match v with | .none => true | _ => false
  hash := fun _ => PySem.W.hashW w.params .none
  inj := fun _ _ _ _ _ => rfl
  byValue := fun _ v h => by cases v <;> first | rfl | (simp at h)
  pyHash := fun {A E s k v Q} hv h => by
    cases v <;> first | (simp at hv; done) | skip
    exact PySem.W.pyHash_slot (T := "NoneType") rfl PySem.F.slot_NoneType_hash PySem.F.entry_NoneType_hash (PySem.F.args_NoneType_hash_1 _) (beq_builtin_none _) (.inl rfl) (wpAny_bind (wpAny_pure (wpAny_bind (wpAny_mkInt (wpAny_pure ⟨_, _, rfl, h⟩)))))
  eqBool := fun {A E s a b u v Q} hu hv h => by
    cases u <;> first | (simp at hu; done) | skip
    cases v <;> first | (simp at hv; done) | skip
    unfold eqBool
    try with_reducible refine wpAny_holding ?_
    show wpAny _ _ (if (Value.none == Value.none) = true then _ else _) Q E s
    rw [if_pos (show (Value.none == Value.none) = true by simp)]
    exact wpAny_bind (wpAny_rule (wpAny_pure (by simpa using h)))
  «strs» := fun k x t v h => by simp at h
def tDispN (tv : TE) : TE := fun σ H Q => ∀ p, H p = none → tv σ (upd H p (.dK [])) fun v H2 => H2 p = some (.dK []) ∧ Q (.ref p) (upd H2 p (.dN [(none, v)]))
def oneQ (F : V → Hp → Prop) : List (V × V) → Hp → Prop
  | [(.non, y)], H => F y H
  | _, _ => False
theorem oneQ_inv {F : V → Hp → Prop} {ps : List (V × V)} {H : Hp} (h : oneQ F ps H) : ∃ y, ps = [(V.non, y)] ∧ F y H := by
  match ps, h with
  | [(.non, y)], h => exact ⟨y, rfl, h⟩
theorem pe_dispN {X : Cx} {pos : Pos} {j : Nat} {kpos : Pos} {v : Expr} {tv : TE} (hv : PE X v tv) : PE X (.Dict [some (.Constant .none j kpos)] [v] pos) (tDispN tv) := by
  intro pins s σ H Q I q
  have hn := I.hok.fresh (Nat.le_refl s.heap.objs.size)
  have I1 := I.laid (a := s.heap.objs.size) (o := .dK []) (h' := s.heap.push { cls := .type "dict", data := .dict #[] }) (t' := s.toks) (fun _ _ q => Heap.get?_push_of_some _ q) (Nat.le_refl _) (dk_empty s.heap I.big)
  have hP : PPs X pos [some (.Constant .none j kpos)] [v] [(tC .non, tv)] := pps_cons pe_non hv pps_nil
  generalize hp : s.heap.objs.size = p at *
  have q1 := q p hn
  have hq : tPairs [(tC .non, tv)] σ (upd H p (.dK [])) (oneQ fun y H2 => H2 p = some (.dK []) ∧ Q (.ref p) (upd H2 p (.dN [(none, y)]))) := q1
  have w1 := hP pins _ σ _ _ I1 hq
  refine wpAny_Dict_walk (knd := oneKind X.prog X.w) rfl rfl (by simp) (by show 1 ≤ 15; decide) (thn w1 fun ws s2 r => ?_)
  obtain ⟨ps, H2, I2, rel, q0⟩ := r
  obtain ⟨y, rfl, e, q2⟩ := oneQ_inv q0
  cases rel with
  | @cons _ b _ _ h1 t1 =>
    cases t1
    obtain ⟨b1, b2⟩ := b
    cases (show b1 = Value.none from h1.1)
    obtain ⟨z, hd, vs0, r0, o, es, ep, g1, g2, g3, g4, g5, g6⟩ := dk_of I2.hok e
    cases r0
    have hes : es = #[] := by
      have := g5.length
      rw [List.length_nil, Array.length_toList] at this
      exact Array.eq_empty_of_size_eq_zero this
    subst hes
    rw [hp]
    refine ⟨[((), b2)], ⟨rfl, rfl, True.intro⟩, ⟨o, #[], ep, g1, g2, g3, fun _ he => by simp at he, .nil, List.nodup_nil⟩, fun h' dd' hs => ⟨.ref p, upd H2 p (.dN [(none, y)]), ?_, rfl, q2⟩⟩
    obtain ⟨o', es', ep', f1, f2, f3, f4, f5, f6⟩ := dd'
    have f5' : Pairs (oneKind X.prog X.w) es'.toList [((), b2)] := f5
    refine d_write I2 (by rw [e]; exact True.intro) hs ⟨o', f1⟩ ⟨by show 1 ≤ sizeLine; decide, hd, [(none, .none, b2)], .cons ⟨rfl, rfl, h1.2⟩ .nil, o', es', ep', f1, f2, f3, ?_, by simp⟩
    generalize hl : es'.toList = l at f5'
    cases f5' with
    | @cons e0 _ es0 _ k1 k2 k3 =>
      cases k3
      obtain ⟨k', kk, kh⟩ := f4 e0 (Array.mem_toList_iff.mp (by rw [hl]; simp))
      obtain ⟨eh, ek, ev⟩ := e0
      have ek' : ek = Value.none := by
        cases ek <;> first | rfl | (simp [oneKind] at k1)
      subst ek'
      cases (show ev = b2 from k2)
      have kh' : eh = PySem.W.hashW X.w.params .none := kh
      rw [kh']
      rfl
end L2
namespace L2
open PySem PySem.Spec PyProof.Rows
section
variable {X : Cx} {pins : List (Addr × Obj)} {σ : St} {H : Hp} {s : Shared} {a : Addr} {kvs : List (Key × V)} {k : Key} {u r : Value} {z : V} {A : Around} {E : Value → Shared → Prop}
theorem d_setd {Q : Value → Shared → Prop} (I : Inv X pins σ H s) (e : H a = some (.dK kvs)) (ry : RelV (kV k) u) (rz : RelV z r) (hl : kvs.length < sizeLine) (h1 : ∀ v w' s', valV kvs k = some v → Inv X pins σ H s' → RelV v w' → Q w' s')
    (h2 : valV kvs k = none → ∀ s', Inv X pins σ (upd H a (.dK (putK kvs k z))) s' → Q r s') : wpAny (model X.prog X.w) A (call (.builtin "dict.setdefault") [.ref a, u, r]) Q E s := by
  obtain ⟨zl, hd, vs, rel, dd⟩ := dk_of I.hok e
  refine call_meetsIn PySem.F.slot_dict_setdefault dd.typeIs PySem.F.entry_dict_setdefault (PySem.F.args_dict_setdefault_3 _ _ _) (kt_meets_setdefault (mixKind X.prog X.w) a (kV_is ry) hd r)
    ⟨vs, dd, by rw [← rel.length]; exact zl, fun v hv => ?_, fun hn h' dd' hs => ?_⟩
  · have q := rel.val k
    rw [hv] at q
    cases l : valV kvs k with
    | none => rw [l] at q; exact q.elim
    | some x => rw [l] at q; exact h1 x v _ l (I.tok _) q
  · have q := rel.val k
    rw [hn] at q
    have l : valV kvs k = none := by
      cases l : valV kvs k with
      | none => rfl
      | some x => rw [l] at q; exact q.elim
    have hp : (putK kvs k z).length ≤ sizeLine := by have := length_putK kvs k z; omega
    have he : ∃ q, h'.get? a = some q := let ⟨q, _, _, hq, _⟩ := dd'; ⟨q, hq⟩
    exact h2 l _ (d_write I (by rw [e]; exact True.intro) hs he (dk_new hp hd (rel.put k rz) dd'))
end
def tDSetd (td ty tx : TE) : TE := fun σ H Q => td σ H fun x H1 => ∃ a, x = .ref a ∧ IsD H1 a ∧ ty σ H1 fun y H2 => tx σ H2 fun z H3 => ∃ kvs k, H3 a = some (.dK kvs) ∧ y = kV k ∧ kvs.length < sizeLine ∧
  (∀ v, valV kvs k = some v → Q v H3) ∧ (valV kvs k = none → Q z (upd H3 a (.dK (putK kvs k z))))
theorem pe_dsetd {X : Cx} {o e f : Expr} {apos cpos : Pos} {td ty tx : TE} (ho : PE X o td) (he : PE X e ty) (hf : PE X f tx) (m : M2 X o "setdefault" apos e f cpos) : PE X (.Call (.Attribute o "setdefault" apos) [e, f] [] cpos) (tDSetd td ty tx) := by
  intro pins s σ H Q I h
  refine wpAny_Call_method m.base m.few m.line PySem.F.plainAttrs_dict PySem.F.slot_dict_setdefault PySem.F.type_dict_setdefault (thn (ho pins s σ H _ I h) fun u s1 ⟨x, H1, I1, rx, a, ex, d, q1⟩ => ?_)
  subst ex
  obtain rfl : u = Value.ref a := rx
  obtain ⟨t1, t2, _⟩ := isD_at I1 d
  refine ⟨t1, t2, ?_⟩
  rw [m.trees]
  refine Calls.callWith_builtin rfl (Calls.evalArgs_plain (Calls.spliced_cons (thn (he pins s1 σ H1 _ I1 q1) fun iv s2 ⟨y, H2, I2, ry, q2⟩ =>
    Calls.spliced_cons (thn (hf pins s2 σ H2 _ I2 q2) fun fv s3 ⟨z, H3, I3, rz, kvs, k, ea, ey, hl, q3, q4⟩ => Calls.spliced_nil ?_))))
  subst ey
  exact d_setd I3 ea ry rz hl (fun v w' s4 l I4 rv => ⟨v, H3, I4, rv, q3 v l⟩) fun l s4 I4 => ⟨z, _, I4, rz, q4 l⟩
theorem paired_of {α β : Type} {F : α → β → Prop} : ∀ {as : List α} {bs : List β}, as.length = bs.length → (∀ (i : Nat) x y, as[i]? = some x → bs[i]? = some y → F x y) → Paired F as bs
  | [], [], _, _ => .nil
  | a :: as, b :: bs, hl, h => .cons (h 0 a b rfl rfl) (paired_of (by simpa using hl) fun i x y hx hy => h (i + 1) x y (by simpa using hx) (by simpa using hy))
  | [], _ :: _, hl, _ => by simp at hl
  | _ :: _, [], hl, _ => by simp at hl
theorem kV_rel {P : Program} {w : World} {k : Key} {u : Value} (h : (mixKind P w).is k u = true) : RelV (kV k) u := by
  rcases keyIs_shape h with ⟨i, t, rfl, rfl⟩ | ⟨x, t, rfl, rfl⟩
  · exact ⟨t, rfl⟩
  · exact ⟨t, rfl⟩
theorem call_listD {X : Cx} (hc : X.calm = true) : CallR X (.type "list") (fun xs H Q => ∃ p kvs, xs = [.ref p] ∧ H p = some (.dK kvs) ∧ ∀ l, H l = none → Q (.ref l) (upd H l (.lst (kvs.map fun kv => kV kv.1)))) := by
  intro pins s σ H xs us Q I r h
  obtain ⟨p, kvs, rfl, e, q⟩ := h
  obtain ⟨u, rfl, r1⟩ := vals1 r
  cases (show u = Value.ref p from r1)
  obtain ⟨z, hd, vs, rel, dd⟩ := dk_of I.hok e
  obtain ⟨ep, hat⟩ := dd.dictAt
  have lz := rel.length
  refine PySem.W.kdl_call (PySem.W.kdl_dict (knd := mixKind X.prog X.w) (kvs := vs) (ep := ep) hd) (I.ok.hd hc) hat (by rw [← lz]; exact z) fun h' tk acc c hk hS hacc => ?_
  have hn := I.hok.fresh (Nat.le_refl s.heap.objs.size)
  refine ⟨.ref s.heap.objs.size, _, I.laid (a := s.heap.objs.size) (o := .lst (kvs.map fun kv => kV kv.1)) (t' := tk) (fun b o q => hk b o q) (Nat.le_refl _) ?_, rfl, q _ hn⟩
  refine ⟨by rw [List.length_map]; exact z, acc.toList, c, ?_, by rw [hS]⟩
  refine paired_of (by rw [List.length_map, lz, Array.length_toList]; exact hacc.1.symm) fun i x y hx hy => ?_
  rw [Array.getElem?_toList] at hy
  obtain ⟨k, v, h1, h2⟩ := hacc.2 i y hy
  rw [List.getElem?_map] at hx
  have hkk : kvs[i]?.map (·.1) = vs[i]?.map (·.1) := by rw [← List.getElem?_map, ← List.getElem?_map, rel.keys]
  rw [h1] at hkk
  cases hi : kvs[i]? with
  | none => rw [hi] at hx; cases hx
  | some kv =>
    rw [hi] at hx hkk
    cases hx
    have : kv.1 = k := by simpa using hkk
    show RelV (kV kv.1) y
    rw [this]
    exact kV_rel h2
theorem CompS.two {X : Cx} {N' : List Str} {scope : Scope} {y y' : Str} {c c' : Addr} {n j j' : Nat} (h1 : closureFor scope X.env = pure [(y, c), (y', c')]) (h2 : X.env.cells.lookup y = some c) (h2' : X.env.cells.lookup y' = some c') (hne : y' ≠ y) (hc : ∀ z ∈ scope.names, z.2 ≠ .cell)
    (hk : scope.kind = .function) (hn : ∀ z ∈ scope.names, z.2 = .local → scope.names.lookup z.1 = some .local) (ho : ∀ z ∈ scope.names, z.2 = .free → z.1 = y ∨ z.1 = y') (hN : N'[n]? = some y) (hN' : N'[n + 1]? = some y') (hl : N'.length = n + 2)
    (hj : X.N[j]? = some y) (hj' : X.N[j']? = some y') (hy : X.env.kindOf y = some .cell) (hy' : X.env.kindOf y' = some .cell) (hr : (relabel scope X.env).names.lookup y = some .cell) (hr' : (relabel scope X.env).names.lookup y' = some .cell) :
    CompS X N' scope [(y, c), (y', c')] n [j, j'] where
  clos := h1
  cell := hc
  kind := hk
  names := hn
  sub := fun z d e => by
    by_cases q : z = y
    · subst q; rw [List.lookup_cons, beq_self_eq_true] at e; rw [h2]; exact e
    · have b : (z == y) = false := beq_false_of_ne q
      by_cases q' : z = y'
      · subst q'; rw [List.lookup_cons, b, List.lookup_cons, beq_self_eq_true] at e; rw [h2']; exact e
      · have b' : (z == y') = false := beq_false_of_ne q'
        rw [List.lookup_cons, b, List.lookup_cons, b'] at e; simp at e
  has := fun z h => by
    have mem : ∃ k, (k = NameKind.cell ∨ k = NameKind.free) ∧ (z, k) ∈ (relabel scope X.env).names := by
      rcases h with h | h
      · exact ⟨_, .inl rfl, PySem.mem_of_lookup h⟩
      · exact ⟨_, .inr rfl, PySem.mem_of_lookup h⟩
    obtain ⟨k, hk2, hm⟩ := mem
    obtain ⟨⟨a, ka⟩, ha, e⟩ := List.mem_map.mp (show (z, k) ∈ scope.names.map _ from hm)
    have hz : z = y ∨ z = y' := by
      by_cases hfree : ka = .free
      · have e2 : z = a := by
          dsimp only at e
          split at e
          · exact (Prod.mk.inj e).1.symm
          · exact (Prod.mk.inj e).1.symm
        rw [e2]
        exact ho _ ha hfree
      · have b : (ka == NameKind.free) = false := by simpa using hfree
        simp only [b, Bool.false_and, Bool.false_eq_true, if_false] at e
        have e3 := (Prod.mk.inj e).2
        rcases hk2 with q | q
        · exact absurd (e3.trans q) (hc _ ha)
        · exact absurd (e3.trans q) hfree
    rcases hz with q | q
    · subst q; exact ⟨c, by rw [List.lookup_cons, beq_self_eq_true]⟩
    · subst q
      have b : (z == y) = false := beq_false_of_ne hne
      exact ⟨c', by rw [List.lookup_cons, b, List.lookup_cons, beq_self_eq_true]⟩
  len := by simpa using hl
  frees := fun k i e => by
    match k, e with
    | 0, e =>
      have e' : j = i := by simpa using e
      subst e'
      exact ⟨y, hN, hj, .inl hy, .inl hr, by rw [h2, List.lookup_cons, beq_self_eq_true]⟩
    | 1, e =>
      have e' : j' = i := by simpa using e
      subst e'
      have b : (y' == y) = false := beq_false_of_ne hne
      exact ⟨y', hN', hj', .inl hy', .inl hr', by rw [h2', List.lookup_cons, b, List.lookup_cons, beq_self_eq_true]⟩
    | k + 2, e => simp at e
end L2
namespace FB
open PySem
def okD : Nat → PyData → Bool
  | _, .none => true
  | _, .int _ => true
  | _, .str x => PyData.strOk x
  | k + 1, .list xs => xs.all (okD k)
  | k + 1, .tuple xs => xs.all (okD k)
  | _, _ => false
mutual
def wgt : PyData → Nat
  | .list xs => wgts xs + 1
  | .tuple xs => wgts xs + 1
  | .none => 1
  | .bool _ => 1
  | .int _ => 1
  | .str _ => 1
  | .dict _ => 1
def wgts : List PyData → Nat
  | [] => 0
  | x :: xs => wgt x + wgts xs
end
theorem wgt_pos : ∀ d : PyData, 1 ≤ wgt d
  | .list xs => by simp [wgt]
  | .tuple xs => by simp [wgt]
  | .none => by simp [wgt]
  | .bool _ => by simp [wgt]
  | .int _ => by simp [wgt]
  | .str _ => by simp [wgt]
  | .dict _ => by simp [wgt]
theorem wgts_append : ∀ xs ys : List PyData, wgts (xs ++ ys) = wgts xs + wgts ys
  | [], ys => by simp [wgts]
  | x :: xs, ys => by
    rw [List.cons_append, wgts, wgts, wgts_append xs ys]
    omega
theorem wgts_length : ∀ xs : List PyData, xs.length ≤ wgts xs
  | [] => Nat.zero_le _
  | x :: xs => by
    have h1 := wgt_pos x
    have h2 := wgts_length xs
    rw [wgts, List.length_cons]
    omega
theorem wgts_one (d : PyData) : wgts [d] = wgt d := by simp [wgts]
theorem wgts_map {α : Type} (f : α → PyData) (k : Nat) : ∀ xs : List α, (∀ x ∈ xs, wgt (f x) ≤ k) → wgts (xs.map f) ≤ xs.length * k
  | [], _ => by simp [wgts]
  | x :: xs, h => by
    have h1 := h x (by simp)
    have h2 := wgts_map f k xs fun y hy => h y (by simp [hy])
    rw [List.map_cons, wgts, List.length_cons, Nat.succ_mul]
    omega
theorem okD_lay : ∀ (k : Nat) (d : PyData), okD k d = true → d.canLay0 = true ∧ d.depth ≤ k := by
  intro k
  induction k with
  | zero =>
    intro d h
    cases d <;> simp_all [okD, PyData.canLay0, PyData.depth]
  | succ k ih =>
    have all : ∀ xs : List PyData, xs.all (okD k) = true → PyData.canLayAll0 xs = true ∧ PyData.depthAll xs ≤ k := by
      intro xs
      induction xs with
      | nil => intro _; exact ⟨rfl, Nat.zero_le _⟩
      | cons x xs ihx =>
        intro h
        rw [List.all_cons, Bool.and_eq_true] at h
        have h1 := ih x h.1
        have h2 := ihx h.2
        refine ⟨?_, ?_⟩
        · rw [PyData.canLayAll0, h1.1, h2.1]; rfl
        · rw [PyData.depthAll]; omega
    intro d h
    cases d with
    | list xs =>
      have z := all xs (by simpa [okD] using h)
      exact ⟨by rw [PyData.canLay0]; exact z.1, by rw [PyData.depth]; omega⟩
    | tuple xs =>
      have z := all xs (by simpa [okD] using h)
      exact ⟨by rw [PyData.canLay0]; exact z.1, by rw [PyData.depth]; omega⟩
    | dict kvs => simp [okD] at h
    | bool b => simp [okD] at h
    | none => simp [PyData.canLay0, PyData.depth]
    | int i => simp [PyData.canLay0, PyData.depth]
    | str x => simp_all [okD, PyData.canLay0, PyData.depth]
theorem okD_shaped {k : Nat} {d : PyData} (h : okD k d = true) (hk : k ≤ 64) : SeqAt.shaped d = true := by
  have z := okD_lay k d h
  unfold SeqAt.shaped
  rw [z.1, Bool.true_and]
  exact decide_eq_true (Nat.le_trans z.2 hk)
theorem okD_mono : ∀ (k : Nat) (d : PyData) (j : Nat), k ≤ j → okD k d = true → okD j d = true := by
  intro k
  induction k with
  | zero => intro d j _ h; cases d <;> cases j <;> simp_all [okD]
  | succ k ih =>
    intro d j hj h
    obtain ⟨i, rfl⟩ : ∃ i, j = i + 1 := ⟨j - 1, by omega⟩
    cases d with
    | list xs =>
      rw [okD, List.all_eq_true] at h ⊢
      exact fun x hx => ih x i (by omega) (h x hx)
    | tuple xs =>
      rw [okD, List.all_eq_true] at h ⊢
      exact fun x hx => ih x i (by omega) (h x hx)
    | _ => simp_all [okD]
abbrev Nd := Str × Int × Int
abbrev En := Str × Int × List Nd
def ndD (n : Nd) : PyData := .tuple [.str n.1, .int n.2.1, .int n.2.2]
def enD (e : En) : PyData := .tuple [.str e.1, .int e.2.1, .list (e.2.2.map ndD)]
def keyOf (e : En) : Str × Int := (e.1, e.2.1)
structure PartOk (x : Str) : Prop where
  ok : PyData.strOk x = true
  sh : (reprText x).length ≤ 1000
structure EnOk (e : En) : Prop where
  pt : PartOk e.1
  nd : ∀ n ∈ e.2.2, PartOk n.1
  few : e.2.2.length ≤ 100
def meetsB (n : Nd) (e : En) : Bool := decide (e.1 = n.1) && (decide (n.2.1 ≤ e.2.1) && decide (e.2.1 ≤ n.2.2))
def metOf (es : List En) (n : Nd) : List Int := (es.filter (meetsB n)).map fun e => e.2.1
theorem metOf_length (es : List En) (n : Nd) : (metOf es n).length ≤ es.length := by
  unfold metOf
  rw [List.length_map]
  exact List.length_filter_le _ _
theorem metOf_snoc (es : List En) (e : En) (n : Nd) : metOf (es ++ [e]) n = if meetsB n e = true then metOf es n ++ [e.2.1] else metOf es n := by
  unfold metOf
  rw [List.filter_append, List.map_append]
  by_cases h : meetsB n e = true
  · rw [if_pos h, List.filter_cons, if_pos h]; rfl
  · rw [if_neg h, List.filter_cons, if_neg h]; simp
end FB
namespace FB
open PySem L2 PyProof.Rows
def del (H : Hp) (ps : List Addr) : Hp := fun b => if b ∈ ps then none else H b
theorem del_out {H : Hp} {ps : List Addr} {b : Addr} (h : b ∉ ps) : del H ps b = H b := by unfold del; rw [if_neg h]
theorem del_in {H : Hp} {ps : List Addr} {b : Addr} (h : b ∈ ps) : del H ps b = none := by unfold del; rw [if_pos h]
theorem same_del (H : Hp) (ps : List Addr) : Same (del H ps) H := fun b o e => by
  by_cases h : b ∈ ps
  · rw [del_in h] at e; cases e
  · rw [del_out h] at e; exact e
theorem del_upd {H : Hp} {ps : List Addr} {p : Addr} {o : HO} (h : p ∈ ps) : del (upd H p o) ps = del H ps := by
  funext b
  by_cases hb : b ∈ ps
  · rw [del_in hb, del_in hb]
  · rw [del_out hb, del_out hb, upd_ne (fun z => hb (by rw [z]; exact h))]
theorem Same.del {H H' : Hp} (e : Same H H') (ps : List Addr) : Same (del H ps) (del H' ps) := fun b o q => by
  by_cases h : b ∈ ps
  · rw [del_in h] at q; cases q
  · rw [del_out h] at q ⊢; exact e b o q
theorem same_new {H : Hp} {p : Addr} (h : H p = none) (o : HO) : Same H (upd H p o) := fun b u q => by rw [upd_ne (ne_of_none q h)]; exact q
theorem Same.upd {H H' : Hp} (e : Same H H') {p : Addr} {o : HO} (h : H p = none) : Same H (upd H' p o) := fun b u q => by rw [upd_ne (ne_of_none q h)]; exact e b u q
theorem Same.get {H H' : Hp} (e : Same H H') {b : Addr} {o : HO} (h : H b = some o) : H' b = some o := e b o h
def NdAt (H : Hp) (v : V) (n : Nd) : Prop := ∃ q, v = .ref q ∧ H q = some (.tup [.str n.1, .int n.2.1, .int n.2.2])
def PkAt (H : Hp) (v : V) (k : Str × Int) : Prop := ∃ q, v = .ref q ∧ H q = some (.tup [.str k.1, .int k.2])
def EnAt (H : Hp) (v : V) (e : En) : Prop := ∃ q a xs, v = .ref q ∧ H q = some (.tup [.str e.1, .int e.2.1, .ref a]) ∧ H a = some (.lst xs) ∧ Paired (NdAt H) xs e.2.2
def ShAt (H : Hp) (a : Addr) (es : List En) : Prop := ∃ xs, H a = some (.lst xs) ∧ Paired (EnAt H) xs es
theorem NdAt.same {H H' : Hp} (e : Same H H') {v : V} {n : Nd} (h : NdAt H v n) : NdAt H' v n := let ⟨q, h1, h2⟩ := h; ⟨q, h1, e _ _ h2⟩
theorem PkAt.same {H H' : Hp} (e : Same H H') {v : V} {k : Str × Int} (h : PkAt H v k) : PkAt H' v k := let ⟨q, h1, h2⟩ := h; ⟨q, h1, e _ _ h2⟩
theorem EnAt.same {H H' : Hp} (e : Same H H') {v : V} {n : En} (h : EnAt H v n) : EnAt H' v n :=
  let ⟨q, a, xs, h1, h2, h3, h4⟩ := h; ⟨q, a, xs, h1, e _ _ h2, e _ _ h3, Paired.mapP h4 fun _ _ z => NdAt.same e z⟩
theorem ShAt.same {H H' : Hp} (e : Same H H') {a : Addr} {es : List En} (h : ShAt H a es) : ShAt H' a es :=
  let ⟨xs, h1, h2⟩ := h; ⟨xs, e _ _ h1, Paired.mapP h2 fun _ _ z => EnAt.same e z⟩
theorem NdAt.rep {H : Hp} {v : V} {n : Nd} (h : NdAt H v n) : Rep H v (ndD n) := by
  obtain ⟨q, rfl, h2⟩ := h
  exact .tup h2 (.cons (.str _) (.cons (.int _) (.cons (.int _) .nil)))
def pkD (k : Str × Int) : PyData := .tuple [.str k.1, .int k.2]
theorem PkAt.rep {H : Hp} {v : V} {k : Str × Int} (h : PkAt H v k) : Rep H v (pkD k) := by
  obtain ⟨q, rfl, h2⟩ := h
  exact .tup h2 (.cons (.str _) (.cons (.int _) .nil))
theorem reps_of {H : Hp} {α : Type} {R : V → α → Prop} {f : α → PyData} (h : ∀ v a, R v a → Rep H v (f a)) : ∀ {vs : List V} {as : List α}, Paired R vs as → Reps H vs (as.map f)
  | _, _, .nil => .nil
  | _, _, .cons r t => .cons (h _ _ r) (reps_of h t)
theorem EnAt.rep {H : Hp} {v : V} {e : En} (h : EnAt H v e) : Rep H v (enD e) := by
  obtain ⟨q, a, xs, rfl, h2, h3, h4⟩ := h
  exact .tup h2 (.cons (.str _) (.cons (.int _) (.cons (.lst h3 (reps_of (fun _ _ z => NdAt.rep z) h4)) .nil)))
theorem ShAt.rep {H : Hp} {a : Addr} {es : List En} (h : ShAt H a es) : Rep H (.ref a) (.list (es.map enD)) := by
  obtain ⟨xs, h1, h2⟩ := h
  exact .lst h1 (reps_of (fun _ _ z => EnAt.rep z) h2)
theorem ints_reps (H : Hp) : ∀ ns : List Int, Reps H (ns.map V.int) (ns.map PyData.int)
  | [] => .nil
  | n :: ns => .cons (.int n) (ints_reps H ns)
theorem Paired.getR {α β : Type} {F : α → β → Prop} : ∀ {as : List α} {bs : List β} {i : Nat} {a : α}, Paired F as bs → as[i]? = some a → ∃ b, bs[i]? = some b ∧ F a b
  | _, _, _, _, .nil, e => by simp at e
  | _, _, 0, _, .cons r _, e => by simp at e; subst e; exact ⟨_, rfl, r⟩
  | _, _, i + 1, a, .cons _ t, e => by
    obtain ⟨b, h1, h2⟩ := Paired.getR (i := i) (a := a) t (by simpa using e)
    exact ⟨b, by simpa using h1, h2⟩
theorem at_any {xs : List V} {i : Int} (h0 : 0 ≤ i) (h1 : i < (xs.length : Int)) : ∃ v, atI xs i = some v ∧ v ∈ xs := by
  have hk : i.toNat < xs.length := by omega
  have ek : i = ((i.toNat : Nat) : Int) := by omega
  have q : atI xs ((i.toNat : Nat) : Int) = some xs[i.toNat] := atI_nat (List.getElem?_eq_getElem hk)
  rw [← ek] at q
  exact ⟨_, q, List.getElem_mem hk⟩
theorem at_ints {ns : List Int} {i : Int} (h0 : 0 ≤ i) (h1 : i < (ns.length : Int)) : ∃ z, atI (ns.map V.int) i = some (.int z) ∧ z ∈ ns := by
  obtain ⟨v, h2, h3⟩ := at_any (xs := ns.map V.int) h0 (by rw [List.length_map]; exact h1)
  obtain ⟨z, h4, rfl⟩ := List.mem_map.mp h3
  exact ⟨z, h2, h4⟩
end FB
namespace FB
open PySem L2 PyProof.Rows
def versOf (es : List En) (x : Str) : List Int := (es.filter fun e => decide (e.1 = x)).map fun e => e.2.1
theorem versOf_snoc (es : List En) (e : En) (x : Str) : versOf (es ++ [e]) x = if e.1 = x then versOf es x ++ [e.2.1] else versOf es x := by
  unfold versOf
  rw [List.filter_append, List.map_append]
  by_cases h : e.1 = x
  · rw [if_pos h, List.filter_cons, if_pos (decide_eq_true h)]; rfl
  · rw [if_neg h, List.filter_cons, if_neg (by simpa using h)]; simp
theorem versOf_length (es : List En) (x : Str) : (versOf es x).length ≤ es.length := by
  unfold versOf
  rw [List.length_map]
  exact List.length_filter_le _ _
def inB (n : Nd) (z : Int) : Bool := decide (n.2.1 ≤ z) && decide (z ≤ n.2.2)
theorem metOf_vers (es : List En) (n : Nd) : metOf es n = (versOf es n.1).filter (inB n) := by
  induction es with
  | nil => rfl
  | cons e es ih =>
    unfold metOf versOf at ih ⊢
    rw [List.filter_cons, List.filter_cons]
    by_cases h : e.1 = n.1
    · rw [if_pos (decide_eq_true h), List.map_cons, List.filter_cons]
      have hm : meetsB n e = inB n e.2.1 := by unfold meetsB inB; rw [decide_eq_true h, Bool.true_and]
      rw [hm]
      by_cases hb : inB n e.2.1 = true
      · rw [if_pos hb, if_pos hb, List.map_cons, ih]
      · rw [if_neg hb, if_neg hb, ih]
    · have hm : ¬ meetsB n e = true := by unfold meetsB; rw [decide_eq_false h]; simp
      rw [if_neg hm, if_neg (by simpa using h), ih]
theorem perm_met {es : List En} {n : Nd} {ms : List Int} (h : ms.Perm (versOf es n.1)) : (ms.filter (inB n)).Perm (metOf es n) := by
  rw [metOf_vers]
  exact h.filter _
def dkey (k : Str × Int) : List L2.Key := [Sum.inr k.1, Sum.inl k.2]
theorem dkey_inj {k j : Str × Int} (h : dkey k = dkey j) : k = j := by
  obtain ⟨a, b⟩ := k
  obtain ⟨c, d⟩ := j
  unfold dkey at h
  injection h with h1 h2
  injection h2 with h3 h4
  injection h1 with h1
  injection h3 with h3
  exact Prod.ext h1 h3
theorem nv : ¬ (("needs" : Str) = "versions") := by decide +kernel
def bflds (dn dv : Addr) : List (Str × V) := putF "versions" (.ref dv) (putF "needs" (.ref dn) [])
theorem bflds_needs (dn dv : Addr) : (bflds dn dv).lookup ("needs" : Str) = some (.ref dn) := by
  unfold bflds
  rw [lookup_putF, if_neg nv, lookup_putF, if_pos rfl]
theorem bflds_vers (dn dv : Addr) : (bflds dn dv).lookup ("versions" : Str) = some (.ref dv) := by
  unfold bflds
  rw [lookup_putF, if_pos rfl]
theorem bflds_no (dn dv : Addr) {m : Str} (h1 : ¬ m = "versions") (h2 : ¬ m = "needs") : (bflds dn dv).lookup m = none := by
  unfold bflds
  rw [lookup_putF, if_neg h1, lookup_putF, if_neg h2]
  all_goals rfl
def NeKv (H : Hp) (kv : NKey × V) (e : En) : Prop := kv.1 = some (dkey (keyOf e)) ∧ ∃ a zs, kv.2 = .ref a ∧ H a = some (.lst zs) ∧ Paired (NdAt H) zs e.2.2
def VersI (H : Hp) (vk : List (Key × V)) (es : List En) (d : Str → Prop) : Prop :=
  ∀ x : Str, (valV vk (Sum.inr x) = none ∧ versOf es x = []) ∨ ∃ l ms, valV vk (Sum.inr x) = some (.ref l) ∧ H l = some (.lst (List.map V.int ms)) ∧ ms.Perm (versOf es x) ∧ (d x → ms.Pairwise (· ≥ ·))
structure BoardAt (C : Addr) (H : Hp) (p st : Addr) (es : List En) : Prop where
  ex : ∃ dx dn dv nks vk, H p = some (.ins C dx (bflds dn dv)) ∧ H dn = some (.dN ((none, .ref st) :: nks)) ∧ Paired (NeKv H) nks es ∧ H dv = some (.dK vk) ∧ VersI H vk es fun _ => True
theorem NeKv.same {H H' : Hp} (e : Same H H') {kv : NKey × V} {n : En} (h : NeKv H kv n) : NeKv H' kv n :=
  let ⟨h1, a, zs, h2, h3, h4⟩ := h; ⟨h1, a, zs, h2, e _ _ h3, Paired.mapP h4 fun _ _ z => NdAt.same e z⟩
theorem VersI.same {H H' : Hp} (e : Same H H') {vk : List (Key × V)} {es : List En} {d : Str → Prop} (h : VersI H vk es d) : VersI H' vk es d := fun x => by
  rcases h x with z | ⟨l, ms, h1, h2, h3, h4⟩
  · exact .inl z
  · exact .inr ⟨l, ms, h1, e _ _ h2, h3, h4⟩
theorem BoardAt.same {C : Addr} {H H' : Hp} (e : Same H H') {p st : Addr} {es : List En} (h : BoardAt C H p st es) : BoardAt C H' p st es := by
  obtain ⟨dx, dn, dv, nks, vk, h1, h2, h3, h4, h5⟩ := h.ex
  exact ⟨dx, dn, dv, nks, vk, e _ _ h1, e _ _ h2, Paired.mapP h3 fun _ _ z => NeKv.same e z, e _ _ h4, h5.same e⟩
theorem val_nks {H : Hp} : ∀ {nks : List (NKey × V)} {es : List En}, Paired (NeKv H) nks es → ∀ k : Str × Int, (k ∉ es.map keyOf ∧ valV nks (some (dkey k)) = none) ∨ ∃ e ∈ es, keyOf e = k ∧ ∃ a zs, valV nks (some (dkey k)) = some (.ref a) ∧ H a = some (.lst zs) ∧ Paired (NdAt H) zs e.2.2
  | _, _, .nil, k => .inl ⟨by simp, rfl⟩
  | _, _, .cons (a := kv) (b := e) r t, k => by
    obtain ⟨h1, a, zs, h2, h3, h4⟩ := r
    by_cases hk : keyOf e = k
    · refine .inr ⟨e, by simp, hk, a, zs, ?_, h3, h4⟩
      rw [valV_pos (by rw [h1, hk]), h2]
    · have hn : ¬ kv.1 = some (dkey k) := by
        rw [h1]
        exact fun z => hk (dkey_inj (Option.some.inj z))
      rw [valV_neg hn]
      rcases val_nks t k with ⟨z1, z2⟩ | ⟨e', he', z⟩
      · refine .inl ⟨?_, z2⟩
        rw [List.map_cons, List.mem_cons]
        exact fun y => y.elim (fun q => hk q.symm) z1
      · exact .inr ⟨e', by simp [he'], z⟩
end FB
namespace L2
open PySem PySem.Spec PyProof.Rows
section
variable {X : Cx} {pins : List (Addr × Obj)} {σ : St} {H : Hp} {s : Shared} {h' : Heap}
theorem Inv.turneds {t' : Nat} {ch : List Addr} (I : Inv X pins σ H s) (hf : ∀ b ∈ ch, FpOk X pins H b) (k : ∀ b o, b ∉ ch → s.heap.get? b = some o → h'.get? b = some o) : Inv X pins σ H { s with heap := h', toks := t' } := by
  refine I.step (g' := s.gens) (d' := s.drawn) (ch := ch) (fun b hb => ?_) (fun b o _ _ hc e _ => k b o hc e) (fun b o _ _ hc e _ => ⟨o.slots, k b o hc e⟩) (fun _ _ _ _ n => n)
    (fun b o hc e => ⟨o, k b o hc e⟩) (fun _ _ e => e) (fun _ _ _ e => e) (fun b ps e => ⟨#[], by rw [e]; simp⟩) (fun m hm => ?_) (fun b u e => ?_) I.bare
  · obtain ⟨f0, f1, f2, f3, f4, f5⟩ := hf b hb
    exact ⟨f3, f1, f4, f5⟩
  · obtain ⟨o, es, ep, ho, r⟩ := hm
    exact ⟨o, es, ep, k _ o (fun z => (hf _ z).2.1 rfl) ho, r⟩
  · have out : ∀ c v, H c = some v → c ∉ ch := fun c v q z => by rw [(hf c z).1] at q; cases q
    refine (I.hok b u e).stay (fun c v hc q => k c v ?_ q) (fun _ q => q) fun _ _ q => q
    rcases hc with z | z
    · rw [z]; exact out b u e
    · exact out c _ z
end
section
variable {X : Cx} {k : Nat} {x : Str} {p pos : Pos} {e : Expr} {es : List Expr} {t : TA} {i : Nat}
end
end L2
namespace L2
open PySem PySem.Spec PyProof.Rows
section
variable {P : Program} {w : World} {A : Around} {R : Result → Shared → Prop} {S it l : Addr} {items : Array Value} {ks : List (Key × Value)}
end
end L2
namespace FB
open PySem L2 PyProof.Rows
abbrev Pk := Str × Int
def PksAt (H : Hp) (a : Addr) (ps : List Pk) : Prop := ∃ xs, H a = some (.lst xs) ∧ Paired (PkAt H) xs ps
def NdsAt (H : Hp) (a : Addr) (ns : List Nd) : Prop := ∃ zs, H a = some (.lst zs) ∧ Paired (NdAt H) zs ns
theorem PksAt.same {H H' : Hp} (e : Same H H') {a : Addr} {ps : List Pk} (h : PksAt H a ps) : PksAt H' a ps := let ⟨xs, h1, h2⟩ := h; ⟨xs, e _ _ h1, Paired.mapP h2 fun _ _ z => PkAt.same e z⟩
theorem NdsAt.same {H H' : Hp} (e : Same H H') {a : Addr} {ns : List Nd} (h : NdsAt H a ns) : NdsAt H' a ns := let ⟨xs, h1, h2⟩ := h; ⟨xs, e _ _ h1, Paired.mapP h2 fun _ _ z => NdAt.same e z⟩
def needsOf (es : List En) (k : Pk) : List Nd := match es.find? fun e => decide (keyOf e = k) with
  | some e => e.2.2
  | none => []
structure IsFirst (p : Nd → Bool) (L : List (List Nd)) (i j : Nat) : Prop where
  at_ : ∃ ns n, L[i]? = some ns ∧ ns[j]? = some n ∧ p n = true ∧ ∀ m ∈ ns.take j, p m = false
  be : ∀ i' ns, i' < i → L[i']? = some ns → ∀ m ∈ ns, p m = false
def NoneOf (p : Nd → Bool) (L : List (List Nd)) : Prop := ∀ ns ∈ L, ∀ m ∈ ns, p m = false
theorem IsFirst.one {p : Nd → Bool} {L : List (List Nd)} {i j i' j' : Nat} (h : IsFirst p L i j) (h' : IsFirst p L i' j') : i = i' ∧ j = j' := by
  obtain ⟨ns, n, a1, a2, a3, a4⟩ := h.at_
  obtain ⟨ns', n', b1, b2, b3, b4⟩ := h'.at_
  have e : i = i' := by
    rcases Nat.lt_trichotomy i i' with z | z | z
    · have := h'.be i ns z a1 n (List.mem_of_getElem? a2)
      rw [a3] at this; cases this
    · exact z
    · have := h.be i' ns' z b1 n' (List.mem_of_getElem? b2)
      rw [b3] at this; cases this
  subst e
  rw [a1] at b1
  cases b1
  refine ⟨rfl, ?_⟩
  have tk : ∀ {j j' : Nat} {x : Nd}, ns[j]? = some x → j < j' → x ∈ ns.take j' := fun {j j' x} hx hlt => by
    refine List.mem_of_getElem? (i := j) ?_
    rw [List.getElem?_take, if_pos hlt]
    exact hx
  rcases Nat.lt_trichotomy j j' with z | z | z
  · have := b4 n (tk a2 z)
    rw [a3] at this; cases this
  · exact z
  · have := a4 n' (tk b2 z)
    rw [b3] at this; cases this
theorem IsFirst.not {p : Nd → Bool} {L : List (List Nd)} {i j : Nat} (h : IsFirst p L i j) (h' : NoneOf p L) : False := by
  obtain ⟨ns, n, a1, a2, a3, _⟩ := h.at_
  have := h' ns (List.mem_of_getElem? a1) n (List.mem_of_getElem? a2)
  rw [a3] at this; cases this
theorem needs_found {es : List En} (hn : (es.map keyOf).Nodup) {e : En} (he : e ∈ es) : needsOf es (keyOf e) = e.2.2 := by
  unfold needsOf
  have : es.find? (fun x => decide (keyOf x = keyOf e)) = some e := by
    induction es with
    | nil => cases he
    | cons a es ih =>
      rw [List.map_cons, List.nodup_cons] at hn
      rw [List.find?_cons]
      rcases List.mem_cons.mp he with z | z
      · subst z; rw [decide_eq_true rfl]
      · have : ¬ keyOf a = keyOf e := fun y => hn.1 (y ▸ List.mem_map_of_mem z)
        rw [decide_eq_false this]
        exact ih hn.2 z
  rw [this]
theorem BoardAt.start {C : Addr} {H : Hp} {p st : Addr} {es : List En} (B : BoardAt C H p st es) : ∃ dx dn dv, H p = some (.ins C dx (bflds dn dv)) ∧ DGetN H dn .non (some (.ref st)) ∧
    ∀ (v : V) (k : Pk), PkAt H v k → (k ∉ es.map keyOf ∧ DGetN H dn v none) ∨ (k ∈ es.map keyOf ∧ ∃ e ∈ es, keyOf e = k ∧ ∃ a zs, DGetN H dn v (some (.ref a)) ∧ H a = some (.lst zs) ∧ Paired (NdAt H) zs e.2.2) := by
  obtain ⟨dx, dn, dv, nks, vk, h1, h2, h3, h4, h5⟩ := B.ex
  refine ⟨dx, dn, dv, h1, ⟨_, none, .inl h2, rfl, by rw [valV_pos rfl]⟩, fun v k hv => ?_⟩
  obtain ⟨q, rfl, hq⟩ := hv
  have hk : KeyV H (some (dkey k)) (.ref q) := ⟨q, rfl, hq⟩
  have hne : ¬ ((none : NKey) = some (dkey k)) := by intro z; cases z
  rcases val_nks h3 k with ⟨z1, z2⟩ | ⟨e, he, hke, a, zs, z1, z2, z3⟩
  · exact .inl ⟨z1, _, _, .inl h2, hk, by rw [valV_neg hne, z2]⟩
  · exact .inr ⟨hke ▸ List.mem_map_of_mem he, e, he, hke, a, zs, ⟨_, _, .inl h2, hk, by rw [valV_neg hne, z1]⟩, z2, z3⟩
end FB
namespace L2
open PySem PySem.Spec PyProof.Rows
def Itz (K : PySem.W.Frag) (a b : Addr) : It :=
  ⟨fun i H => ∃ xs ys x y, SqL K H a xs ∧ SqL K H b ys ∧ xs[i]? = some x ∧ ys[i]? = some y, fun i H v H' => ∃ t x y, H t = none ∧ v = .ref t ∧ H' = upd H t (.tup [x, y]) ∧ (∀ xs, SqL K H a xs → xs[i]? = some x) ∧ ∀ ys, SqL K H b ys → ys[i]? = some y,
    fun i H => ∃ xs ys, SqL K H a xs ∧ SqL K H b ys ∧ (xs.length ≤ i ∨ ys.length ≤ i)⟩
theorem zip_apart {h : Heap} {n l1 l2 : Addr} {xs ys : Array Value} {f0 a b : Value} {i : Nat} {m1 m2 : Addr} (hz : IsZip h (n + 4) (n + 2) (n + 3) f0) (hO : IsPair h (n + 3) a b) (h1 : h.IsListIter n m1 i) (h2 : h.IsListIter (n + 1) m2 i) (hl1 : h.IsList l1 xs) (hl2 : h.IsList l2 ys) :
    ZipApart (n + 4) (n + 2) (n + 3) n (n + 1) l1 l2 := by
  have out : ∀ {l : Addr} {zs : Array Value}, h.IsList l zs → l ≠ n + 4 ∧ l ≠ n + 3 ∧ l ≠ n ∧ l ≠ n + 1 := by
    intro l zs hl
    obtain ⟨o, g1, g2, _⟩ := hl
    obtain ⟨o1, e1, c1, _⟩ := h1
    obtain ⟨o2, e2, c2, _⟩ := h2
    refine ⟨fun z => ?_, fun z => ?_, fun z => ?_, fun z => ?_⟩
    · rw [z, hz] at g1; cases g1; exact absurd g2 (show ¬ (Value.type "zip" = Value.type "list") by decide)
    · rw [z, hO] at g1; cases g1; exact absurd g2 (show ¬ (Value.type "tuple" = Value.type "list") by decide)
    · rw [z, e1] at g1; cases g1; rw [c1] at g2; exact absurd g2 (by decide)
    · rw [z, e2] at g1; cases g1; rw [c2] at g2; exact absurd g2 (by decide)
  obtain ⟨a1, a2, a3, a4⟩ := out hl1
  obtain ⟨b1, b2, b3, b4⟩ := out hl2
  have ne : ∀ (p q : Nat), p ≠ q → n + p ≠ n + q := fun p q h z => h (Nat.add_left_cancel z)
  exact ⟨ne 2 4 (by decide), ne 3 4 (by decide), ne 0 4 (by decide), ne 1 4 (by decide), ne 2 3 (by decide), ne 2 0 (by decide), ne 2 1 (by decide), ne 3 0 (by decide), ne 3 1 (by decide), ne 0 1 (by decide), a1, a2, a3, a4, b1, b2, b3, b4⟩
theorem turn_zip {P : Program} {w : World} {K : PySem.W.Frag} {elts : List Expr} {k : Nat} {pos : Pos} (a b n : Addr) :
    Turn P w K (.Tuple elts k pos) (Itz K a b) [n + 4, n + 2, n + 3, n, n + 1] (n + 4) (fun i h => IsZip h (n + 4) (n + 2) (n + 3) .none ∧ IsPair h (n + 2) (.ref n) (.ref (n + 1)) ∧ (∃ a b, IsPair h (n + 3) a b) ∧ h.IsListIter n a i ∧ h.IsListIter (n + 1) b i) where
  mem := by simp
  obj := fun i h st c hc => by
    obtain ⟨g1, g2, ⟨_, _, g3⟩, ⟨o4, e4, _, d4⟩, ⟨o5, e5, _, d5⟩⟩ := st
    simp only [List.mem_cons, List.not_mem_nil, or_false] at hc
    rcases hc with rfl | rfl | rfl | rfl | rfl
    · exact ⟨_, g1, fun v z => by have z' : Data.fields _ = Data.cell v := z; cases z'⟩
    · exact ⟨_, g2, fun v z => by have z' : Data.seq _ = Data.cell v := z; cases z'⟩
    · exact ⟨_, g3, fun v z => by have z' : Data.seq _ = Data.cell v := z; cases z'⟩
    · exact ⟨o4, e4, fun v z => by rw [d4] at z; cases z⟩
    · exact ⟨o5, e5, fun v z => by rw [d5] at z; cases z⟩
  keep := fun i h h' st kk => by
    obtain ⟨g1, g2, ⟨x, y, g3⟩, g4, g5⟩ := st
    exact ⟨kk _ (by simp) _ g1, kk _ (by simp) _ g2, ⟨x, y, kk _ (by simp) _ g3⟩, g4.at fun o z => kk n (by simp) o z, g5.at fun o z => kk (n + 1) (by simp) o z⟩
  item := by
    intro X hP hw hK hc i pins s σ H E I hf st hg
    subst hP hw hK
    obtain ⟨xs, ys, x, y, hq, hr, hx, hy⟩ := hg
    obtain ⟨its, rv, p, hz⟩ := I.list hq
    obtain ⟨its2, rv2, p2, hz2⟩ := I.list hr
    obtain ⟨u, hu, ru⟩ := rv.get hx
    obtain ⟨v, hv, rv'⟩ := rv2.get hy
    obtain ⟨g1, g2, ⟨c1, c2, g3⟩, g4, g5⟩ := st
    have hl : s.heap.IsList a its.toArray := p.isList
    have hl2 : s.heap.IsList b its2.toArray := p2.isList
    have D := zip_apart g1 g3 g4 g5 hl hl2
    have W := WalksT.zip2 (prog := X.prog) (w := X.w) (A := X.A) (I.ok.hd hc) _ _ _ _ _ a b D its.toArray its2.toArray
    have i1 : i < its.toArray.size := by have := (List.getElem?_eq_some_iff.mp hu).1; simpa using this
    have i2 : i < its2.toArray.size := by have := (List.getElem?_eq_some_iff.mp hv).1; simpa using this
    refine W.item i s _ _ (by omega) ⟨g1, g2, ⟨c1, c2, g3⟩, g4, g5, hl, hl2⟩ fun T vals h' tk hP hT htup hM kk => ⟨.ref T, rfl, W.go elts k pos i T _ _ _ hM fun h'' st' kk' => ?_⟩
    have hTn : s.heap.get? T = none := Heap.get?_none_of_le hT
    have hHT : H T = none := I.hok.fresh hT
    have nTf : T ∉ [n + 4, n + 3, n, n + 1] := W.apart i T _ hM
    have nT2 : T ≠ n + 2 := fun z => by rw [z, g2] at hTn; cases hTn
    have hf' : ∀ c ∈ [n + 4, n + 3, n, n + 1], FpOk X pins H c := fun c hc => hf c (by simp only [List.mem_cons, List.not_mem_nil, or_false] at hc ⊢; rcases hc with z | z | z | z <;> simp [z])
    have I1 : Inv X pins σ H { s with heap := h'', toks := tk } := I.turneds (ch := [n + 4, n + 3, n, n + 1]) hf' fun b o hb z => kk' b o hb (kk b o hb z)
    obtain ⟨o, ho, hc1, m, hd1⟩ := htup
    have hT2 := kk' T o nTf ho
    obtain ⟨u', v', hu', hv', rfl⟩ := hP
    have e1 : u' = u := by
      have : its.toArray[i]? = some u := by simpa using hu
      rw [this] at hu'
      exact (Option.some.inj hu').symm
    have e2 : v' = v := by
      have : its2.toArray[i]? = some v := by simpa using hv
      rw [this] at hv'
      exact (Option.some.inj hv').symm
    subst e1 e2
    obtain ⟨t1, t2, t3, t4, t5, _⟩ := st'
    refine ⟨.ref T, upd H T (.tup [x, y]), I1.adopt (I.fpNew hTn hHT) ⟨by show 2 ≤ sizeLine; decide, [u', v'], .cons ru (.cons rv' .nil), o, hT2, hc1, m, hd1⟩, rfl,
      ⟨T, x, y, hHT, rfl, rfl, fun zs hy => by rw [I.list_inj hy hq]; exact hx, fun zs hy' => by rw [I.list_inj hy' hr]; exact hy⟩, ⟨t1, t2, t3, t4, t5⟩, fun c hc => ?_⟩
    have : c ≠ T := fun z => by
      subst z
      simp only [List.mem_cons, List.not_mem_nil, or_false] at hc nTf
      rcases hc with z | z | z | z | z
      · exact nTf (.inl z)
      · exact nT2 z
      · exact nTf (.inr (.inl z))
      · exact nTf (.inr (.inr (.inl z)))
      · exact nTf (.inr (.inr (.inr z)))
    rw [upd_ne this]
    exact (hf c hc).1
  done := by
    intro X hP hw hK hc i pins s σ H E I hf st hg
    subst hP hw hK
    obtain ⟨xs, ys, hq, hr, hx⟩ := hg
    obtain ⟨its, rv, p, hz⟩ := I.list hq
    obtain ⟨its2, rv2, p2, hz2⟩ := I.list hr
    obtain ⟨g1, g2, ⟨c1, c2, g3⟩, g4, g5⟩ := st
    have hl : s.heap.IsList a its.toArray := p.isList
    have hl2 : s.heap.IsList b its2.toArray := p2.isList
    have l1 := rv.length
    have l2 := rv2.length
    have hf' : ∀ c ∈ [n + 4, n + 3, n, n + 1], FpOk X pins H c := fun c hc => hf c (by simp only [List.mem_cons, List.not_mem_nil, or_false] at hc ⊢; rcases hc with z | z | z | z <;> simp [z])
    refine wpAny_pyNext_zip_end (I.ok.hd hc) (zip_apart g1 g3 g4 g5 hl hl2) g1 g2 g3 g4 g5 hl hl2 ?_ fun h' kk => ⟨rfl, I.turneds (t' := s.toks) (ch := [n + 4, n + 3, n, n + 1]) hf' fun b o hb z => ?_⟩
    · rcases hx with z | z
      · left; simp; omega
      · right; simp; omega
    · simp only [List.mem_cons, List.not_mem_nil, or_false, not_or] at hb
      exact kk b o hb.1 hb.2.1 hb.2.2.1 hb.2.2.2 z
  self := fun _ _ _ _ _ st h => wpAny_pyIter_zip st.1 h
def iZip (K : PySem.W.Frag) (tl tm : TE) : TI := fun σ H R => tl σ H fun x H1 => tm σ H1 fun y H2 => ∃ a b xs ys, x = .ref a ∧ y = .ref b ∧ H2 a = some (.lst xs) ∧ H2 b = some (.lst ys) ∧ R (Itz K a b) H2
theorem pi_zip {X : Cx} {elts : List Expr} {k : Nat} {tpos p pos : Pos} {l m : Expr} {tl tm : TE} (hg : Gl X "zip") (hm : X.mg "zip" = none) (hl : PE X l tl) (hk : PE X m tm)
    (hs1 : starEach [m] X.env = [(false, eval m X.env)] := by rfl) (hs : starEach [l, m] X.env = [(false, eval l X.env), (false, eval m X.env)] := by rfl) :
    PI X (.Tuple elts k tpos) (.Call (.Name "zip" p) [l, m] [] pos) (iZip X.K tl tm) := by
  intro pins s σ H R I h
  refine wpAny_Call_Name_kw (ld_blt I hg hm PyProof.Rows.boot_zip ?_ (by decide) (by decide))
  refine PyProof.Rows.callWith_type1 ?_ (by rw [hs, hs1]) (by rw [hs1]; rfl)
  have hA := (pa_cons hl (pa_cons hk pa_nil hs1) (by rw [hs, hs1])) pos pins s σ H (fun vs H1 => match vs with | [x, y] => (∃ a b xs ys, x = .ref a ∧ y = .ref b ∧ H1 a = some (.lst xs) ∧ H1 b = some (.lst ys) ∧ R (Itz X.K a b) H1) | _ => False) I h
  refine thn hA fun us s1 ⟨vs, H1, I1, r, q0⟩ => ?_
  match vs, r, q0 with
  | [x, y], r, ⟨a, b, xs, ys, e1, e2, hS, hT, q⟩ =>
    subst e1 e2
    obtain ⟨u, v, rfl, r1, r2⟩ := vals2 r
    cases (show u = Value.ref a from r1)
    cases (show v = Value.ref b from r2)
    obtain ⟨hz, its, n, rv, hob⟩ := (show ObjOk X.prog X.w H1 s1.heap a (.lst xs) from I1.hok a _ hS)
    obtain ⟨hz2, its2, n2, rv2, hob2⟩ := (show ObjOk X.prog X.w H1 s1.heap b (.lst ys) from I1.hok b _ hT)
    refine call_zip_2 (xs := its.toArray) (ys := its2.toArray) ⟨_, hob, rfl, _, rfl⟩ ⟨_, hob2, rfl, _, rfl⟩ fun h' g1 g2 g3 g4 g5 hsz kk => ?_
    refine wpAny_pyIter_zip (s := { s1 with heap := h' }) g1 ?_
    have e0 : ∀ j, s1.heap.get? (s1.heap.objs.size + j) = none := fun j => Heap.get?_none_of_le (Nat.le_add_right _ _)
    refine ⟨s1.heap.objs.size + 4, [s1.heap.objs.size + 4, s1.heap.objs.size + 2, s1.heap.objs.size + 3, s1.heap.objs.size, s1.heap.objs.size + 1], _, _, H1, rfl, I1.kept (t' := s1.toks) kk, turn_zip a b s1.heap.objs.size, ⟨g1, g2, ⟨_, _, g3⟩, g4, g5⟩, fun c hc => ?_, q⟩
    have fr : ∀ j, FpOk X pins H1 (s1.heap.objs.size + j) → True := fun _ _ => trivial
    simp only [List.mem_cons, List.not_mem_nil, or_false] at hc
    rcases hc with z | z | z | z | z
    · subst z; exact I1.fpNew (e0 4) (I1.hok.fresh (Nat.le_add_right _ _))
    · subst z; exact I1.fpNew (e0 2) (I1.hok.fresh (Nat.le_add_right _ _))
    · subst z; exact I1.fpNew (e0 3) (I1.hok.fresh (Nat.le_add_right _ _))
    · subst z; exact I1.fpNew (e0 0) (I1.hok.fresh (Nat.le_refl _))
    · subst z; exact I1.fpNew (e0 1) (I1.hok.fresh (Nat.le_add_right _ _))
theorem for_zip {K : PySem.W.Frag} {a b : Addr} {xs ys : List V} {g : TG} {tb : TS} {D : Ends} {σ : St} {H : Hp} (Pv : Nat → St → Hp → Prop) (h0 : Pv 0 σ H) (hle : xs.length = ys.length) (hl : ∀ i σ H, i ≤ xs.length → Pv i σ H → SqL K H a xs ∧ SqL K H b ys)
    (hs : ∀ i x y σ H t, xs[i]? = some x → ys[i]? = some y → Pv i σ H → H t = none → g (.ref t) σ (upd H t (.tup [x, y])) fun σ2 H2 => tb { D with nx := Pv (i + 1), ct := Pv (i + 1), bk := D.nx } σ2 H2) (hd : ∀ σ H, Pv xs.length σ H → D.nx σ H) :
    ∃ W : Nat → Nat → St → Hp → Prop, (∃ m, W 0 m σ H) ∧ ∀ i m σ H, W i m σ H →
      ((Itz K a b).stop i H ∧ D.nx σ H) ∨ ((Itz K a b).go i H ∧ ∃ N : St → Hp → Prop, (∀ σ' H', N σ' H' → ∃ m', m' < m ∧ W (i + 1) m' σ' H') ∧ ∀ x H', (Itz K a b).yld i H x H' → g x σ H' fun σ2 H2 => tb { D with nx := N, ct := N, bk := D.nx } σ2 H2) := by
  refine ⟨fun i m σ H => m = xs.length - i ∧ i ≤ xs.length ∧ Pv i σ H, ⟨xs.length, by simp, Nat.zero_le _, h0⟩, ?_⟩
  rintro i m σ H ⟨rfl, hi, p⟩
  obtain ⟨q, q'⟩ := hl i σ H hi p
  rcases Nat.lt_or_ge i xs.length with hlt | hge
  · refine .inr ⟨⟨xs, ys, xs[i], ys[i]'(hle ▸ hlt), q, q', by simp [hlt], by simp⟩, Pv (i + 1), fun σ' H' p' => ⟨xs.length - (i + 1), by omega, rfl, hlt, p'⟩, fun x H' y => ?_⟩
    obtain ⟨t, z, z', ht, rfl, rfl, y, y'⟩ := y
    exact hs i z z' σ _ t (y xs q) (y' ys q') p ht
  · obtain rfl : i = xs.length := Nat.le_antisymm hi hge
    exact .inl ⟨⟨xs, ys, q, q', .inl (Nat.le_refl _)⟩, hd σ H p⟩
end L2
namespace FB
open PySem L2 PyProof.Rows
def top (i : Nat) : Stmt := PySem.Challenge.pw_fitboard_k05_lines_looked_through.main.body.getD i (.Pass ⟨0, 0, 0, 0⟩)
abbrev sClashes : Stmt := top 4
abbrev sInit : Stmt := inClass (top 5) 0
abbrev sMeeting : Stmt := inClass (top 5) 1
abbrev sBad : Stmt := top 7
abbrev sBars : Stmt := top 8
abbrev sMarked : Stmt := top 9
abbrev sHasAll : Stmt := top 10
abbrev sFollows : Stmt := top 11
abbrev sTold : Stmt := top 12
abbrev sLeaves : Stmt := top 13
abbrev sWhole : Stmt := top 15
abbrev sAt : Stmt := top 16
abbrev sVer : Stmt := top 17
abbrev sNeed : Stmt := top 18
abbrev sShelf : Stmt := top 19
abbrev sStartBy : Stmt := top 20
abbrev sCopy : Stmt := top 21
abbrev sNeedsIn : Stmt := top 22
abbrev sLMeets : Stmt := top 23
abbrev sNewest : Stmt := top 24
abbrev sHolds : Stmt := top 25
abbrev sAsked : Stmt := top 26
abbrev sLineBy : Stmt := top 27
abbrev sLinesBy : Stmt := top 28
abbrev sStays : Stmt := top 29
abbrev sSpoilt : Stmt := top 30
abbrev sSome : Stmt := top 31
abbrev sMixed : Stmt := top 32
abbrev sLaw : Stmt := top 33
end FB
namespace FB
open PySem L2 PyProof.Rows
seal PSs PS PE PT PA
structure TB (K : PySem.W.Frag) (mg : Str → Option Value) (C : Addr) : Prop where
  cl : Cls K C
  nN : NoAttr K C "needs"
  nV : NoAttr K C "versions"
  mC : mg "Board" = some (.ref C)
  list : mg "list" = none
  sorted : mg "sorted" = none
theorem dec_str_iff {x y : Str} : decide (V.str x = V.str y) = decide (x = y) := by
  by_cases h : x = y
  · rw [decide_eq_true h, decide_eq_true (congrArg V.str h)]
  · rw [decide_eq_false h, decide_eq_false (fun z => h (V.str.inj z))]
def clashB (n : Nd) (k : Str × Int) : Bool := decide (k.1 = n.1) && !(inB n k.2)
def spClashes : Sp := fun vs H Q _ => ∃ (v pk : V) (n : Nd) (k : Str × Int), vs = [v, pk] ∧ NdAt H v n ∧ PkAt H pk k ∧ Q (.bl (clashB n k)) H
def spInit (C CT : Addr) : Sp := fun vs H Q E => ∃ (p dx a st : Addr) (es : List En), vs = [.ref p, .ref a, .ref st] ∧ H p = some (.ins C dx []) ∧ ShAt H a es ∧ (∀ e ∈ es, EnOk e) ∧ es.length < 64 ∧
  ((es.map keyOf).Nodup → ∀ H', Same (del H [p]) H' → BoardAt C H' p st es → Q .non H') ∧ (¬ (es.map keyOf).Nodup → ∀ H', Same (del H [p]) H' → E (.ref CT) none H')
def spMeeting (C : Addr) : Sp := fun vs H Q _ => ∃ (p st : Addr) (es : List En) (v : V) (n : Nd), vs = [.ref p, v] ∧ BoardAt C H p st es ∧ NdAt H v n ∧ es.length < 64 ∧
  ∀ l (ms : List Int) H', Same H H' → H l = none → H' l = some (.lst (ms.map V.int)) → ms.Perm (metOf es n) → ms.Pairwise (· ≥ ·) → Q (.ref l) H'
section
variable {P : Program} {w : World} {K : PySem.W.Frag} {mg : Str → Option Value} {base : Heap} {f : Addr} {fd : FuncData}
theorem scCl : FnScope ["need", "pick"] ["need", "pick"] (defScope sClashes) := ⟨rfl, rfl, rfl, by decide +kernel, rfl, by decide +kernel, by decide +kernel⟩
theorem ok_clashes (F : Fun K "clashes" "clashes" sClashes f fd) : FnOk P w K mg base CX0 1 f fd ["need", "pick"] spClashes := by
  refine F.ok scCl (fun vs H Q E h => ?_) (fun cdv A outer s H vs Q E hr h => ?_)
  · obtain ⟨v, pk, n, k, rfl, _⟩ := h
    rfl
  obtain ⟨v, pk, n, k, rfl, ⟨q0, rfl, hq⟩, ⟨q1, rfl, hp⟩, q⟩ := h
  refine ⟨_, pss_one (ps_ret (pe_and (pe_cmpR op_eq (pe_ix ix_tup (pv 1) pe_int (fun _ _ => rfl)) (pe_ix ix_tup (pv 0) pe_int (fun _ _ => rfl)) (nomark _))
    (pe_one (pe_not (pe_chain op_le op_le (pe_ix ix_tup (pv 0) pe_int (fun _ _ => rfl)) (pe_ix ix_tup (pv 1) pe_int (fun _ _ => rfl)) (pe_ix ix_tup (pv 0) pe_int (fun _ _ => rfl))))))), ?_⟩
  unfold clashB inB at q
  refine ⟨_, rfl, q1, _, _, _, rfl, rfl, SqT.of hp, rfl, _, rfl, q0, _, _, _, rfl, rfl, SqT.of hq, rfl, rfl, _, rfl, ?_⟩
  rw [dec_str_iff]
  refine ite2 (fun c => ?_) (fun c => ?_)
  · rw [c, Bool.true_and] at q
    refine ⟨_, rfl, q0, _, _, _, rfl, rfl, SqT.of hq, rfl, _, rfl, q1, _, _, _, rfl, rfl, SqT.of hp, rfl, _, _, rfl, rfl, _, rfl, ?_⟩
    refine ite2 (fun c => ?_) (fun c => ?_)
    · refine ⟨_, rfl, q0, _, _, _, rfl, rfl, SqT.of hq, rfl, _, _, rfl, rfl, _, rfl, ?_⟩
      rw [c, Bool.true_and] at q
      exact q
    · rw [Bool.eq_false_iff.mpr c, Bool.false_and] at q
      exact ⟨_, rfl, q⟩
  · rw [Bool.eq_false_iff.mpr c, Bool.false_and] at q
    exact q
end
end FB
namespace FB
open PySem L2 PyProof.Rows
seal PSs PS PE PT PA
theorem nodup_take {α : Type} {l : List α} {i : Nat} {x : α} (h : (l.take i).Nodup) (e : l[i]? = some x) : (l.take (i + 1)).Nodup ↔ ¬ x ∈ l.take i := by
  have ht : l.take (i + 1) = l.take i ++ [x] := by rw [List.take_succ, e]; rfl
  rw [ht, List.nodup_append]
  constructor
  · intro z m
    exact z.2.2 x m x (by simp) rfl
  · intro z
    refine ⟨h, by simp, fun a ha b hb e => z ?_⟩
    rw [List.mem_singleton.mp hb] at e
    rw [← e]; exact ha
theorem nodup_of_take {α : Type} {l : List α} (i : Nat) (h : l.Nodup) : (l.take i).Nodup := h.sublist (List.take_sublist _ _)
theorem keys_put {κ : Type} [DecidableEq κ] {kvs : List (κ × V)} {k : κ} {v : V} (h : (valV kvs k).isSome = true) : (putK kvs k v).map (·.1) = kvs.map (·.1) := by
  unfold putK
  rw [valV_any, if_pos h, List.map_map]
  refine List.map_congr_left fun kv _ => ?_
  show (if kv.1 = k then (kv.1, v) else kv).1 = kv.1
  split <;> rfl
theorem ShAt.apart {H : Hp} {p C dx a : Addr} {fs : List (Str × V)} {es : List En} (hp : H p = some (.ins C dx fs)) (h : ShAt H a es) : ShAt (del H [p]) a es := by
  have out : ∀ b o, H b = some o → o ≠ .ins C dx fs → del H [p] b = some o := fun b o e ne => by
    rw [del_out (by simpa using ne_of e hp ne)]
    exact e
  obtain ⟨xs, h1, h2⟩ := h
  refine ⟨xs, out _ _ h1 (by intro z; cases z), Paired.mapP h2 fun v e z => ?_⟩
  obtain ⟨q, na, zs, e1, e2, e3, e4⟩ := z
  refine ⟨q, na, zs, e1, out _ _ e2 (by intro z; cases z), out _ _ e3 (by intro z; cases z), Paired.mapP e4 fun v n z => ?_⟩
  obtain ⟨q, g1, g2⟩ := z
  exact ⟨q, g1, out _ _ g2 (by intro z; cases z)⟩
structure VersR (Hd H : Hp) (vk : List (Key × V)) (es : List En) : Prop where
  at_ : ∀ x : Str, (valV vk (Sum.inr x) = none ∧ versOf es x = []) ∨ ∃ l, valV vk (Sum.inr x) = some (.ref l) ∧ Hd l = none ∧ H l = some (.lst ((versOf es x).map V.int))
  inj : ∀ (x y : Str) (l : Addr), valV vk (Sum.inr x) = some (.ref l) → valV vk (Sum.inr y) = some (.ref l) → x = y
  keys : ∀ kv ∈ vk, ∃ x : Str, kv.1 = Sum.inr x
  len : vk.length ≤ es.length
theorem VersR.same {Hd H H' : Hp} {vk : List (Key × V)} {es : List En} (R : VersR Hd H vk es) (s : Same H H') : VersR Hd H' vk es :=
  ⟨fun x => (R.at_ x).imp id fun ⟨l, h1, h2, h3⟩ => ⟨l, h1, h2, s _ _ h3⟩, R.inj, R.keys, R.len⟩
theorem VersR.dict {Hd H H' : Hp} {vk : List (Key × V)} {es : List En} (R : VersR Hd H vk es) (s : ∀ b xs, H b = some (.lst xs) → H' b = some (.lst xs)) : VersR Hd H' vk es :=
  ⟨fun x => (R.at_ x).imp id fun ⟨l, h1, h2, h3⟩ => ⟨l, h1, h2, s _ _ h3⟩, R.inj, R.keys, R.len⟩
theorem VersR.more {Hd H : Hp} {vk : List (Key × V)} {es : List En} {e : En} {l : Addr} (R : VersR Hd H vk es) (h : valV vk (Sum.inr e.1) = some (.ref l)) :
    Hd l = none ∧ H l = some (.lst ((versOf es e.1).map V.int)) ∧ VersR Hd (upd H l (.lst ((versOf es e.1).map V.int ++ [.int e.2.1]))) vk (es ++ [e]) := by
  have h0 : Hd l = none ∧ H l = some (.lst ((versOf es e.1).map V.int)) := by
    rcases R.at_ e.1 with ⟨z, _⟩ | ⟨l', h1, h2, h3⟩
    · rw [h] at z; cases z
    · rw [h] at h1; cases h1; exact ⟨h2, h3⟩
  refine ⟨h0.1, h0.2, fun x => ?_, R.inj, R.keys, by rw [List.length_append]; exact Nat.le_trans R.len (Nat.le_add_right _ _)⟩
  rw [versOf_snoc]
  by_cases hx : e.1 = x
  · subst hx
    refine .inr ⟨l, h, h0.1, ?_⟩
    rw [upd_same, if_pos rfl, List.map_append]
    rfl
  · rw [if_neg hx]
    rcases R.at_ x with z | ⟨l', h1, h2, h3⟩
    · exact .inl z
    · refine .inr ⟨l', h1, h2, ?_⟩
      rw [upd_ne (fun z => hx (R.inj _ _ l h (by rw [← z]; exact h1)))]
      exact h3
theorem VersR.first {Hd H : Hp} {vk : List (Key × V)} {es : List En} {e : En} {l : Addr} (R : VersR Hd H vk es) (h : valV vk (Sum.inr e.1) = none) (hl : H l = some (.lst [])) (hd : Hd l = none) (nl : ∀ x : Str, valV vk (Sum.inr x) ≠ some (.ref l)) :
    VersR Hd (upd H l (.lst [.int e.2.1])) (putK vk (Sum.inr e.1) (.ref l)) (es ++ [e]) := by
  refine ⟨fun x => ?_, fun x y l' hx hy => ?_, fun kv hkv => ?_, ?_⟩
  · rw [versOf_snoc, valV_put]
    by_cases hx : e.1 = x
    · subst hx
      refine .inr ⟨l, by rw [if_pos rfl], hd, ?_⟩
      have h0 : versOf es e.1 = [] := by
        rcases R.at_ e.1 with ⟨_, z⟩ | ⟨l', h1, _⟩
        · exact z
        · rw [h] at h1; cases h1
      rw [upd_same, if_pos rfl, h0]
      rfl
    · rw [if_neg (fun z => hx (Sum.inr.inj z).symm), if_neg hx]
      rcases R.at_ x with z | ⟨l', h1, h2, h3⟩
      · exact .inl z
      · refine .inr ⟨l', h1, h2, ?_⟩
        rw [upd_ne (fun z => nl x (by rw [← z]; exact h1))]
        exact h3
  · rw [valV_put] at hx hy
    by_cases ex : (Sum.inr x : Key) = Sum.inr e.1
    · by_cases ey : (Sum.inr y : Key) = Sum.inr e.1
      · exact (Sum.inr.inj ex).trans (Sum.inr.inj ey).symm
      · rw [if_pos ex] at hx
        rw [if_neg ey] at hy
        cases hx
        exact absurd hy (nl y)
    · rw [if_neg ex] at hx
      by_cases ey : (Sum.inr y : Key) = Sum.inr e.1
      · rw [if_pos ey] at hy
        cases hy
        exact absurd hx (nl x)
      · rw [if_neg ey] at hy
        exact R.inj x y l' hx hy
  · rw [putK_new _ h] at hkv
    rcases List.mem_append.mp hkv with z | z
    · exact R.keys kv z
    · rw [List.mem_singleton.mp z]; exact ⟨_, rfl⟩
  · rw [putK_new _ h, List.length_append, List.length_append]
    exact Nat.add_le_add_right R.len _
structure InI (C : Addr) (Hd : Hp) (es : List En) (p a st dx dn dv : Addr) (i : Nat) (σ : L2.St) (H2 : Hp) : Prop where
  ex : ∃ nks vk o3 o4 o5, σ = [some (.ref p), some (.ref a), some (.ref st), o3, o4, o5] ∧ H2 p = some (.ins C dx (bflds dn dv)) ∧ H2 dn = some (.dN ((none, .ref st) :: nks)) ∧ Paired (NeKv Hd) nks (es.take i) ∧ H2 dv = some (.dK vk) ∧ VersR Hd H2 vk (es.take i)
  sm : Same Hd H2
  nd : ((es.map keyOf).take i).Nodup
structure InJ (C : Addr) (Hd : Hp) (es : List En) (p a st dx dn dv : Addr) (nks : List (NKey × V)) (ks : List Key) (j : Nat) (σ : L2.St) (H2 : Hp) : Prop where
  ex : ∃ vk o3 o4 o5, σ = [some (.ref p), some (.ref a), some (.ref st), o3, o4, o5] ∧ H2 p = some (.ins C dx (bflds dn dv)) ∧ H2 dn = some (.dN ((none, .ref st) :: nks)) ∧ H2 dv = some (.dK vk) ∧ vk.map (·.1) = ks ∧ VersI H2 vk es fun x => (Sum.inr x : Key) ∈ ks.take j
  sm : Same Hd H2
section
variable {P : Program} {w : World} {K : PySem.W.Frag} {mg : Str → Option Value} {base : Heap} {f : Addr} {fd : FuncData}
theorem scIn : FnScope ["self", "shelf", "start", "part", "version", "needs"] ["self", "shelf", "start"] (defScope sInit) := ⟨rfl, rfl, rfl, by decide +kernel, rfl, by decide +kernel, by decide +kernel⟩
theorem ok_init {C CT : Addr} (F : Fun K "__init__" "Board.__init__" sInit f fd) (T : TB K mg C) (mT : mg "TwiceThere" = some (.ref CT)) (xC : PySem.W.excIn K CT [.type "ValueError", .type "Exception", .type "BaseException", .type "object"] "ValueError.__new__" = true) :
    FnOk P w K mg base (CXE P w) 1 f fd ["self", "shelf", "start"] (spInit C CT) := by
  refine F.okX scIn (fun vs H Q E h => ?_) (fun cdv A outer s H vs Q E hr h => ?_)
  · obtain ⟨p, dx, a, st, es, rfl, _⟩ := h
    rfl
  obtain ⟨p, dx, a, st, es, rfl, hp, hsh, hok, hl, q1, q2⟩ := h
  have hu := hu_of hr
  refine ⟨_, (pss_cons (ps_fld (pv 0) (pe_dispN (pv 2)) rfl)
    (pss_cons (ps_fld (pv 0) pe_dnewK rfl)
    (pss_cons (ps_for (flies_own rfl rfl) rfl (pi_list (pv 1)) (pg_tup rfl (pgs_cons (pg_name (i := 3) scIn.nd rfl (Or.inl rfl)) (pgs_cons (pg_name (i := 4) scIn.nd rfl (Or.inl rfl)) (pgs_cons (pg_name (i := 5) scIn.nd rfl (Or.inl rfl)) pgs_nil))))
      (pss_cons (ps_if (pt_cmp (pc_dinN hu (pe_tup (pa_cons (pv 3) (pa_cons (pv 4) pa_nil))) (pe_fld (pv 0) rfl)))
        (pss_one (ps_raise rfl rfl mT xC PySem.F.excBase_ValueError (pa_cons (pe_f3 (pv 3) (by decide +kernel) (by decide +kernel)) pa_nil))) pss_nil)
      (pss_cons (ps_dputN hu (pe_fld (pv 0) rfl) (pe_tup (pa_cons (pv 3) (pa_cons (pv 4) pa_nil))) (pv 5) rfl)
      (pss_one (ps_expr (pe_bm PySem.F.plainAttrs_list PySem.F.slot_list_append PySem.F.type_list_append mt_append (pe_dsetd (pe_fld (pv 0) rfl) (pv 3) (pe_lst pa_nil) ⟨rfl, rfl, rfl, rfl⟩) (pa_cons (pv 4) pa_nil)))))))
    (pss_one (ps_for (flies_own rfl rfl) rfl (pi_list (pe_callTy (call_listD rfl) rfl T.list boot_list (pa_cons (pe_fld (pv 0) rfl) pa_nil))) (pg_name (i := 3) scIn.nd rfl (Or.inl rfl))
      (pss_one (ps_dput hu (pe_fld (pv 0) rfl) (pv 3) (pe_sortR rfl T.sorted (pe_dget hu (pe_fld (pv 0) rfl) (pv 3) (fun _ _ => rfl))) rfl))))))), ?_⟩
  have hsd := ShAt.apart hp hsh
  generalize hHd : del H [p] = Hd at *
  have sd : Same Hd H := hHd ▸ same_del H [p]
  have hpd : Hd p = none := by rw [← hHd]; exact del_in (by simp)
  obtain ⟨xs, hx, hxp⟩ := hsd
  have lx : xs.length = es.length := Paired.length hxp
  -- self.needs = {None: start}
  refine fun dn hdn => ⟨_, rfl, upd_same, ?_⟩
  have npn : p ≠ dn := ne_of_none hp hdn
  refine ⟨_, rfl, p, C, dx, _, rfl, by rw [upd_ne npn, upd_ne npn]; exact hp, T.cl, T.nN, (by show 0 < 1000; decide), ?_⟩
  rw [upd_upd]
  generalize hH1 : upd (upd H dn (.dN [(none, .ref st)])) p (.ins C dx (putF "needs" (.ref dn) [])) = H1
  have h1p : H1 p = some (.ins C dx (putF "needs" (.ref dn) [])) := by rw [← hH1]; exact upd_same
  have h1n : H1 dn = some (.dN [(none, .ref st)]) := by rw [← hH1, upd_ne (Ne.symm npn)]; exact upd_same
  have s1 : Same Hd H1 := by rw [← hH1]; exact Same.upd (Same.upd sd (sd.free hdn)) hpd
  -- self.versions = {}
  refine fun dv hdv => ⟨_, rfl, p, C, dx, _, rfl, by rw [upd_ne (ne_of_none h1p hdv)]; exact h1p, T.cl, T.nV, (by show 1 < 1000; decide), ?_⟩
  generalize hH2 : upd (upd H1 dv (.dK [])) p (.ins C dx (putF "versions" (.ref dv) (putF "needs" (.ref dn) []))) = H2
  have h2p : H2 p = some (.ins C dx (bflds dn dv)) := by rw [← hH2]; exact upd_same
  have h2n : H2 dn = some (.dN [(none, .ref st)]) := by rw [← hH2, upd_ne (Ne.symm npn), upd_ne (ne_of_none h1n hdv)]; exact h1n
  have h2v : H2 dv = some (.dK []) := by rw [← hH2, upd_ne (Ne.symm (ne_of_none h1p hdv))]; exact upd_same
  have s2 : Same Hd H2 := by rw [← hH2]; exact Same.upd (Same.upd s1 (s1.free hdv)) hpd
  -- for part, version, needs in shelf
  refine ⟨_, rfl, a, rfl, ⟨xs, SqL.of (s2 _ _ hx)⟩, for_list (K := K) (a := a) (xs := xs) (fun i σ H2 => InI C Hd es p a st dx dn dv i σ H2)
    ⟨⟨[], [], none, none, none, rfl, h2p, h2n, .nil, h2v, ⟨fun x => .inl ⟨rfl, rfl⟩, fun x y l z => (nomatch z), fun kv z => (nomatch z), Nat.le_refl _⟩⟩, s2, List.nodup_nil⟩ (fun i σ H2 _ I => SqL.of (I.sm _ _ hx)) ?_ ?_⟩
  · rintro i x σ H3 hi ⟨⟨nks, vk, o3, o4, o5, rfl, h3p, h3n, hnk, h3v, R⟩, s3, hnd⟩
    obtain ⟨e, he, q0, na, zs, rfl, e1, e2, e3⟩ := Paired.getR hxp hi
    have g1 := s3 _ _ e1
    have hil : i < es.length := (List.getElem?_eq_some_iff.mp he).1
    have ht : es.take (i + 1) = es.take i ++ [e] := by rw [List.take_succ, he]; rfl
    have hek : (es.map keyOf)[i]? = some (keyOf e) := by rw [List.getElem?_map, he]; rfl
    have hnt := nodup_take hnd hek
    have lk : nks.length = i := by rw [Paired.length hnk, List.length_take]; omega
    have lv := R.len
    rw [List.length_take] at lv
    refine ⟨q0, _, rfl, SqT.of g1, rfl, _, _, rfl, _, _, rfl, _, _, rfl, rfl, ?_⟩
    -- (part, version) in self.needs
    refine ⟨_, rfl, _, rfl, (by show 2 ≤ sizeLine; decide), fun kt hkt => ?_⟩
    have s4 := same_new hkt (.tup [.str e.1, .int e.2.1])
    refine ⟨_, rfl, p, C, dx, _, _, rfl, s4 _ _ h3p, T.cl, T.nN, bflds_needs _ _, dn, _, rfl, DGetN.of (k := some (dkey (keyOf e))) (s4 _ _ h3n) ⟨kt, rfl, upd_same⟩, _, rfl, ?_⟩
    rw [valV_neg (by intro z; cases z)]
    rcases val_nks hnk (keyOf e) with ⟨hno, hv⟩ | ⟨e', he', hk', na', zs', hv, _⟩
    · rw [hv]
      refine iteF ?_
      -- self.needs[part, version] = needs
      refine ⟨_, rfl, _, rfl, p, C, dx, _, _, rfl, s4 _ _ h3p, T.cl, T.nN, bflds_needs _ _, _, rfl, _, rfl, (by show 2 ≤ sizeLine; decide), fun kt2 hkt2 => ?_⟩
      have s5 := s4.trans (same_new hkt2 (.tup [.str e.1, .int e.2.1]))
      have hv2 : valV ((none, V.ref st) :: nks) (some (dkey (keyOf e))) = none := by rw [valV_neg (by intro z; cases z)]; exact hv
      refine ⟨dn, _, rfl, DPutN.of (k := some (dkey (keyOf e))) (s5 _ _ h3n) ⟨kt2, rfl, upd_same⟩ (small1000 (by rw [List.length_cons]; omega)), ?_⟩
      rw [putK_new _ hv2]
      generalize hH5 : upd (upd (upd H3 kt (.tup [.str e.1, .int e.2.1])) kt2 (.tup [.str e.1, .int e.2.1])) dn (.dN (((none, V.ref st) :: nks) ++ [(some (dkey (keyOf e)), .ref na)])) = H5
      have npn3 : p ≠ dn := npn
      have h5p : H5 p = some (.ins C dx (bflds dn dv)) := by rw [← hH5, upd_ne npn]; exact s5 _ _ h3p
      have h5n : H5 dn = some (.dN ((none, V.ref st) :: (nks ++ [(some (dkey (keyOf e)), .ref na)]))) := by rw [← hH5]; exact upd_same
      have h5v : H5 dv = some (.dK vk) := by rw [← hH5, upd_ne (ne_of h3v h3n (by intro z; cases z))]; exact s5 _ _ h3v
      have hdn3 : Hd dn = none := by
        cases z : Hd dn with
        | none => rfl
        | some o =>
          have := s2 _ _ z
          rw [h2n] at this
          cases this
          have := sd _ _ z
          rw [hdn] at this; cases this
      have s6 : Same Hd H5 := by rw [← hH5]; exact Same.upd (s3.trans s5) hdn3
      have hlst : ∀ b ys, H3 b = some (.lst ys) → H5 b = some (.lst ys) := fun b ys z => by
        rw [← hH5, upd_ne (ne_of z h3n (by intro y; cases y))]
        exact s5 _ _ z
      have R5 : VersR Hd H5 vk (es.take i) := R.dict hlst
      have hnk5 : Paired (NeKv Hd) (nks ++ [(some (dkey (keyOf e)), V.ref na)]) (es.take (i + 1)) := by
        rw [ht]
        exact Paired.snoc hnk ⟨rfl, na, zs, rfl, e2, e3⟩
      have hno' : ¬ keyOf e ∈ (es.map keyOf).take i := by rw [← List.map_take]; exact hno
      have hnd' := hnt.mpr hno'
      -- self.versions.setdefault(part, []).append(version)
      refine ⟨_, rfl, p, C, dx, _, _, rfl, h5p, T.cl, T.nV, bflds_vers _ _, dv, rfl, .inl ⟨_, .inl h5v⟩, _, rfl, (by show 0 ≤ sizeLine; decide), fun l0 hl0 => ?_⟩
      have s7 := same_new hl0 (.lst [])
      refine ⟨vk, Sum.inr e.1, s7 _ _ h5v, rfl, small1000 (by omega), fun v hvv => ?_, fun hvv => ?_⟩
      · obtain ⟨l, rfl⟩ : ∃ l, v = .ref l := by
          rcases R.at_ e.1 with ⟨z, _⟩ | ⟨l, z, _⟩
          · rw [hvv] at z; cases z
          · rw [hvv] at z; cases z; exact ⟨l, rfl⟩
        obtain ⟨hdl, h7l, R8⟩ := (R5.same s7).more hvv
        refine ⟨.inl ⟨rfl, _, SqL.of h7l⟩, _, rfl, l, _, _, rfl, rfl, h7l, ?_, ?_⟩
        · rw [List.length_map]
          have := versOf_length (es.take i) e.1
          rw [List.length_take] at this
          exact small1000 (by omega)
        · have npl : p ≠ l := ne_of (s7 _ _ h5p) h7l (by intro z; cases z)
          have nnl : dn ≠ l := ne_of (s7 _ _ h5n) h7l (by intro z; cases z)
          have nvl : dv ≠ l := ne_of (s7 _ _ h5v) h7l (by intro z; cases z)
          refine ⟨⟨_, vk, _, _, _, rfl, by rw [upd_ne npl]; exact s7 _ _ h5p, by rw [upd_ne nnl]; exact s7 _ _ h5n, hnk5, by rw [upd_ne nvl]; exact s7 _ _ h5v, by rw [ht]; exact R8⟩, Same.upd (s6.trans s7) hdl, hnd'⟩
      · have nvl : dv ≠ l0 := ne_of_none h5v hl0
        have npl : p ≠ l0 := ne_of_none h5p hl0
        have nnl : dn ≠ l0 := ne_of_none h5n hl0
        have npv : p ≠ dv := ne_of h5p h5v (by intro z; cases z)
        have nnv : dn ≠ dv := ne_of h5n h5v (by intro z; cases z)
        have hl8 : upd (upd H5 l0 (.lst [])) dv (.dK (putK vk (Sum.inr e.1) (.ref l0))) l0 = some (.lst []) := by rw [upd_ne (Ne.symm nvl)]; exact upd_same
        refine ⟨.inl ⟨rfl, _, SqL.of hl8⟩, _, rfl, l0, _, _, rfl, rfl, hl8, (by show 0 < sizeLine; decide), ?_⟩
        have hdv3 : Hd dv = none := by
          cases z : Hd dv with
          | none => rfl
          | some o =>
            have := s1 _ _ z
            rw [hdv] at this; cases this
        have R8 : VersR Hd (upd (upd H5 l0 (.lst [])) dv (.dK (putK vk (Sum.inr e.1) (.ref l0)))) vk (es.take i) := (R5.same s7).dict fun b ys z => by
          rw [upd_ne (ne_of z (s7 _ _ h5v) (by intro y; cases y))]
          exact z
        have R9 := R8.first (l := l0) hvv hl8 (s6.free hl0) (fun x z => by
          rcases R5.at_ x with ⟨y, _⟩ | ⟨l', y, _, y2⟩
          · rw [z] at y; cases y
          · rw [z] at y; cases y; rw [hl0] at y2; cases y2)
        refine ⟨⟨_, _, _, _, _, rfl, by rw [upd_ne npl, upd_ne npv]; exact s7 _ _ h5p, by rw [upd_ne nnl, upd_ne nnv]; exact s7 _ _ h5n, hnk5, by rw [upd_ne nvl]; exact upd_same, by rw [ht]; exact R9⟩, Same.upd (Same.upd (s6.trans s7) hdv3) (s6.free hl0), hnd'⟩
    · rw [hv]
      refine iteT ?_
      refine ⟨_, rfl, _, rfl, (hok e (List.mem_of_getElem? he)).pt.sh, (by show 1 ≤ sizeLine; decide), fun pins => ?_⟩
      refine q2 (fun z => ?_) _ (s3.trans s4)
      refine hnt.mp (nodup_of_take (i + 1) z) ?_
      rw [← List.map_take, ← hk']
      exact List.mem_map_of_mem he'
  · rintro σ H3 ⟨⟨nks, vk, o3, o4, o5, rfl, h3p, h3n, hnk, h3v, R⟩, s3, hnd⟩
    rw [lx] at hnk hnd R
    rw [List.take_length] at hnk R
    rw [List.take_of_length_le (by rw [List.length_map]; exact Nat.le_refl _)] at hnd
    have lv := R.len
    -- for part in list(self.versions)
    refine ⟨_, rfl, p, C, dx, _, _, rfl, h3p, T.cl, T.nV, bflds_vers _ _, dv, vk, rfl, h3v, fun la hla => ?_⟩
    have s4 := same_new hla (.lst (vk.map fun kv => kV kv.1))
    have hdv3 : Hd dv = none := by
      cases z : Hd dv with
      | none => rfl
      | some o =>
        have := s1 _ _ z
        rw [hdv] at this; cases this
    refine ⟨la, rfl, ⟨_, SqL.of upd_same⟩, for_list (K := K) (a := la) (xs := vk.map fun kv => kV kv.1) (fun j σ H5 => InJ C Hd es p a st dx dn dv nks (vk.map (·.1)) j σ H5 ∧ H5 la = some (.lst (vk.map fun kv => kV kv.1)))
      ⟨⟨⟨vk, _, _, _, rfl, s4 _ _ h3p, s4 _ _ h3n, s4 _ _ h3v, rfl, fun x => ?_⟩, s3.trans s4⟩, upd_same⟩ (fun j σ H5 _ I => SqL.of I.2) ?_ ?_⟩
    · rcases R.at_ x with z | ⟨l, h1, _, h2⟩
      · exact .inl z
      · exact .inr ⟨l, _, h1, s4 _ _ h2, List.Perm.refl _, fun z => by simp at z⟩
    · rintro j x σ H5 hj ⟨⟨⟨vk', o3', o4', o5', rfl, h5p, h5n, h5v, hks, V5⟩, s5⟩, h5a⟩
      rw [List.getElem?_map] at hj
      obtain ⟨kv, hkv, rfl⟩ := Option.map_eq_some_iff.mp hj
      obtain ⟨y, hy⟩ := R.keys kv (List.mem_of_getElem? hkv)
      have hkj : (vk.map (·.1))[j]? = some (Sum.inr y) := by rw [List.getElem?_map, hkv]; exact congrArg some hy
      have htk : (vk.map (·.1)).take (j + 1) = (vk.map (·.1)).take j ++ [Sum.inr y] := by rw [List.take_succ, hkj]; rfl
      have hin : (valV vk' (Sum.inr y : Key)).isSome = true := by
        rw [← valV_any, List.any_eq_true]
        have : (Sum.inr y : Key) ∈ vk'.map (·.1) := by rw [hks]; exact List.mem_of_getElem? hkj
        obtain ⟨kv', h1, h2⟩ := List.mem_map.mp this
        exact ⟨kv', h1, decide_eq_true h2⟩
      rcases V5 y with ⟨z, _⟩ | ⟨l, ms, h1, h2, h3, _⟩
      · rw [z] at hin; cases hin
      have lm : ms.length < 64 := by
        rw [h3.length_eq]
        exact Nat.lt_of_le_of_lt (versOf_length _ _) hl
      rw [hy]
      refine ⟨_, rfl, p, C, dx, _, _, rfl, h5p, T.cl, T.nV, bflds_vers _ _, _, rfl, dv, _, rfl, DGet.k (k := Sum.inr y) h5v |> (h1 ▸ ·), l, ms, rfl, SqL.of h2, lm, fun l2 ms' hl2 hpm hpw => ?_⟩
      have s6 := same_new hl2 (.lst (List.map V.int ms'))
      refine ⟨_, rfl, p, C, dx, _, _, rfl, s6 _ _ h5p, T.cl, T.nV, bflds_vers _ _, _, rfl, dv, _, rfl, DPut.k (k := Sum.inr y) (s6 _ _ h5v) (small1000 ?_), ?_⟩
      · have := congrArg List.length hks
        rw [List.length_map, List.length_map] at this
        omega
      · have npv : p ≠ dv := ne_of h5p h5v (by intro z; cases z)
        have nnv : dn ≠ dv := ne_of h5n h5v (by intro z; cases z)
        have nav : la ≠ dv := ne_of h5a h5v (by intro z; cases z)
        refine ⟨⟨⟨_, _, _, _, rfl, by rw [upd_ne npv]; exact s6 _ _ h5p, by rw [upd_ne nnv]; exact s6 _ _ h5n, upd_same, by rw [keys_put hin]; exact hks, fun x => ?_⟩, Same.upd (s5.trans s6) hdv3⟩, by rw [upd_ne nav]; exact s6 _ _ h5a⟩
        rw [valV_put]
        by_cases hxy : x = y
        · subst hxy
          refine .inr ⟨l2, ms', by rw [if_pos rfl], ?_, hpm.trans h3, fun _ => hpw⟩
          rw [upd_ne (Ne.symm (ne_of_none h5v hl2))]
          exact upd_same
        · rw [if_neg (fun z => hxy (Sum.inr.inj z))]
          rcases V5 x with z | ⟨l', ms2, g1, g2, g3, g4⟩
          · exact .inl z
          · refine .inr ⟨l', ms2, g1, ?_, g3, fun z => g4 ?_⟩
            · rw [upd_ne (ne_of g2 h5v (by intro z; cases z))]
              exact s6 _ _ g2
            · rw [htk] at z
              rcases List.mem_append.mp z with z | z
              · exact z
              · exact absurd (Sum.inr.inj (List.mem_singleton.mp z)) hxy
    · rintro σ H5 ⟨⟨⟨vk', o3', o4', o5', rfl, h5p, h5n, h5v, hks, V5⟩, s5⟩, h5a⟩
      refine q1 hnd H5 s5 ⟨dx, dn, dv, nks, vk', h5p, h5n, Paired.mapP hnk fun _ _ z => NeKv.same s5 z, h5v, fun x => ?_⟩
      rcases V5 x with z | ⟨l, ms, g1, g2, g3, g4⟩
      · exact .inl z
      · refine .inr ⟨l, ms, g1, g2, g3, fun _ => g4 ?_⟩
        rw [List.take_of_length_le (by rw [List.length_map, List.length_map]; exact Nat.le_refl _), ← hks]
        exact valV_in g1
end
end FB
namespace FB
open PySem L2 PyProof.Rows
seal PSs PS PE PT PA
theorem nd_mt : (["version", "part", "need"] : List Str).Nodup := by decide +kernel
section
variable {P : Program} {w : World} {K : PySem.W.Frag} {mg : Str → Option Value} {base : Heap} {f : Addr} {fd : FuncData}
theorem scMt : FnScope ["self", "need", "part"] ["self", "need"] (defScope sMeeting) := ⟨rfl, rfl, rfl, by decide +kernel, rfl, by decide +kernel, by decide +kernel⟩
theorem ok_meeting {C g : Addr} {gd : FuncData} (F : Fun K "meeting" "Board.meeting" sMeeting f fd) (T : TB K mg C) (G : FnOk P w K mg base CX0 1 g gd ["need", "pick"] spClashes) (bG : Binds K gd ["need", "pick"] []) (kG : PySem.W.keepIn K (.ref g) = true) (mG : mg "clashes" = some (.ref g)) :
    FnOk P w K mg base CX0 2 f fd ["self", "need"] (spMeeting C) := by
  refine F.ok scMt (fun vs H Q E h => ?_) (fun cdv A outer s H vs Q E hr h => ?_)
  · obtain ⟨p, st, es, v, n, rfl, _⟩ := h
    rfl
  obtain ⟨p, st, es, v, n, rfl, ⟨dx, dn, dv, nks, vk, hp, hn, hk, hv, hV⟩, ⟨nq, rfl, hnq⟩, hl, q⟩ := h
  have hu := hu_of hr
  refine ⟨_, (pss_cons (ps_set (i := 2) scMt.nd rfl (Or.inr rfl) (pe_ix ix_tup (pv 1) pe_int (fun _ _ => rfl)))
    (pss_one (ps_ret (pe_comp (N' := ["version", "part", "need"]) (n := 1) (js := [2, 1]) rfl
      (CompS.two (c := s.heap.objs.size + 2) (c' := s.heap.objs.size + 1) (y := "part") (y' := "need") rfl rfl rfl (by decide +kernel) (by decide +kernel) rfl (by decide +kernel) (by decide +kernel) rfl rfl rfl rfl rfl rfl rfl rfl rfl) (gk_name (by decide))
      (pi_list (pe_dget2 hu (pe_fld (pv 0) rfl) (pv 2) (pe_lst pa_nil) ⟨rfl, rfl, rfl, rfl⟩))
      (fun C s2 H2 fp => pg_name (i := 0) nd_mt rfl (Or.inl rfl))
      (fun C s2 H2 fp => pts_one (pt_not (pt_val (pe_call G hr rfl mG kG bG .nil pass0 (pa_cons (pv 2) (pa_cons (pe_tup (pa_cons (pv 1) (pa_cons (pv 0) pa_nil))) pa_nil))))))
      (fun C s2 H2 fp => pv 0))))), ?_⟩
  refine ⟨_, rfl, nq, _, _, _, rfl, rfl, SqT.of hnq, rfl, ?_⟩
  refine ⟨_, rfl, p, C, dx, _, _, rfl, hp, T.cl, T.nV, bflds_vers _ _, dv, rfl, .inl ⟨_, .inl hv⟩, _, rfl, (by show 0 ≤ sizeLine; decide), fun l0 hl0 => ?_⟩
  have s1 := same_new hl0 (.lst [])
  -- the list that is walked
  have turn : ∀ (l : Addr) (ms : List Int), upd H l0 (.lst []) l = some (.lst (ms.map V.int)) → ms.Perm (versOf es n.1) → ms.Pairwise (· ≥ ·) → CompR (Itl K l) (gName 0)
      (tNot (tB (tCall spClashes [] E0 (tCons (tVar 2) (tCons (tTup (tCons (tVar 1) (tCons (tVar 0) tNil))) tNil))))) (tVar 0) (frees 1 [2, 1] [some (.ref p), some (.ref nq), some (.str n.1)]) (upd H l0 (.lst [])) Q := by
    intro l ms h1 h2 h3
    have lm : ms.length < 64 := by
      rw [h2.length_eq]
      exact Nat.lt_of_le_of_lt (versOf_length _ _) hl
    refine comp_list (xs := ms.map V.int) (fun D i ys H2 => ys = ((ms.take i).filter (inB n)).map V.int ∧ H2 D = some (.lst ys) ∧ Same (upd H l0 (.lst [])) H2 ∧ upd H l0 (.lst []) D = none) (fun D hD => ⟨by simp, upd_same, same_new hD _, hD⟩)
      (fun D i ys H2 hi ⟨e1, e2, e3, _⟩ => ⟨SqL.of (e3 _ _ h1), e2, ?_⟩) (fun D i x ys H2 hi ⟨e1, e2, e3, e4⟩ => ?_) (fun D ys H2 ⟨e1, e2, e3, e4⟩ => ?_)
    · rw [e1, List.length_map]
      have := List.length_filter_le (inB n) (ms.take i)
      rw [List.length_take] at this
      exact small1000 (by omega)
    · rw [List.getElem?_map] at hi
      obtain ⟨z, hz, rfl⟩ := Option.map_eq_some_iff.mp hi
      have ht : ms.take (i + 1) = ms.take i ++ [z] := by rw [List.take_succ, hz]; rfl
      have hf : (ms.take (i + 1)).filter (inB n) = (ms.take i).filter (inB n) ++ (if inB n z = true then [z] else []) := by
        rw [ht, List.filter_append, List.filter_cons]
        rfl
      unfold gName
      refine ⟨_, rfl, _, rfl, _, rfl, (by show 2 ≤ sizeLine; decide), fun t ht2 => ?_⟩
      have s3 := same_new ht2 (.tup [.str n.1, .int z])
      refine ⟨.ref nq, .ref t, n, (n.1, z), rfl, ⟨nq, rfl, s3 _ _ (e3 _ _ (s1 _ _ hnq))⟩, ⟨t, rfl, upd_same⟩, _, rfl, ?_⟩
      have hcl : clashB n (n.1, z) = !(inB n z) := by unfold clashB; simp
      rw [hcl]
      dsimp only
      rw [Bool.not_not]
      have nD : D ≠ t := ne_of_none e2 ht2
      by_cases hb : inB n z = true
      · rw [if_pos hb] at hf
        rw [if_pos hb]
        refine ⟨_, rfl, s3 _ _ e2, ?_, upd_same, Same.upd (e3.trans s3) e4, e4⟩
        rw [hf, e1, List.map_append]
        rfl
      · rw [if_neg hb, List.append_nil] at hf
        rw [if_neg hb]
        exact ⟨by rw [hf]; exact e1, s3 _ _ e2, e3.trans s3, e4⟩
    · rw [List.length_map, List.take_length] at e1
      subst e1
      exact q D _ H2 (s1.trans e3) (s1.free e4) e2 (perm_met h2) (h3.filter _)
  rcases hV n.1 with ⟨z1, z2⟩ | ⟨l, ms, h1, h2, h3, h4⟩
  · refine ⟨none, DGet.k (k := Sum.inr n.1) (s1 _ _ hv) |> (z1 ▸ ·), l0, rfl, ⟨_, SqL.of upd_same⟩, turn l0 [] upd_same (by rw [z2]) .nil⟩
  · refine ⟨some (.ref l), DGet.k (k := Sum.inr n.1) (s1 _ _ hv) |> (h1 ▸ ·), l, rfl, ⟨_, SqL.of (s1 _ _ h2)⟩, turn l ms (s1 _ _ h2) h3 (h4 trivial)⟩
end
end FB
namespace FB
open PySem L2 PyProof.Rows
inductive Told where
  | one (k : Pk)
  | many (bs : List Int)
structure Rs where
  who : Option Pk
  place : Int
  told : Told
abbrev Ln := List Pk × Rs
def wordOf : Told → Str
  | .one _ => "outside"
  | .many _ => "open"
def WhoAt (H : Hp) (v : V) : Option Pk → Prop
  | none => v = .non
  | some k => PkAt H v k
def ToldAt (H : Hp) (v : V) : Told → Prop
  | .one k => PkAt H v k
  | .many bs => ∃ a, v = .ref a ∧ H a = some (.lst (bs.map V.int))
def RsAt (H : Hp) (v : V) (r : Rs) : Prop := ∃ q wv tv, v = .ref q ∧ H q = some (.tup [.str (wordOf r.told), wv, .int r.place, tv]) ∧ WhoAt H wv r.who ∧ ToldAt H tv r.told
def LnAt (H : Hp) (v : V) (l : Ln) : Prop := ∃ q a rv, v = .ref q ∧ H q = some (.tup [.ref a, rv]) ∧ PksAt H a l.1 ∧ RsAt H rv l.2
def LnsAt (H : Hp) (a : Addr) (ls : List Ln) : Prop := ∃ xs, H a = some (.lst xs) ∧ Paired (LnAt H) xs ls
theorem WhoAt.same {H H' : Hp} (e : Same H H') {v : V} : ∀ {o : Option Pk}, WhoAt H v o → WhoAt H' v o
  | none, h => h
  | some _, h => PkAt.same e h
theorem ToldAt.same {H H' : Hp} (e : Same H H') {v : V} : ∀ {t : Told}, ToldAt H v t → ToldAt H' v t
  | .one _, h => PkAt.same e h
  | .many _, ⟨a, h1, h2⟩ => ⟨a, h1, e _ _ h2⟩
theorem RsAt.same {H H' : Hp} (e : Same H H') {v : V} {r : Rs} (h : RsAt H v r) : RsAt H' v r :=
  let ⟨q, wv, tv, h1, h2, h3, h4⟩ := h; ⟨q, wv, tv, h1, e _ _ h2, h3.same e, h4.same e⟩
theorem LnAt.same {H H' : Hp} (e : Same H H') {v : V} {l : Ln} (h : LnAt H v l) : LnAt H' v l :=
  let ⟨q, a, rv, h1, h2, h3, h4⟩ := h; ⟨q, a, rv, h1, e _ _ h2, h3.same e, h4.same e⟩
theorem LnsAt.same {H H' : Hp} (e : Same H H') {a : Addr} {ls : List Ln} (h : LnsAt H a ls) : LnsAt H' a ls :=
  let ⟨xs, h1, h2⟩ := h; ⟨xs, e _ _ h1, Paired.mapP h2 fun _ _ z => LnAt.same e z⟩
def whoD : Option Pk → PyData
  | none => .none
  | some k => pkD k
def toldD : Told → PyData
  | .one k => pkD k
  | .many bs => .list (bs.map PyData.int)
def rsD (r : Rs) : PyData := .tuple [.str (wordOf r.told), whoD r.who, .int r.place, toldD r.told]
def lnD (l : Ln) : PyData := .tuple [.list (l.1.map pkD), rsD l.2]
theorem PksAt.rep {H : Hp} {a : Addr} {ps : List Pk} (h : PksAt H a ps) : Rep H (.ref a) (.list (ps.map pkD)) :=
  let ⟨_, h1, h2⟩ := h; .lst h1 (reps_of (fun _ _ z => PkAt.rep z) h2)
theorem NdsAt.rep {H : Hp} {a : Addr} {ps : List Nd} (h : NdsAt H a ps) : Rep H (.ref a) (.list (ps.map ndD)) :=
  let ⟨_, h1, h2⟩ := h; .lst h1 (reps_of (fun _ _ z => NdAt.rep z) h2)
theorem WhoAt.rep {H : Hp} {v : V} : ∀ {o : Option Pk}, WhoAt H v o → Rep H v (whoD o)
  | none, h => by cases (show v = .non from h); exact .non
  | some _, h => PkAt.rep h
theorem ToldAt.rep {H : Hp} {v : V} : ∀ {t : Told}, ToldAt H v t → Rep H v (toldD t)
  | .one _, h => PkAt.rep h
  | .many _, ⟨a, h1, h2⟩ => by subst h1; exact .lst h2 (ints_reps H _)
theorem RsAt.rep {H : Hp} {v : V} {r : Rs} (h : RsAt H v r) : Rep H v (rsD r) := by
  obtain ⟨q, wv, tv, rfl, h2, h3, h4⟩ := h
  exact .tup h2 (.cons (.str _) (.cons h3.rep (.cons (.int _) (.cons h4.rep .nil))))
theorem LnAt.rep {H : Hp} {v : V} {l : Ln} (h : LnAt H v l) : Rep H v (lnD l) := by
  obtain ⟨q, a, rv, rfl, h2, h3, h4⟩ := h
  exact .tup h2 (.cons h3.rep (.cons h4.rep .nil))
theorem LnsAt.rep {H : Hp} {a : Addr} {ls : List Ln} (h : LnsAt H a ls) : Rep H (.ref a) (.list (ls.map lnD)) :=
  let ⟨_, h1, h2⟩ := h; .lst h1 (reps_of (fun _ _ z => LnAt.rep z) h2)
structure LnOk (l : Ln) : Prop where
  len : l.1.length ≤ 20000
  pk : ∀ p ∈ l.1, PartOk p.1
  who : ∀ k, l.2.who = some k → PartOk k.1
  one : ∀ k, l.2.told = .one k → PartOk k.1
  many : ∀ bs, l.2.told = .many bs → bs.length ≤ 100
theorem pk_ok {k : Pk} (h : PartOk k.1) : okD 1 (pkD k) = true := by simp [pkD, okD, h.ok]
theorem ints_ok (k : Nat) (bs : List Int) : okD (k + 1) (.list (bs.map PyData.int)) = true := by
  rw [okD, List.all_eq_true]
  intro d hd
  obtain ⟨b, hb, rfl⟩ := List.mem_map.mp hd
  cases k <;> rfl
theorem ln_ok {l : Ln} (h : LnOk l) : okD 4 (lnD l) = true := by
  obtain ⟨ps, ⟨who, place, told⟩⟩ := l
  have h1 : okD 3 (.list (ps.map pkD)) = true := by
    rw [okD, List.all_eq_true]
    intro d hd
    obtain ⟨k, hk, rfl⟩ := List.mem_map.mp hd
    exact okD_mono 1 _ 2 (by decide) (pk_ok (h.pk k hk))
  have h2 : okD 2 (whoD who) = true := by
    cases who with
    | none => rfl
    | some k => exact okD_mono 1 _ 2 (by decide) (pk_ok (h.who k rfl))
  have h3 : okD 2 (toldD told) = true ∧ PyData.strOk (wordOf told) = true := by
    cases told with
    | one k => exact ⟨okD_mono 1 _ 2 (by decide) (pk_ok (h.one k rfl)), by show PyData.strOk "outside" = true; decide +kernel⟩
    | many bs => exact ⟨ints_ok 1 bs, by show PyData.strOk "open" = true; decide +kernel⟩
  have h4 : okD 3 (rsD ⟨who, place, told⟩) = true := by
    rw [rsD, okD]
    simp only [List.all_cons, List.all_nil, Bool.and_true, Bool.and_eq_true]
    refine ⟨?_, h2, rfl, h3.1⟩
    rw [okD]; exact h3.2
  rw [lnD, okD]
  simp only [List.all_cons, List.all_nil, Bool.and_true, Bool.and_eq_true]
  exact ⟨h1, h4⟩
theorem wgt_ints (bs : List Int) : wgts (bs.map PyData.int) ≤ bs.length * 1 := wgts_map PyData.int 1 bs fun _ _ => by simp [wgt]
theorem wgt_ln {l : Ln} (h : LnOk l) : wgt (lnD l) ≤ 61000 := by
  obtain ⟨ps, ⟨who, place, told⟩⟩ := l
  have h1 := wgts_map pkD 3 ps fun k _ => by simp [pkD, wgt, wgts]
  have hl : ps.length ≤ 20000 := h.len
  have h2 : wgt (whoD who) ≤ 3 := by cases who <;> simp [whoD, pkD, wgt, wgts]
  have h3 : wgt (toldD told) ≤ 101 := by
    cases told with
    | one k => simp [toldD, pkD, wgt, wgts]
    | many bs =>
      have := wgt_ints bs
      have := h.many bs rfl
      simp only [toldD, wgt]
      omega
  simp only [lnD, rsD, wgt, wgts]
  omega
theorem lns_ok {ls : List Ln} (h : ∀ l ∈ ls, LnOk l) : okD 10 (.list (ls.map lnD)) = true := by
  rw [okD, List.all_eq_true]
  intro d hd
  obtain ⟨l, hl, rfl⟩ := List.mem_map.mp hd
  exact okD_mono 4 _ 9 (by decide) (ln_ok (h l hl))
theorem lns_wgt {ls : List Ln} (h : ∀ l ∈ ls, LnOk l) (h2 : ls.length ≤ 63) : wgt (.list (ls.map lnD)) ≤ 10000000 := by
  have := wgts_map lnD 61000 ls fun l hl => wgt_ln (h l hl)
  simp only [wgt]
  omega
def nthZ {α : Type} (xs : List α) (i : Int) : Option α := if 0 ≤ i then xs[i.toNat]? else none
theorem nthZ_at {α : Type} {xs : List α} {i : Int} {x : α} (h : nthZ xs i = some x) : atI xs i = some x := by
  unfold nthZ at h
  by_cases h0 : 0 ≤ i
  · rw [if_pos h0] at h
    have := atI_nat h
    rwa [Int.toNat_of_nonneg h0] at this
  · rw [if_neg h0] at h; cases h
theorem nthZ_none {α : Type} {xs : List α} {i : Int} : nthZ xs i = none ↔ (i < 0 ∨ (xs.length : Int) ≤ i) := by
  unfold nthZ
  by_cases h0 : 0 ≤ i
  · rw [if_pos h0, List.getElem?_eq_none_iff]; omega
  · rw [if_neg h0]; exact ⟨fun _ => .inl (by omega), fun _ => rfl⟩
theorem nthZ_some {α : Type} {xs : List α} {i : Int} (h0 : 0 ≤ i) (h1 : i < (xs.length : Int)) : ∃ x, nthZ xs i = some x := by
  cases h : nthZ xs i with
  | some x => exact ⟨x, rfl⟩
  | none => rcases nthZ_none.mp h with z | z <;> omega
theorem nthZ_map {α β : Type} (f : α → β) (xs : List α) (i : Int) : nthZ (xs.map f) i = (nthZ xs i).map f := by
  unfold nthZ
  by_cases h0 : 0 ≤ i
  · rw [if_pos h0, if_pos h0, List.getElem?_map]
  · rw [if_neg h0, if_neg h0]; rfl
theorem nthZ_pair {α β : Type} {F : α → β → Prop} {as : List α} {bs : List β} {i : Int} {b : β} (h : Paired F as bs) (hb : nthZ bs i = some b) : ∃ a, nthZ as i = some a ∧ F a b := by
  unfold nthZ at hb ⊢
  by_cases h0 : 0 ≤ i
  · rw [if_pos h0] at hb ⊢
    have hl := Paired.length h
    have hlt : i.toNat < bs.length := (List.getElem?_eq_some_iff.mp hb).1
    have ha : as[i.toNat]? = some as[i.toNat] := List.getElem?_eq_getElem (by omega)
    obtain ⟨b', h1, h2⟩ := Paired.getR h ha
    rw [hb] at h1
    cases h1
    exact ⟨_, ha, h2⟩
  · rw [if_neg h0] at hb; cases hb
theorem nthZ_nat {α : Type} (xs : List α) (i : Nat) : nthZ xs (i : Int) = xs[i]? := by
  unfold nthZ
  rw [if_pos (by omega), Int.toNat_natCast]
theorem nthZ_mem {α : Type} {xs : List α} {i : Int} {x : α} (h : nthZ xs i = some x) : x ∈ xs := by
  unfold nthZ at h
  by_cases h0 : 0 ≤ i
  · rw [if_pos h0] at h; exact List.mem_of_getElem? h
  · rw [if_neg h0] at h; cases h
def newP (es : List En) (n : Nd) : List Int := (metOf es n).mergeSort fun a b => decide (b ≤ a)
theorem sorted_one : ∀ {xs ys : List Int}, xs.Pairwise (· ≥ ·) → ys.Pairwise (· ≥ ·) → xs.Perm ys → xs = ys
  | [], ys, _, _, h => (List.nil_perm.mp h).symm
  | x :: xs, [], _, _, h => absurd h.length_eq (by simp)
  | x :: xs, y :: ys, hx, hy, h => by
    rw [List.pairwise_cons] at hx hy
    have e : x = y := by
      have h1 : x ∈ y :: ys := h.subset (List.mem_cons_self ..)
      have h2 : y ∈ x :: xs := h.symm.subset (List.mem_cons_self ..)
      rcases List.mem_cons.mp h1 with z | z
      · exact z
      · rcases List.mem_cons.mp h2 with y' | y'
        · exact y'.symm
        · have := hx.1 y y'; have := hy.1 x z; omega
    subst e
    rw [sorted_one hx.2 hy.2 ((List.perm_cons x).mp h)]
theorem newP_one {es : List En} {n : Nd} {ms : List Int} (h : ms.Perm (metOf es n)) (h2 : ms.Pairwise (· ≥ ·)) : ms = newP es n := by
  refine sorted_one h2 ?_ (h.trans (List.mergeSort_perm _ _).symm)
  have := List.pairwise_mergeSort (le := fun a b : Int => decide (b ≤ a)) (fun a b c h1 h2 => by simp only [decide_eq_true_eq] at *; omega) (fun a b => by simp only [Bool.or_eq_true, decide_eq_true_eq]; omega) (metOf es n)
  exact this.imp fun h => of_decide_eq_true h
theorem newP_length (es : List En) (n : Nd) : (newP es n).length ≤ es.length := by
  unfold newP
  rw [(List.mergeSort_perm _ _).length_eq]
  exact metOf_length es n
def needsFor (es : List En) (sn : List Nd) : Option Pk → List Nd
  | none => sn
  | some k => needsOf es k
def whoB (es : List En) (ps : List Pk) : Option Pk → Bool
  | none => true
  | some k => decide (k ∈ ps) && decide (k ∈ es.map keyOf)
def clB (n : Nd) (k : Pk) : Bool := decide (k.1 = n.1) && !(inB n k.2)
def barB (ls : List Ln) (spot : Int) (ps : List Pk) (x : Str) (b v : Int) : Bool := decide (0 ≤ b) && (decide (b < spot) && match nthZ ls b with
  | none => false
  | some l => l.1.all fun p => decide (p ∈ ps) || decide (p = (x, v)))
def leftB (es : List En) (ls : List Ln) (spot : Int) (ps : List Pk) (n : Nd) (bs : List Int) : Bool :=
  decide (bs.length = (newP es n).length) && (bs.zip (newP es n)).all fun bv => barB ls spot ps n.1 bv.1 bv.2
def toldB (es : List En) (ls : List Ln) (spot : Int) (ps : List Pk) (n : Nd) : Told → Bool
  | .one k => decide (k ∈ ps) && clB n k
  | .many bs => leftB es ls spot ps n bs
def lineB (es : List En) (sn : List Nd) (ls : List Ln) (spot : Int) (l : Ln) : Bool :=
  whoB es l.1 l.2.who && match nthZ (needsFor es sn l.2.who) l.2.place with
  | none => false
  | some n => toldB es ls spot l.1 n l.2.told
theorem needs_parts {es : List En} {sn : List Nd} (hok : ∀ e ∈ es, EnOk e) (hsp : ∀ n ∈ sn, PartOk n.1) : ∀ (w : Option Pk) (n : Nd), n ∈ needsFor es sn w → PartOk n.1
  | none, n, h => hsp n h
  | some k, n, h => by
    have h' : n ∈ needsOf es k := h
    unfold needsOf at h'
    cases hf : es.find? (fun e => decide (keyOf e = k)) with
    | none => rw [hf] at h'; cases h'
    | some e => rw [hf] at h'; exact (hok e (List.mem_of_find?_eq_some hf)).nd n h'
end FB
namespace FB
open PySem L2 PyProof.Rows
seal PSs PS PE PT PA
structure Txt (K : PySem.W.Frag) (mg : Str → Option Value) : Prop where
  len : mg "len" = none
  range : mg "range" = none
  list : mg "list" = none
  tuple : mg "tuple" = none
  str : mg "str" = none
  int : mg "int" = none
  bool : mg "bool" = none
  isin : mg "isinstance" = none
  sorted : mg "sorted" = none
  rev : mg "reversed" = none
def spAt (K : PySem.W.Frag) : Sp := fun vs H Q _ => ∃ (a : Addr) (ns : List Int) (k : Int), vs = [.ref a, .int k] ∧ SqL K H a (ns.map V.int) ∧ 0 ≤ k ∧ ∀ z, Q (.int z) H
def spVer : Sp := fun vs H Q _ => ∃ (c : Int), vs = [.int c] ∧ ∀ z H', Same H H' → Q (.int z) H'
def spNeed : Sp := fun vs H Q _ => ∃ (c : Int), vs = [.int c] ∧ ∀ q (n : Nd) H', Same H H' → H q = none → H' q = some (.tup [.str n.1, .int n.2.1, .int n.2.2]) → PartOk n.1 → Q (.ref q) H'
def spLMeets (K : PySem.W.Frag) : Sp := fun vs H Q _ => ∃ (v : V) (n : Nd) (z : Int), vs = [v, .int z] ∧ NdAt H v n ∧ Q (.bl (decide (n.2.1 ≤ z) && decide (z ≤ n.2.2))) H
section
variable {P : Program} {w : World} {K : PySem.W.Frag} {mg : Str → Option Value} {base : Heap} {f : Addr} {fd : FuncData}
theorem scAt : FnScope ["_law_script", "_law_k"] ["_law_script", "_law_k"] (defScope sAt) := ⟨rfl, rfl, rfl, by decide +kernel, rfl, by decide +kernel, by decide +kernel⟩
theorem ok_at (F : Fun K "_law_at" "_law_at" sAt f fd) (T : Txt K mg) : FnOk P w K mg base CX0 1 f fd ["_law_script", "_law_k"] (spAt K) := by
  refine F.ok scAt (fun vs H Q E h => ?_) (fun cdv A outer s H vs Q E hr h => ?_)
  · obtain ⟨a, ns, k, rfl, _⟩ := h
    rfl
  obtain ⟨a, ns, k, rfl, hS, h0, q⟩ := h
  refine ⟨_, pss_cons (ps_if (pt_cmpR op_lt (pv 1) (pe_callB call_len_seq rfl T.len PySem.boot_len (pa_cons (pv 0) pa_nil)) (nomark _))
      (pss_one (ps_ret (pe_ix ix_list (pv 0) (pv 1) (fun _ _ => rfl)))) pss_nil)
    (pss_one (ps_ret pe_int)), ?_⟩
  refine ⟨_, rfl, _, rfl, a, _, rfl, .inl hS, _, _, rfl, rfl, _, rfl, ?_⟩
  refine ite2 (fun c => ?_) (fun c => ?_)
  · have c' : k < (((ns.map V.int).length : Nat) : Int) := of_decide_eq_true c
    rw [List.length_map] at c'
    obtain ⟨z, hz, _⟩ := at_ints h0 c'
    exact ⟨_, rfl, _, rfl, a, _, _, _, rfl, rfl, hS, hz, q z⟩
  · exact q 0
theorem scVer : FnScope ["_law_cell"] ["_law_cell"] (defScope sVer) := ⟨rfl, rfl, rfl, by decide +kernel, rfl, by decide +kernel, by decide +kernel⟩
theorem ok_ver (F : Fun K "_law_version_by" "_law_version_by" sVer f fd) : FnOk P w K mg base CX0 1 f fd ["_law_cell"] spVer := by
  refine F.ok scVer (fun vs H Q E h => ?_) (fun cdv A outer s H vs Q E hr h => ?_)
  · obtain ⟨c, rfl, _⟩ := h
    rfl
  obtain ⟨c, rfl, q⟩ := h
  refine ⟨_, pss_cons (ps_if (pt_cmpR op_eq (pe_op op_mod (pv 0) pe_int) pe_int (nomark _))
      (pss_one (ps_ret (pe_ix ix_list (pe_lst (pa_cons pe_int (pa_cons pe_int (pa_cons (pe_un un_neg pe_int) (pa_cons pe_int pa_nil))))) (pe_op op_mod (pe_op op_fdiv (pv 0) pe_int) pe_int) (fun _ _ => rfl)))) pss_nil)
    (pss_one (ps_ret (pe_ix ix_list (pe_lst (pa_cons pe_int (pa_cons (pe_un un_neg pe_int) (pa_cons (pe_op op_pow pe_int pe_int) pa_nil)))) (pe_op op_mod (pv 0) pe_int) (fun _ _ => rfl)))), ?_⟩
  refine ⟨_, rfl, _, _, rfl, rfl, (by show (0 : Int) < 7; decide), rfl, _, rfl, ?_⟩
  refine ite2 (fun _ => ?_) (fun _ => ?_)
  · refine ⟨_, rfl, (by show 4 ≤ sizeLine; decide), fun p hp => ?_⟩
    obtain ⟨z, hz, _⟩ := at_ints (ns := [9, 10, -10, 100]) (i := c / 7 % 4) (Int.emod_nonneg _ (by decide)) (Int.emod_lt_of_pos _ (by decide))
    exact ⟨_, rfl, _, _, rfl, rfl, ⟨by decide, by decide⟩, _, _, rfl, rfl, (by show (0 : Int) < 4; decide), p, _, _, _, rfl, rfl, SqL.of upd_same, hz, q z _ (same_new hp _)⟩
  · refine ⟨_, rfl, _, _, rfl, rfl, ⟨by decide, by decide, by decide⟩, (by show 3 ≤ sizeLine; decide), fun p hp => ?_⟩
    obtain ⟨z, hz, _⟩ := at_ints (ns := [0, -1, 10 ^ (30 : Int).toNat]) (i := c % 3) (Int.emod_nonneg _ (by decide)) (Int.emod_lt_of_pos _ (by decide))
    exact ⟨_, rfl, _, _, rfl, rfl, (by show (0 : Int) < 3; decide), p, _, _, _, rfl, rfl, SqL.of upd_same, hz, q z _ (same_new hp _)⟩
theorem part1 : PartOk "ashenashenashen" := ⟨by decide +kernel, by decide +kernel⟩
theorem part2 : PartOk "as" := ⟨by decide +kernel, by decide +kernel⟩
theorem part3 : PartOk "" := ⟨by decide +kernel, by decide +kernel⟩
theorem part4 : PartOk "ashenashxnashen" := ⟨by decide +kernel, by decide +kernel⟩
theorem parts {xs : List V} (h : xs = [.str "ashenashenashen", .str "as", .str "", .str "ashenashxnashen"] ∨ xs = [.str "as", .str "ashenashenashen", .str "ashenashxnashen", .str ""]) {v : V} (hv : v ∈ xs) : ∃ x, v = .str x ∧ PartOk x := by
  rcases h with rfl | rfl <;> simp only [List.mem_cons, List.not_mem_nil, or_false] at hv <;> rcases hv with rfl | rfl | rfl | rfl
  · exact ⟨_, rfl, part1⟩
  · exact ⟨_, rfl, part2⟩
  · exact ⟨_, rfl, part3⟩
  · exact ⟨_, rfl, part4⟩
  · exact ⟨_, rfl, part2⟩
  · exact ⟨_, rfl, part1⟩
  · exact ⟨_, rfl, part4⟩
  · exact ⟨_, rfl, part3⟩
theorem scNeed : FnScope ["_law_cell", "_law_part", "_law_low", "_law_high"] ["_law_cell"] (defScope sNeed) := ⟨rfl, rfl, rfl, by decide +kernel, rfl, by decide +kernel, by decide +kernel⟩
theorem ok_need {g : Addr} {gd : FuncData} (F : Fun K "_law_need_by" "_law_need_by" sNeed f fd) (G : FnOk P w K mg base CX0 1 g gd ["_law_cell"] spVer) (bG : Binds K gd ["_law_cell"] []) (kG : PySem.W.keepIn K (.ref g) = true) (mG : mg "_law_version_by" = some (.ref g)) :
    FnOk P w K mg base CX0 2 f fd ["_law_cell"] spNeed := by
  refine F.ok scNeed (fun vs H Q E h => ?_) (fun cdv A outer s H vs Q E hr h => ?_)
  · obtain ⟨c, rfl, _⟩ := h
    rfl
  obtain ⟨c, rfl, q⟩ := h
  refine ⟨_, pss_cons (ps_set (i := 1) scNeed.nd rfl (Or.inl rfl) (pe_ix ix_list (pe_lst (pa_cons pe_str (pa_cons pe_str (pa_cons pe_str (pa_cons pe_str pa_nil))))) (pe_op op_mod (pv 0) pe_int) (fun _ _ => rfl)))
    (pss_cons (ps_set (i := 2) scNeed.nd rfl (Or.inl rfl) (pe_call G hr rfl mG kG bG .nil pass0 (pa_cons (pe_op op_fdiv (pv 0) pe_int) pa_nil)))
    (pss_cons (ps_set (i := 3) scNeed.nd rfl (Or.inl rfl) (pe_ix ix_list (pe_lst (pa_cons pe_int (pa_cons (pe_un un_neg pe_int) (pa_cons (pe_op op_pow pe_int pe_int) (pa_cons (pe_op op_pow pe_int pe_int) (pa_cons (pv 2) (pa_cons (pe_un un_neg pe_int) pa_nil))))))) (pe_op op_mod (pe_op op_fdiv (pv 0) pe_int) pe_int) (fun _ _ => rfl)))
    (pss_one (ps_ret (pe_tup (pa_cons (pv 1) (pa_cons (pv 2) (pa_cons (pv 3) pa_nil)))))))), ?_⟩
  refine ⟨(by show 4 ≤ sizeLine; decide), fun p hp => ?_⟩
  obtain ⟨v, hv, hm⟩ := at_any (xs := [.str "ashenashenashen", .str "as", .str "", .str "ashenashxnashen"]) (i := c % 4) (Int.emod_nonneg _ (by decide)) (Int.emod_lt_of_pos _ (by decide))
  obtain ⟨x, rfl, hx⟩ := parts (.inl rfl) hm
  refine ⟨_, rfl, _, _, rfl, rfl, (by show (0 : Int) < 4; decide), p, _, _, _, rfl, rfl, SqL.of upd_same, hv, ?_⟩
  have s1 := same_new hp (.lst [.str "ashenashenashen", .str "as", .str "", .str "ashenashxnashen"])
  refine ⟨_, rfl, _, _, rfl, rfl, ⟨by decide, by decide⟩, _, rfl, fun lo H2 s2 => ?_⟩
  refine ⟨_, rfl, _, _, rfl, rfl, ⟨by decide, by decide, by decide⟩, _, _, rfl, rfl, ⟨by decide, by decide, by decide⟩, _, rfl, _, rfl, (by show 6 ≤ sizeLine; decide), fun p2 hp2 => ?_⟩
  obtain ⟨hi, hv2, _⟩ := at_ints (ns := [0, -1, 10 ^ (30 : Int).toNat, 10 ^ (30 : Int).toNat, lo, -9]) (i := c / 12 % 6) (Int.emod_nonneg _ (by decide)) (Int.emod_lt_of_pos _ (by decide))
  refine ⟨_, rfl, _, _, rfl, rfl, ⟨by decide, by decide⟩, _, _, rfl, rfl, (by show (0 : Int) < 6; decide), p2, _, _, _, rfl, rfl, SqL.of upd_same, hv2, ?_⟩
  have s3 := (s1.trans s2).trans (same_new hp2 (.lst [.int 0, .int (-1), .int (10 ^ (30 : Int).toNat), .int (10 ^ (30 : Int).toNat), .int lo, .int (-9)]))
  refine ⟨_, rfl, _, rfl, _, rfl, (by show 3 ≤ sizeLine; decide), fun r hr2 => ?_⟩
  exact q r (x, lo, hi) _ (s3.trans (same_new hr2 _)) (s3.free hr2) upd_same hx
theorem scLM : FnScope ["_law_need", "_law_version"] ["_law_need", "_law_version"] (defScope sLMeets) := ⟨rfl, rfl, rfl, by decide +kernel, rfl, by decide +kernel, by decide +kernel⟩
theorem ok_lmeets (F : Fun K "_law_meets" "_law_meets" sLMeets f fd) : FnOk P w K mg base CX0 1 f fd ["_law_need", "_law_version"] (spLMeets K) := by
  refine F.ok scLM (fun vs H Q E h => ?_) (fun cdv A outer s H vs Q E hr h => ?_)
  · obtain ⟨v, n, z, rfl, _⟩ := h
    rfl
  obtain ⟨v, n, z, rfl, ⟨q0, rfl, hq⟩, q⟩ := h
  refine ⟨_, pss_one (ps_ret (pe_and (pe_cmpR op_le (pe_ix ix_tup (pv 0) pe_int (fun _ _ => rfl)) (pv 1) (nomark _)) (pe_one (pe_cmpR op_le (pv 1) (pe_ix ix_tup (pv 0) pe_int (fun _ _ => rfl)) (nomark _))))), ?_⟩
  refine ⟨_, rfl, q0, _, _, _, rfl, rfl, SqT.of hq, rfl, _, rfl, _, _, rfl, rfl, _, rfl, ?_⟩
  refine ite2 (fun c => ?_) (fun c => ?_)
  · refine ⟨_, rfl, _, rfl, q0, _, _, _, rfl, rfl, SqT.of hq, rfl, _, _, rfl, rfl, ?_⟩
    rw [c, Bool.true_and] at q
    exact q
  · rw [Bool.eq_false_iff.mpr c, Bool.false_and] at q
    exact q
end
end FB
namespace L2
open PySem PyProof.Rows
theorem pe_ty {X : Cx} {x : Str} {n : String} {pos : Pos} (hg : Gl X x) (hm : X.mg x = none) (hv : bootBuiltins x = some (.type n)) (hn : x ≠ "__name__" := by decide) (hd : (x == ("__debug__" : Str)) = false := by decide) : PE X (.Name x pos) (tC (.ty n)) :=
  pe_bltn (v := .ty n) hg hm hv rfl hn hd
end L2
namespace FB
open PySem L2 PyProof.Rows
seal PSs PS PE PT PA
def tyD : PyData → String
  | .none => "NoneType"
  | .bool _ => "bool"
  | .int _ => "int"
  | .str _ => "str"
  | .list _ => "list"
  | .tuple _ => "tuple"
  | .dict _ => "dict"
theorem rep_ty {K : PySem.W.Frag} {H : Hp} {v : V} {d : PyData} (h : Rep H v d) : TyOf K H v (.type (tyD d)) := by
  cases h with
  | non => exact .non
  | bl b => exact .bl b
  | int i => exact .int i
  | str x => exact .str x
  | lst e _ => exact .lst e
  | tup e _ => exact .tup e
theorem kit_nl (K : PySem.W.Frag) : PySem.W.kitOne K (.type "NoneType") (.type "list") = some false := by kernel_rfl
theorem kit_il (K : PySem.W.Frag) : PySem.W.kitOne K (.type "int") (.type "list") = some false := by kernel_rfl
theorem kit_sl (K : PySem.W.Frag) : PySem.W.kitOne K (.type "str") (.type "list") = some false := by kernel_rfl
theorem kit_ll (K : PySem.W.Frag) : PySem.W.kitOne K (.type "list") (.type "list") = some true := by kernel_rfl
theorem kit_tl (K : PySem.W.Frag) : PySem.W.kitOne K (.type "tuple") (.type "list") = some false := by kernel_rfl
theorem kit_nt (K : PySem.W.Frag) : PySem.W.kitOne K (.type "NoneType") (.type "tuple") = some false := by kernel_rfl
theorem kit_it (K : PySem.W.Frag) : PySem.W.kitOne K (.type "int") (.type "tuple") = some false := by kernel_rfl
theorem kit_st (K : PySem.W.Frag) : PySem.W.kitOne K (.type "str") (.type "tuple") = some false := by kernel_rfl
theorem kit_lt (K : PySem.W.Frag) : PySem.W.kitOne K (.type "list") (.type "tuple") = some false := by kernel_rfl
theorem kit_tt (K : PySem.W.Frag) : PySem.W.kitOne K (.type "tuple") (.type "tuple") = some true := by kernel_rfl
theorem kit_ns (K : PySem.W.Frag) : PySem.W.kitOne K (.type "NoneType") (.type "str") = some false := by kernel_rfl
theorem kit_is (K : PySem.W.Frag) : PySem.W.kitOne K (.type "int") (.type "str") = some false := by kernel_rfl
theorem kit_ss (K : PySem.W.Frag) : PySem.W.kitOne K (.type "str") (.type "str") = some true := by kernel_rfl
theorem kit_ii (K : PySem.W.Frag) : PySem.W.kitOne K (.type "int") (.type "int") = some true := by kernel_rfl
theorem kit_ib (K : PySem.W.Frag) : PySem.W.kitOne K (.type "int") (.type "bool") = some false := by kernel_rfl
theorem kita_n (K : PySem.W.Frag) : PySem.W.kitAny K (.type "NoneType") [.type "list", .type "tuple"] = some false := by unfold PySem.W.kitAny; rw [kit_nl]; unfold PySem.W.kitAny; rw [kit_nt]; rfl
theorem kita_i (K : PySem.W.Frag) : PySem.W.kitAny K (.type "int") [.type "list", .type "tuple"] = some false := by unfold PySem.W.kitAny; rw [kit_il]; unfold PySem.W.kitAny; rw [kit_it]; rfl
theorem kita_s (K : PySem.W.Frag) : PySem.W.kitAny K (.type "str") [.type "list", .type "tuple"] = some false := by unfold PySem.W.kitAny; rw [kit_sl]; unfold PySem.W.kitAny; rw [kit_st]; rfl
theorem kita_l (K : PySem.W.Frag) : PySem.W.kitAny K (.type "list") [.type "list", .type "tuple"] = some true := by unfold PySem.W.kitAny; rw [kit_ll]
theorem kita_t (K : PySem.W.Frag) : PySem.W.kitAny K (.type "tuple") [.type "list", .type "tuple"] = some true := by unfold PySem.W.kitAny; rw [kit_tl]; unfold PySem.W.kitAny; rw [kit_tt]
theorem eqv_nil (ds : List PyData) : PyData.eqv (.list ds) (.list []) = ds.isEmpty := by
  cases ds <;> simp [PyData.eqv, PyData.eqvAll]
def spStays : Sp := fun vs H Q _ => ∃ (v v' : V) (d : PyData), vs = [v, v'] ∧ Rep H v d ∧ Rep H v' d ∧ okD 10 d = true ∧ wgt d ≤ 10000000 ∧ ∀ H', Same H H' → Q (.bl true) H'
theorem last_snoc {α : Type} (xs : List α) (x : α) : (xs ++ [x])[(xs ++ [x]).length - 1]? = some x := by simp
theorem line100k {n : Nat} (h : n ≤ 10000001) : n ≤ sizeLine := Nat.le_trans h (by decide)
section
variable {P : Program} {w : World} {K : PySem.W.Frag} {mg : Str → Option Value} {base : Heap} {f : Addr} {fd : FuncData}
theorem scSt : FnScope ["_law_handed", "_law_own", "_law_left", "_law_right", "_law_one", "_law_two"] ["_law_handed", "_law_own"] (defScope sStays) := ⟨rfl, rfl, rfl, by decide +kernel, rfl, by decide +kernel, by decide +kernel⟩
structure Stk (H : Hp) (l r : Addr) (v v' : V) (m : Nat) (σ : L2.St) (H2 : Hp) : Prop where
  ex : ∃ ds xs ys o1 o2, σ = [some v, some v', some (.ref l), some (.ref r), o1, o2] ∧ H2 l = some (.lst xs) ∧ H2 r = some (.lst ys) ∧ Reps H xs ds ∧ Reps H ys ds ∧ (∀ d ∈ ds, okD 10 d = true) ∧ wgts ds = m
  sm : Same H H2
  le : m ≤ 10000000
theorem ok_stays (F : Fun K "_law_stays_so" "_law_stays_so" sStays f fd) (T : Txt K mg) : FnOk P w K mg base CX0 1 f fd ["_law_handed", "_law_own"] spStays := by
  refine F.ok scSt (fun vs H Q E h => ?_) (fun cdv A outer s H vs Q E hr h => ?_)
  · obtain ⟨v, v', d, rfl, _⟩ := h
    rfl
  obtain ⟨v, v', d, rfl, hv, hv', hok, hw, q⟩ := h
  refine ⟨_, (pss_cons (ps_set (i := 2) scSt.nd rfl (Or.inl rfl) (pe_lst (pa_cons (pv 0) pa_nil)))
    (pss_cons (ps_set (i := 3) scSt.nd rfl (Or.inl rfl) (pe_lst (pa_cons (pv 1) pa_nil)))
    (pss_cons (ps_while PassesOwn.never (pt_cmpR (op_neD hr.units) (pv 3) (pe_lst pa_nil) (nomark _))
      (pss_cons (ps_set (i := 4) scSt.nd rfl (Or.inl rfl) (pe_bm0 PySem.F.plainAttrs_list PySem.F.slot_list_pop PySem.F.type_list_pop mt_pop (pv 2)))
      (pss_cons (ps_set (i := 5) scSt.nd rfl (Or.inl rfl) (pe_bm0 PySem.F.plainAttrs_list PySem.F.slot_list_pop PySem.F.type_list_pop mt_pop (pv 3)))
      (pss_one (ps_if (pt_val (pe_callB call_isinstT rfl T.isin boot_isinstance (pa_cons (pv 5) (pa_cons (pe_tup (pa_cons (pe_ty rfl T.list boot_list) (pa_cons (pe_ty rfl T.tuple boot_tuple) pa_nil))) pa_nil))))
        (pss_cons (ps_if (pt_cmpR op_ne (pe_callB call_isinst rfl T.isin boot_isinstance (pa_cons (pv 4) (pa_cons (pe_ty rfl T.list boot_list) pa_nil))) (pe_callB call_isinst rfl T.isin boot_isinstance (pa_cons (pv 5) (pa_cons (pe_ty rfl T.list boot_list) pa_nil))) (nomark _)) (pss_one (ps_ret pe_bl)) pss_nil)
        (pss_cons (ps_if (PW.pt (pw_or (pt_cmpR op_ne (pe_callB call_isinst rfl T.isin boot_isinstance (pa_cons (pv 4) (pa_cons (pe_ty rfl T.tuple boot_tuple) pa_nil))) (pe_callB call_isinst rfl T.isin boot_isinstance (pa_cons (pv 5) (pa_cons (pe_ty rfl T.tuple boot_tuple) pa_nil))) (nomark _))
            (pw_or1 (pt_cmpR op_ne (pe_callB call_len_seq rfl T.len PySem.boot_len (pa_cons (pv 4) pa_nil)) (pe_callB call_len_seq rfl T.len PySem.boot_len (pa_cons (pv 5) pa_nil)) (nomark _))))) (pss_one (ps_ret pe_bl)) pss_nil)
        (pss_cons (ps_expr (pe_bm PySem.F.plainAttrs_list PySem.F.slot_list_extend PySem.F.type_list_extend mt_extend (pv 2) (pa_cons (pe_callTy call_list_of rfl T.list boot_list (pa_cons (pv 4) pa_nil)) pa_nil)))
        (pss_one (ps_expr (pe_bm PySem.F.plainAttrs_list PySem.F.slot_list_extend PySem.F.type_list_extend mt_extend (pv 3) (pa_cons (pe_callTy call_list_of rfl T.list boot_list (pa_cons (pv 5) pa_nil)) pa_nil)))))))
        (pss_one (ps_if (pt_val (pe_callB call_isinst rfl T.isin boot_isinstance (pa_cons (pv 5) (pa_cons (pe_ty rfl T.str boot_str) pa_nil))))
          (pss_one (ps_if (PW.pt (pw_or (pt_not (pt_val (pe_callB call_isinst rfl T.isin boot_isinstance (pa_cons (pv 4) (pa_cons (pe_ty rfl T.str boot_str) pa_nil))))) (pw_or1 (pt_cmpR op_ne (pv 4) (pv 5) (nomark _))))) (pss_one (ps_ret pe_bl)) pss_nil))
          (pss_one (ps_if (pt_cmp (pc_isN (pv 5)))
            (pss_one (ps_if (pt_cmp (pc_notN (pv 4))) (pss_one (ps_ret pe_bl)) pss_nil))
            (pss_one (ps_if (PW.pt (pw_or (pt_not (pt_val (pe_callB call_isinst rfl T.isin boot_isinstance (pa_cons (pv 4) (pa_cons (pe_ty rfl T.int boot_int) pa_nil)))))
              (pw_or (pt_val (pe_callB call_isinst rfl T.isin boot_isinstance (pa_cons (pv 4) (pa_cons (pe_ty rfl T.bool boot_bool) pa_nil)))) (pw_or1 (pt_cmpR op_ne (pv 4) (pv 5) (nomark _)))))) (pss_one (ps_ret pe_bl)) pss_nil)))))))))))
    (pss_one (ps_ret pe_bl))))), ?_⟩
  -- left = [handed]; right = [own]
  refine ⟨_, rfl, (by show 1 ≤ sizeLine; decide), fun l hl => ⟨_, rfl, (by show 1 ≤ sizeLine; decide), fun r hr' => ?_⟩⟩
  have nlr : l ≠ r := ne_of_none (o := .lst [v]) upd_same hr'
  have s1 : Same H (upd H l (.lst [v])) := same_new hl _
  have hrH : H r = none := s1.free hr'
  refine ⟨Stk H l r v v', ⟨wgt d, ⟨[d], [v], [v'], none, none, rfl, by rw [upd_ne nlr]; exact upd_same, upd_same, .cons hv .nil, .cons hv' .nil, by simpa using hok, wgts_one d⟩, s1.trans (same_new hr' _), hw⟩, ?_⟩
  rintro m σ H2 ⟨⟨ds, xs, ys, o1, o2, rfl, h2l, h2r, rx, ry, hds, hm⟩, sm, hle⟩
  -- while right != []
  refine ⟨_, rfl, (by show 0 ≤ sizeLine; decide), fun e he => ?_⟩
  have s3 : Same H2 (upd H2 e (.lst [])) := same_new he _
  have nel : e ≠ l := Ne.symm (ne_of_none h2l he)
  have ner : e ≠ r := Ne.symm (ne_of_none h2r he)
  have okl : okD 11 (.list ds) = true := by
    rw [okD, List.all_eq_true]
    exact hds
  refine ⟨.list ds, .list [], .lst (s3 _ _ h2r) (Reps.same (sm.trans s3) ry), .lst upd_same .nil, okD_shaped okl (by decide), rfl, _, rfl, ?_⟩
  rw [eqv_nil]
  by_cases hnil : ds = []
  · subst hnil
    exact iteF (q _ (sm.trans s3))
  obtain ⟨ds', c, rfl⟩ : ∃ ds' c, ds = ds' ++ [c] := ⟨ds.dropLast, ds.getLast hnil, (List.dropLast_concat_getLast hnil).symm⟩
  have hem : (ds' ++ [c]).isEmpty = false := by simp
  rw [hem]
  refine iteT ?_
  obtain ⟨xs', x, rfl, rx', rxc⟩ := rx.snoc_inv
  obtain ⟨ys', y, rfl, ry', ryc⟩ := ry.snoc_inv
  have hw2 : wgts ds' + wgt c = m := by rw [← hm, wgts_append, wgts_one]
  have hlx := rx'.length
  have hly := ry'.length
  have hln := wgts_length ds'
  have hcp := wgt_pos c
  refine ⟨fun σ' H' => ∃ m', m' < m ∧ Stk H l r v v' m' σ' H', fun _ _ z => z, ?_⟩
  -- one = left.pop(); two = right.pop()
  refine ⟨_, rfl, .inl ⟨rfl, _, SqL.of (s3 _ _ h2l)⟩, l, _, x, rfl, rfl, s3 _ _ h2l, last_snoc _ _, ?_⟩
  have s4 : Same H (upd (upd H2 e (.lst [])) l (.lst (xs' ++ [x]).dropLast)) := Same.upd (sm.trans s3) hl
  have h4r : upd (upd H2 e (.lst [])) l (.lst (xs' ++ [x]).dropLast) r = some (.lst (ys' ++ [y])) := by
    rw [upd_ne (Ne.symm nlr), upd_ne (Ne.symm ner)]
    exact h2r
  refine ⟨_, rfl, .inl ⟨rfl, _, SqL.of h4r⟩, r, _, y, rfl, rfl, h4r, last_snoc _ _, ?_⟩
  rw [List.dropLast_concat, List.dropLast_concat]
  generalize hH5 : upd (upd (upd H2 e (.lst [])) l (.lst xs')) r (.lst ys') = H5
  have s5 : Same H H5 := by
    rw [← hH5]
    rw [List.dropLast_concat] at s4
    exact Same.upd s4 hrH
  have h5l : H5 l = some (.lst xs') := by rw [← hH5, upd_ne nlr]; exact upd_same
  have h5r : H5 r = some (.lst ys') := by rw [← hH5]; exact upd_same
  have tyx := rep_ty (K := K) (rxc.same s5)
  have tyy := rep_ty (K := K) (ryc.same s5)
  have hdc : okD 10 c = true := hds c (by simp)
  have fin : ∀ {H6 : Hp}, Same H5 H6 → ∃ m', m' < m ∧ Stk H l r v v' m' [some v, some v', some (.ref l), some (.ref r), some x, some y] H6 := fun {H6} s6 =>
    ⟨wgts ds', by omega, ⟨ds', xs', ys', _, _, rfl, s6 _ _ h5l, s6 _ _ h5r, rx', ry', fun d hd => hds d (by simp [hd]), rfl⟩, s5.trans s6, by omega⟩
  -- isinstance(two, (list, tuple))
  refine ⟨_, rfl, (by show 2 ≤ sizeLine; decide), fun tp htp => ?_⟩
  have s6 : Same H5 (upd H5 tp (.tup [.ty "list", .ty "tuple"])) := same_new htp _
  generalize hH6 : upd H5 tp (.tup [.ty "list", .ty "tuple"]) = H6 at s6
  have h6t : H6 tp = some (.tup (["list", "tuple"].map V.ty)) := by rw [← hH6]; exact upd_same
  have rx6 := rxc.same (s5.trans s6)
  have ry6 := ryc.same (s5.trans s6)
  have tx6 := rep_ty (K := K) rx6
  have ty6 := rep_ty (K := K) ry6
  cases hc : c with
  | bool b => rw [hc] at hdc; simp [okD] at hdc
  | dict kvs => rw [hc] at hdc; simp [okD] at hdc
  | none =>
    rw [hc] at tx6 ty6 rx6 ry6
    refine ⟨y, tp, ["list", "tuple"], _, _, rfl, h6t, ty6, (fun C z => nomatch z), kita_n K, _, rfl, iteF ?_⟩
    refine ⟨_, rfl, y, _, _, _, rfl, ty6, kit_ns K, _, rfl, iteF ?_⟩
    cases ry6
    cases rx6
    refine ⟨_, rfl, _, rfl, iteT ?_⟩
    refine ⟨_, rfl, _, rfl, iteF ?_⟩
    exact fin s6
  | int i =>
    rw [hc] at tx6 ty6 rx6 ry6
    refine ⟨y, tp, ["list", "tuple"], _, _, rfl, h6t, ty6, (fun C z => nomatch z), kita_i K, _, rfl, iteF ?_⟩
    refine ⟨_, rfl, y, _, _, _, rfl, ty6, kit_is K, _, rfl, iteF ?_⟩
    cases ry6
    cases rx6
    refine ⟨_, rfl, _, rfl, iteF ?_⟩
    refine ⟨_, rfl, _, _, _, _, rfl, tx6, kit_ii K, _, rfl, iteF ?_⟩
    refine ⟨_, rfl, _, _, _, _, rfl, tx6, kit_ib K, _, rfl, iteF ?_⟩
    refine ⟨_, rfl, _, rfl, rfl, _, rfl, iteNS rfl ?_⟩
    exact fin s6
  | str z =>
    rw [hc] at tx6 ty6 rx6 ry6
    refine ⟨y, tp, ["list", "tuple"], _, _, rfl, h6t, ty6, (fun C z => nomatch z), kita_s K, _, rfl, iteF ?_⟩
    refine ⟨_, rfl, y, _, _, _, rfl, ty6, kit_ss K, _, rfl, iteT ?_⟩
    cases ry6
    cases rx6
    refine ⟨_, rfl, _, _, _, _, rfl, tx6, kit_ss K, _, rfl, iteF ?_⟩
    refine ⟨_, rfl, _, rfl, rfl, _, rfl, iteNS rfl ?_⟩
    exact fin s6
  | list cs =>
    rw [hc] at tx6 ty6 rxc ryc
    have hwc : wgts cs + 1 = wgt c := by rw [hc]; simp [wgt]
    have hcs : ∀ d ∈ cs, okD 10 d = true := by
      rw [hc, okD, List.all_eq_true] at hdc
      exact fun d hd => okD_mono 9 d 10 (by decide) (hdc d hd)
    have hlc := wgts_length cs
    cases rxc with
    | @lst xa x1 _ hx q1 =>
    cases ryc with
    | @lst ya y1 _ hy q2 =>
    have e1 := q1.length
    have e2 := q2.length
    refine ⟨_, tp, ["list", "tuple"], _, _, rfl, h6t, ty6, (fun C z => nomatch z), kita_l K, _, rfl, iteT ?_⟩
    refine ⟨_, rfl, _, _, _, _, rfl, tx6, kit_ll K, _, rfl, _, _, _, _, rfl, ty6, kit_ll K, rfl, _, rfl, iteNS rfl ?_⟩
    have sH6 : Same H H6 := s5.trans s6
    refine ⟨_, rfl, _, _, _, _, rfl, tx6, kit_lt K, _, rfl, _, _, _, _, rfl, ty6, kit_lt K, rfl, _, rfl, iteNS rfl ?_⟩
    refine ⟨_, rfl, xa, _, rfl, .inl (SqL.of (sH6 _ _ hx)), _, rfl, ya, _, rfl, .inl (SqL.of (sH6 _ _ hy)), rfl, _, rfl, iteNS (by rw [e1, e2]) ?_⟩
    -- left.extend(list(one)); right.extend(list(two))
    have h6l := s6 _ _ h5l
    have h6r := s6 _ _ h5r
    refine ⟨_, rfl, .inl ⟨rfl, _, SqL.of h6l⟩, _, rfl, xa, _, rfl, .inl (SqL.of (sH6 _ _ hx)), fun l1 hl1 => ?_⟩
    have s7 : Same H6 (upd H6 l1 (.lst x1)) := same_new hl1 _
    refine ⟨l, l1, xs', x1, rfl, rfl, s7 _ _ h6l, upd_same, line100k (by omega), ?_⟩
    have s8 : Same H (upd (upd H6 l1 (.lst x1)) l (.lst (xs' ++ x1))) := Same.upd (sH6.trans s7) hl
    have h8r : upd (upd H6 l1 (.lst x1)) l (.lst (xs' ++ x1)) r = some (.lst ys') := by
      rw [upd_ne (Ne.symm nlr)]
      exact s7 _ _ h6r
    refine ⟨_, rfl, .inl ⟨rfl, _, SqL.of h8r⟩, _, rfl, ya, _, rfl, .inl (SqL.of (s8 _ _ hy)), fun l2 hl2 => ?_⟩
    have s9 := same_new hl2 (.lst y1)
    refine ⟨r, l2, ys', y1, rfl, rfl, s9 _ _ h8r, upd_same, line100k (by omega), ?_⟩
    refine ⟨wgts (ds' ++ cs), by rw [wgts_append]; omega, ⟨ds' ++ cs, xs' ++ x1, ys' ++ y1, _, _, rfl, ?_, upd_same, rx'.append q1, ry'.append q2, ?_, rfl⟩, Same.upd (s8.trans s9) hrH, by rw [wgts_append]; omega⟩
    · rw [upd_ne nlr]
      exact s9 _ _ upd_same
    · intro d hd
      rcases List.mem_append.mp hd with z | z
      · exact hds d (by simp [z])
      · exact hcs d z
  | tuple cs =>
    rw [hc] at tx6 ty6 rxc ryc
    have hwc : wgts cs + 1 = wgt c := by rw [hc]; simp [wgt]
    have hcs : ∀ d ∈ cs, okD 10 d = true := by
      rw [hc, okD, List.all_eq_true] at hdc
      exact fun d hd => okD_mono 9 d 10 (by decide) (hdc d hd)
    have hlc := wgts_length cs
    cases rxc with
    | @tup xa x1 _ hx q1 =>
    cases ryc with
    | @tup ya y1 _ hy q2 =>
    have e1 := q1.length
    have e2 := q2.length
    refine ⟨_, tp, ["list", "tuple"], _, _, rfl, h6t, ty6, (fun C z => nomatch z), kita_t K, _, rfl, iteT ?_⟩
    refine ⟨_, rfl, _, _, _, _, rfl, tx6, kit_tl K, _, rfl, _, _, _, _, rfl, ty6, kit_tl K, rfl, _, rfl, iteNS rfl ?_⟩
    have sH6 : Same H H6 := s5.trans s6
    refine ⟨_, rfl, _, _, _, _, rfl, tx6, kit_tt K, _, rfl, _, _, _, _, rfl, ty6, kit_tt K, rfl, _, rfl, iteNS rfl ?_⟩
    refine ⟨_, rfl, xa, _, rfl, .inr (SqT.of (sH6 _ _ hx)), _, rfl, ya, _, rfl, .inr (SqT.of (sH6 _ _ hy)), rfl, _, rfl, iteNS (by rw [e1, e2]) ?_⟩
    -- left.extend(list(one)); right.extend(list(two))
    have h6l := s6 _ _ h5l
    have h6r := s6 _ _ h5r
    refine ⟨_, rfl, .inl ⟨rfl, _, SqL.of h6l⟩, _, rfl, xa, _, rfl, .inr (SqT.of (sH6 _ _ hx)), fun l1 hl1 => ?_⟩
    have s7 : Same H6 (upd H6 l1 (.lst x1)) := same_new hl1 _
    refine ⟨l, l1, xs', x1, rfl, rfl, s7 _ _ h6l, upd_same, line100k (by omega), ?_⟩
    have s8 : Same H (upd (upd H6 l1 (.lst x1)) l (.lst (xs' ++ x1))) := Same.upd (sH6.trans s7) hl
    have h8r : upd (upd H6 l1 (.lst x1)) l (.lst (xs' ++ x1)) r = some (.lst ys') := by
      rw [upd_ne (Ne.symm nlr)]
      exact s7 _ _ h6r
    refine ⟨_, rfl, .inl ⟨rfl, _, SqL.of h8r⟩, _, rfl, ya, _, rfl, .inr (SqT.of (s8 _ _ hy)), fun l2 hl2 => ?_⟩
    have s9 := same_new hl2 (.lst y1)
    refine ⟨r, l2, ys', y1, rfl, rfl, s9 _ _ h8r, upd_same, line100k (by omega), ?_⟩
    refine ⟨wgts (ds' ++ cs), by rw [wgts_append]; omega, ⟨ds' ++ cs, xs' ++ x1, ys' ++ y1, _, _, rfl, ?_, upd_same, rx'.append q1, ry'.append q2, ?_, rfl⟩, Same.upd (s8.trans s9) hrH, by rw [wgts_append]; omega⟩
    · rw [upd_ne nlr]
      exact s9 _ _ upd_same
    · intro d hd
      rcases List.mem_append.mp hd with z | z
      · exact hds d (by simp [z])
      · exact hcs d z
end
end FB
namespace L2
open PySem PyProof.Rows
def rListOf (K : PySem.W.Frag) : List V → Hp → VK → Prop := fun xs H Q => ∃ p ys, xs = [.ref p] ∧ (SqL K H p ys ∨ SqT K H p ys) ∧ ∀ l, H l = none → Q (.ref l) (upd H l (.lst ys))
theorem call_listK {X : Cx} : CallR X (.type "list") (rListOf X.K) := call_list_of
end L2
namespace FB
open PySem L2 PyProof.Rows
seal PSs PS PE PT PA
theorem nd_mx : (["_law_k", "_law_script"] : List Str).Nodup := by decide +kernel
theorem nd_cp : (["_law_entry"] : List Str).Nodup := by decide +kernel
def spMixed (K : PySem.W.Frag) : Sp := fun vs H Q _ => ∃ (a : Addr) (ns : List Int), vs = [.ref a] ∧ SqL K H a (ns.map V.int) ∧ ns.length ≤ 1000 ∧ ∀ p (ms : List Int) H', Same H H' → H' p = some (.lst (ms.map V.int)) → ms.length = ns.length → Q (.ref p) H'
def spCopy : Sp := fun vs H Q _ => ∃ (a : Addr) (es : List En), vs = [.ref a] ∧ ShAt H a es ∧ es.length ≤ 1000 ∧ ∀ p H', Same H H' → ShAt H' p es → Q (.ref p) H'
def spNewest (K : PySem.W.Frag) : Sp := fun vs H Q _ => ∃ (a : Addr) (v : V) (es : List En) (n : Nd), vs = [.ref a, v] ∧ ShAt H a es ∧ NdAt H v n ∧ es.length < 64 ∧
  ∀ p (ms : List Int) H', Same H H' → H' p = some (.lst (ms.map V.int)) → ms.Perm (metOf es n) → ms.Pairwise (· ≤ ·) → ∀ p', H' p' = none → Q (.ref p') (upd H' p' (.lst (ms.map V.int).reverse))
section
variable {P : Program} {w : World} {K : PySem.W.Frag} {mg : Str → Option Value} {base : Heap} {f : Addr} {fd : FuncData}
theorem scMx : FnScope ["_law_script"] ["_law_script"] (defScope sMixed) := ⟨rfl, rfl, rfl, by decide +kernel, rfl, by decide +kernel, by decide +kernel⟩
theorem ok_mixed (F : Fun K "_law_mixed" "_law_mixed" sMixed f fd) (T : Txt K mg) : FnOk P w K mg base CX0 1 f fd ["_law_script"] (spMixed K) := by
  refine F.ok scMx (fun vs H Q E h => ?_) (fun cdv A outer s H vs Q E hr h => ?_)
  · obtain ⟨a, ns, rfl, _⟩ := h
    rfl
  obtain ⟨a, ns, rfl, hS, hl, q⟩ := h
  refine ⟨_, pss_one (ps_ret (pe_comp (N' := ["_law_k", "_law_script"]) (n := 1) (js := [0]) rfl (CompS.one (c := s.heap.objs.size + 1) (y := "_law_script") rfl rfl (by decide +kernel) rfl (by decide +kernel) (by decide +kernel) rfl rfl rfl rfl rfl) (gk_name (by decide))
    (pi_range1 rfl T.range (pa_cons (pe_callB call_len_seq rfl T.len PySem.boot_len (pa_cons (pv 0) pa_nil)) pa_nil))
    (fun C s2 H2 fp => pg_name (i := 0) nd_mx rfl (Or.inl rfl)) (fun C s2 H2 fp => pts_nil)
    (fun C s2 H2 fp => pe_op op_mod (pe_op op_mul (pe_op op_add (pe_ix (r := rIxL K) ix_list (pv 1) (pv 0) (fun _ _ => rfl)) (pe_op op_mul pe_int (pv 0))) pe_int) pe_int))), ?_⟩
  have hlm : (ns.map V.int).length = ns.length := List.length_map _
  refine ⟨_, rfl, a, _, rfl, .inl hS, _, rfl, by rw [hlm]; omega, by rw [hlm]; omega, ?_⟩
  refine comp_range (fun D i ys H2 => ∃ ms : List Int, ys = ms.map V.int ∧ ms.length = i ∧ H2 D = some (.lst ys) ∧ Same H H2 ∧ H D = none) (fun D hD => ⟨[], rfl, rfl, upd_same, same_new hD _, hD⟩) (fun D i ys H2 hi ⟨ms, e1, e2, e3, e4, _⟩ => ⟨e3, ?_⟩) (fun D i ys H2 hi ⟨ms, e1, e2, e3, e4, e5⟩ => ?_) (fun D ys H2 ⟨ms, e1, e2, e3, e4, _⟩ => ?_)
  · rw [e1, List.length_map]
    exact small1000 (by rw [hlm] at hi; omega)
  · have hin : ((i : Nat) : Int) < (ns.length : Int) := by rw [hlm] at hi; omega
    obtain ⟨z, hz, _⟩ := at_ints (ns := ns) (i := 0 + (i : Int)) (by omega) (by omega)
    unfold gName tYes
    dsimp only
    rw [if_pos rfl]
    refine ⟨_, rfl, _, rfl, a, _, _, _, rfl, rfl, e4.seq hS, hz, _, rfl, _, _, rfl, rfl, .inl ⟨by decide, by decide⟩, _, _, rfl, rfl, _, _, rfl, rfl, .inr ⟨by decide, by decide⟩, _, _, rfl, rfl, (by show (0 : Int) < 1000003; decide), e3, ?_⟩
    exact ⟨ms ++ [_], by rw [e1, List.map_append]; rfl, by rw [List.length_append, e2]; rfl, upd_same, Same.upd e4 e5, e5⟩
  · exact q D ms H2 e4 (e1 ▸ e3) (by rw [e2, Int.toNat_natCast, hlm])
theorem scCp : FnScope ["_law_shelf"] ["_law_shelf"] (defScope sCopy) := ⟨rfl, rfl, rfl, by decide +kernel, rfl, by decide +kernel, by decide +kernel⟩
theorem ok_copy (F : Fun K "_law_copy_of" "_law_copy_of" sCopy f fd) (T : Txt K mg) : FnOk P w K mg base CX0 1 f fd ["_law_shelf"] spCopy := by
  refine F.ok scCp (fun vs H Q E h => ?_) (fun cdv A outer s H vs Q E hr h => ?_)
  · obtain ⟨a, es, rfl, _⟩ := h
    rfl
  obtain ⟨a, es, rfl, ⟨xs, hx, hp⟩, hl, q⟩ := h
  refine ⟨_, pss_one (ps_ret (pe_comp (N' := ["_law_entry"]) (n := 1) (js := []) rfl (CompS.closed (by decide +kernel) (by decide +kernel) rfl (by decide +kernel) rfl) (gk_name (by decide)) (pi_list (pv 0))
    (fun C s2 H2 fp => pg_name (i := 0) nd_cp rfl (Or.inl rfl)) (fun C s2 H2 fp => pts_nil)
    (fun C s2 H2 fp => pe_tup (pa_cons (pe_ix (r := rIxT K) ix_tup (pv 0) pe_int (fun _ _ => rfl)) (pa_cons (pe_ix (r := rIxT K) ix_tup (pv 0) pe_int (fun _ _ => rfl)) (pa_cons (pe_callTy (r := rListOf K) call_listK rfl T.list boot_list (pa_cons (pe_ix (r := rIxT K) ix_tup (pv 0) pe_int (fun _ _ => rfl)) pa_nil)) pa_nil)))))), ?_⟩
  have lx : xs.length = es.length := Paired.length hp
  refine ⟨_, rfl, a, rfl, ⟨xs, SqL.of hx⟩, ?_⟩
  refine comp_list (xs := xs) (fun D i ys H2 => Paired (EnAt (del H2 [D])) ys (es.take i) ∧ H2 D = some (.lst ys) ∧ Same H H2 ∧ H D = none) (fun D hD => ⟨by simpa using Paired.nil, upd_same, same_new hD _, hD⟩)
    (fun D i ys H2 hi ⟨e1, e2, e3, _⟩ => ⟨SqL.of (e3 _ _ hx), e2, ?_⟩) (fun D i x ys H2 hi ⟨e1, e2, e3, e4⟩ => ?_) (fun D ys H2 ⟨e1, e2, e3, e4⟩ => ?_)
  · rw [Paired.length e1, List.length_take]
    exact small1000 (by omega)
  · obtain ⟨e, he, q0, na, zs, rfl, h1, h2, h3⟩ := Paired.getR hp hi
    have g1 := e3 _ _ h1
    have g2 := e3 _ _ h2
    unfold gName tYes
    dsimp only
    rw [if_pos rfl]
    refine ⟨_, rfl, q0, _, _, _, rfl, rfl, SqT.of g1, rfl, _, rfl, q0, _, _, _, rfl, rfl, SqT.of g1, rfl, _, rfl, q0, _, _, _, rfl, rfl, SqT.of g1, rfl, na, _, rfl, .inl (SqL.of g2), fun l1 hl1 => ?_⟩
    have s1 : Same H2 (upd H2 l1 (.lst zs)) := same_new hl1 _
    refine ⟨(by show 3 ≤ sizeLine; decide), fun t1 ht1 => ?_⟩
    have s2 := s1.trans (same_new ht1 (.tup [.str e.1, .int e.2.1, .ref l1]))
    have nD1 : l1 ≠ D := Ne.symm (ne_of_none e2 hl1)
    have nD2 : t1 ≠ D := Ne.symm (ne_of_none (s1 _ _ e2) ht1)
    refine ⟨s2 _ _ e2, ?_, upd_same, Same.upd (e3.trans s2) e4, e4⟩
    have ht : es.take (i + 1) = es.take i ++ [e] := by rw [List.take_succ, he]; rfl
    rw [ht, del_upd (by simp)]
    refine Paired.snoc (Paired.mapP e1 fun _ _ z => EnAt.same (Same.del s2 [D]) z) ⟨t1, l1, zs, rfl, ?_, ?_, ?_⟩
    · rw [del_out (by simpa using nD2)]
      exact upd_same
    · rw [del_out (by simpa using nD1), upd_ne (Ne.symm (ne_of_none (o := .lst zs) upd_same ht1).symm)]
      exact upd_same
    · refine Paired.mapP h3 fun v n z => ?_
      obtain ⟨q1, hq1, hq2⟩ := z
      have hq3 := e3 _ _ hq2
      refine ⟨q1, hq1, ?_⟩
      rw [del_out (by simpa using ne_of hq3 e2 (by intro z; cases z))]
      exact s2 _ _ hq3
  · rw [lx, List.take_length] at e1
    exact q D H2 e3 ⟨ys, e2, Paired.mapP e1 fun _ _ z => EnAt.same (same_del _ _) z⟩
theorem scNw : FnScope ["_law_shelf", "_law_need", "_law_found", "_law_entry"] ["_law_shelf", "_law_need"] (defScope sNewest) := ⟨rfl, rfl, rfl, by decide +kernel, rfl, by decide +kernel, by decide +kernel⟩
theorem ok_newest {g : Addr} {gd : FuncData} (F : Fun K "_law_newest" "_law_newest" sNewest f fd) (T : Txt K mg) (G : FnOk P w K mg base CX0 1 g gd ["_law_need", "_law_version"] (spLMeets K)) (bG : Binds K gd ["_law_need", "_law_version"] []) (kG : PySem.W.keepIn K (.ref g) = true) (mG : mg "_law_meets" = some (.ref g)) :
    FnOk P w K mg base CX0 2 f fd ["_law_shelf", "_law_need"] (spNewest K) := by
  refine F.ok scNw (fun vs H Q E h => ?_) (fun cdv A outer s H vs Q E hr h => ?_)
  · obtain ⟨a, v, es, n, rfl, _⟩ := h
    rfl
  obtain ⟨a, v, es, n, rfl, ⟨xs, hx, hp⟩, hn, hl, q⟩ := h
  refine ⟨_, (pss_cons (ps_set (i := 2) scNw.nd rfl (Or.inl rfl) (pe_lst pa_nil))
    (pss_cons (ps_for PassesOwn.never rfl (pi_list (pv 0)) (pg_name (i := 3) scNw.nd rfl (Or.inl rfl))
      (pss_one (ps_if (PW.pt (pw_and (pt_cmpR op_eq (pe_ix ix_tup (pv 3) pe_int (fun _ _ => rfl)) (pe_ix ix_tup (pv 1) pe_int (fun _ _ => rfl)) (nomark _)) (pw_and1 (pt_val (pe_call G hr rfl mG kG bG .nil pass0 (pa_cons (pv 1) (pa_cons (pe_ix ix_tup (pv 3) pe_int (fun _ _ => rfl)) pa_nil)))))))
        (pss_one (ps_expr (pe_bm PySem.F.plainAttrs_list PySem.F.slot_list_append PySem.F.type_list_append mt_append (pv 2) (pa_cons (pe_ix ix_tup (pv 3) pe_int (fun _ _ => rfl)) pa_nil)))) pss_nil)))
    (pss_one (ps_ret (pe_revL rfl rfl T.list rfl T.rev (pe_callB call_sorted rfl T.sorted boot_sorted (pa_cons (pv 2) pa_nil))))))), ?_⟩
  have lx : xs.length = es.length := Paired.length hp
  obtain ⟨nq, rfl, hnq⟩ := hn
  refine ⟨(by show 0 ≤ sizeLine; decide), fun fo hfo => ?_⟩
  refine ⟨_, rfl, a, rfl, ⟨xs, SqL.of (same_new hfo _ _ _ hx)⟩, for_list (K := K) (a := a) (xs := xs) (fun i σ H2 => ∃ e, σ = [some (.ref a), some (.ref nq), some (.ref fo), e] ∧ Same H H2 ∧ H2 fo = some (.lst ((metOf (es.take i) n).map V.int)))
    ⟨none, rfl, same_new hfo _, by simpa [metOf] using upd_same⟩ (fun i σ H2 _ ⟨_, _, s2, _⟩ => SqL.of (s2 _ _ hx)) ?_ ?_⟩
  · rintro i x σ H2 hi ⟨o, rfl, s2, h2⟩
    obtain ⟨e, he, q0, na, zs, rfl, h3, h4, h5⟩ := Paired.getR hp hi
    have g1 := s2 _ _ h3
    have gn := s2 _ _ hnq
    have ht : es.take (i + 1) = es.take i ++ [e] := by rw [List.take_succ, he]; rfl
    have hsn := metOf_snoc (es.take i) e n
    rw [← ht] at hsn
    refine ⟨_, rfl, q0, _, _, _, rfl, rfl, SqT.of g1, rfl, _, rfl, nq, _, _, _, rfl, rfl, SqT.of gn, rfl, rfl, _, rfl, ?_⟩
    rw [dec_str_iff]
    refine ite2 (fun c => ?_) (fun c => ?_)
    · refine ⟨_, rfl, _, rfl, q0, _, _, _, rfl, rfl, SqT.of g1, rfl, .ref nq, n, e.2.1, rfl, ⟨nq, rfl, gn⟩, _, rfl, ?_⟩
      refine ite2 (fun c2 => ?_) (fun c2 => ?_)
      · have hm : meetsB n e = true := by unfold meetsB; rw [c, c2]; rfl
        rw [if_pos hm] at hsn
        refine ⟨_, rfl, .inl ⟨rfl, _, SqL.of h2⟩, _, rfl, q0, _, _, _, rfl, rfl, SqT.of g1, rfl, fo, _, _, rfl, rfl, h2, ?_, ?_⟩
        · rw [List.length_map]
          have := metOf_length (es.take i) n
          rw [List.length_take] at this
          exact small1000 (by omega)
        · refine ⟨_, rfl, Same.upd s2 hfo, ?_⟩
          rw [upd_same, hsn, List.map_append]
          rfl
      · have hm : ¬ meetsB n e = true := by unfold meetsB; rw [c, Bool.true_and]; exact c2
        rw [if_neg hm] at hsn
        exact ⟨_, rfl, s2, by rw [hsn]; exact h2⟩
    · have hm : ¬ meetsB n e = true := by unfold meetsB; rw [Bool.eq_false_iff.mpr c]; simp
      rw [if_neg hm] at hsn
      exact iteF ⟨_, rfl, s2, by rw [hsn]; exact h2⟩
  · rintro σ H2 ⟨o, rfl, s2, h2⟩
    rw [lx, List.take_length] at h2
    have hml := metOf_length es n
    refine ⟨_, rfl, fo, _, rfl, SqL.of h2, by omega, fun p ms hp1 hpm hps => ?_⟩
    refine ⟨p, _, rfl, SqL.of upd_same, fun p' hp' => ?_⟩
    exact q p ms _ (s2.trans (same_new hp1 _)) upd_same hpm hps p' hp'
end
end FB
namespace FB
open PySem L2 PyProof.Rows
seal PSs PS PE PT PA
def spStartBy (K : PySem.W.Frag) : Sp := fun vs H Q _ => ∃ (a : Addr) (ns : List Int), vs = [.ref a] ∧ SqL K H a (ns.map V.int) ∧ ns.length ≤ 63 ∧
  ∀ p (sn : List Nd) H', Same H H' → NdsAt H' p sn → (∀ n ∈ sn, PartOk n.1) → sn.length ≤ ns.length → Q (.ref p) H'
def spNeedsIn : Sp := fun vs H Q _ => ∃ (a : Addr) (v : V) (es : List En) (k : Pk), vs = [.ref a, v] ∧ ShAt H a es ∧ PkAt H v k ∧ (es.map keyOf).Nodup ∧
  (∀ e ∈ es, keyOf e = k → ∀ na zs, H na = some (.lst zs) → Paired (NdAt H) zs e.2.2 → Q (.ref na) H) ∧ (k ∉ es.map keyOf → Q .non H)
theorem nd_stb : (["_law_cell"] : List Str).Nodup := by decide +kernel
section
variable {P : Program} {w : World} {K : PySem.W.Frag} {mg : Str → Option Value} {base : Heap} {f : Addr} {fd : FuncData}
theorem scStB : FnScope ["_law_cells"] ["_law_cells"] (defScope sStartBy) := ⟨rfl, rfl, rfl, by decide +kernel, rfl, by decide +kernel, by decide +kernel⟩
theorem ok_startBy {g : Addr} {gd : FuncData} (F : Fun K "_law_start_by" "_law_start_by" sStartBy f fd) (G : FnOk P w K mg base CX0 2 g gd ["_law_cell"] spNeed) (bG : Binds K gd ["_law_cell"] []) (kG : PySem.W.keepIn K (.ref g) = true) (mG : mg "_law_need_by" = some (.ref g)) :
    FnOk P w K mg base CX0 3 f fd ["_law_cells"] (spStartBy K) := by
  refine F.ok scStB (fun vs H Q E h => ?_) (fun cdv A outer s H vs Q E hr h => ?_)
  · obtain ⟨a, ns, rfl, _⟩ := h
    rfl
  obtain ⟨a, ns, rfl, hS, hl, q⟩ := h
  refine ⟨_, pss_one (ps_ret (pe_comp (N' := ["_law_cell"]) (n := 1) (js := []) rfl (CompS.closed (by decide +kernel) (by decide +kernel) rfl (by decide +kernel) rfl) (gk_name (by decide)) (pi_list (pv 0))
    (fun C s2 H2 fp => pg_name (i := 0) nd_stb rfl (Or.inl rfl)) (fun C s2 H2 fp => pts_nil)
    (fun C s2 H2 fp => pe_call G hr rfl mG kG bG .nil pass0 (pa_cons (pe_op op_add (pe_op op_fdiv (pv 0) pe_int) pe_int) pa_nil)))), ?_⟩
  have lm : (ns.map V.int).length = ns.length := List.length_map _
  refine ⟨_, rfl, a, rfl, ⟨_, hS⟩, ?_⟩
  refine comp_list (xs := ns.map V.int) (fun D i ys H2 => ∃ sn : List Nd, Paired (NdAt (del H2 [D])) ys sn ∧ (∀ n ∈ sn, PartOk n.1) ∧ sn.length ≤ i ∧ H2 D = some (.lst ys) ∧ Same H H2 ∧ H D = none) (fun D hD => ⟨[], .nil, by simp, Nat.le_refl _, upd_same, same_new hD _, hD⟩)
    (fun D i ys H2 hi ⟨sn, e1, e2, e3, e4, e5, e6⟩ => ⟨e5.seq hS, e4, ?_⟩) (fun D i x ys H2 hi ⟨sn, e1, e2, e3, e4, e5, e6⟩ => ?_) (fun D ys H2 ⟨sn, e1, e2, e3, e4, e5, e6⟩ => ?_)
  · rw [Paired.length e1]
    exact small1000 (by omega)
  · rw [List.getElem?_map] at hi
    obtain ⟨c, hc, rfl⟩ := Option.map_eq_some_iff.mp hi
    unfold gName tYes
    dsimp only
    rw [if_pos rfl]
    refine ⟨_, rfl, _, _, rfl, rfl, ⟨by decide, by decide⟩, _, _, rfl, rfl, _, rfl, fun q0 n H3 s3 hq0 hq1 hn => ?_⟩
    have nD : q0 ≠ D := Ne.symm (ne_of_none e4 hq0)
    refine ⟨s3 _ _ e4, sn ++ [n], ?_, fun m hm => ?_, by rw [List.length_append, List.length_singleton]; omega, upd_same, Same.upd (e5.trans s3) e6, e6⟩
    · rw [del_upd (by simp)]
      refine Paired.snoc (Paired.mapP e1 fun _ _ y => NdAt.same (Same.del s3 _) y) ⟨q0, rfl, ?_⟩
      rw [del_out (by simpa using nD)]
      exact hq1
    · rcases List.mem_append.mp hm with y | y
      · exact e2 m y
      · rw [List.mem_singleton.mp y]; exact hn
  · rw [lm] at e3
    exact q D sn H2 e5 ⟨ys, e4, Paired.mapP e1 fun _ _ z => NdAt.same (same_del _ _) z⟩ e2 e3
theorem scNi : FnScope ["_law_shelf", "_law_pick", "_law_entry"] ["_law_shelf", "_law_pick"] (defScope sNeedsIn) := ⟨rfl, rfl, rfl, by decide +kernel, rfl, by decide +kernel, by decide +kernel⟩
theorem ok_needsIn (F : Fun K "_law_needs_in" "_law_needs_in" sNeedsIn f fd) : FnOk P w K mg base CX0 1 f fd ["_law_shelf", "_law_pick"] spNeedsIn := by
  refine F.ok scNi (fun vs H Q E h => ?_) (fun cdv A outer s H vs Q E hr h => ?_)
  · obtain ⟨a, v, es, k, rfl, _⟩ := h
    rfl
  obtain ⟨a, v, es, k, rfl, ⟨xs, hx, hp⟩, ⟨kq, rfl, hk⟩, hnd, q1, q2⟩ := h
  refine ⟨_, (pss_cons (ps_for PassesOwn.never rfl (pi_list (pv 0)) (pg_name (i := 2) scNi.nd rfl (Or.inl rfl))
      (pss_one (ps_if (PW.pt (pw_and (pt_cmpR op_eq (pe_ix ix_tup (pv 2) pe_int (fun _ _ => rfl)) (pe_ix ix_tup (pv 1) pe_int (fun _ _ => rfl)) (nomark _)) (pw_and1 (pt_cmpR op_eq (pe_ix ix_tup (pv 2) pe_int (fun _ _ => rfl)) (pe_ix ix_tup (pv 1) pe_int (fun _ _ => rfl)) (nomark _)))))
        (pss_one (ps_ret (pe_ix ix_tup (pv 2) pe_int (fun _ _ => rfl)))) pss_nil)))
    (pss_one (ps_ret pe_non))), ?_⟩
  have lx : xs.length = es.length := Paired.length hp
  refine ⟨_, rfl, a, rfl, ⟨xs, SqL.of hx⟩, for_list (K := K) (a := a) (xs := xs) (fun i σ H2 => ∃ o, σ = [some (.ref a), some (.ref kq), o] ∧ H2 = H ∧ k ∉ (es.take i).map keyOf)
    ⟨none, rfl, rfl, by simp⟩ (fun i σ H2 _ ⟨_, _, e, _⟩ => e ▸ SqL.of hx) ?_ ?_⟩
  · rintro i x σ H2 hi ⟨o, rfl, rfl, hno⟩
    obtain ⟨e, he, q0, na, zs, rfl, h3, h4, h5⟩ := Paired.getR hp hi
    have ht : es.take (i + 1) = es.take i ++ [e] := by rw [List.take_succ, he]; rfl
    have step : ¬ keyOf e = k → k ∉ (es.take (i + 1)).map keyOf := fun hne hm => by
      rw [ht, List.map_append] at hm
      rcases List.mem_append.mp hm with y | y
      · exact hno y
      · rw [List.map_cons, List.map_nil, List.mem_singleton] at y
        exact hne y.symm
    refine ⟨_, rfl, q0, _, _, _, rfl, rfl, SqT.of h3, rfl, _, rfl, kq, _, _, _, rfl, rfl, SqT.of hk, rfl, rfl, _, rfl, ?_⟩
    rw [dec_str_iff]
    refine ite2 (fun c => ?_) (fun c => ?_)
    · refine ⟨_, rfl, q0, _, _, _, rfl, rfl, SqT.of h3, rfl, _, rfl, kq, _, _, _, rfl, rfl, SqT.of hk, rfl, rfl, _, rfl, ?_⟩
      refine ite2 (fun c2 => ?_) (fun c2 => ?_)
      · have hk1 : e.1 = k.1 := of_decide_eq_true c
        have hk2 : e.2.1 = k.2 := V.int.inj (of_decide_eq_true c2)
        exact ⟨_, rfl, q0, _, _, _, rfl, rfl, SqT.of h3, rfl, q1 e (List.mem_of_getElem? he) (Prod.ext hk1 hk2) na zs h4 h5⟩
      · refine ⟨_, rfl, rfl, step fun z => c2 (decide_eq_true ?_)⟩
        rw [← z]; rfl
    · refine iteF ⟨_, rfl, rfl, step fun z => c (decide_eq_true ?_)⟩
      rw [← z]; rfl
  · rintro σ H2 ⟨o, rfl, rfl, hno⟩
    rw [lx, List.take_length] at hno
    exact q2 hno
end
end FB
namespace FB
open PySem L2 PyProof.Rows
theorem eqv_pk (k j : Str × Int) : PyData.eqv (pkD k) (pkD j) = decide (k = j) := by
  obtain ⟨a, b⟩ := k
  obtain ⟨c, d⟩ := j
  have e : PyData.eqv (pkD (a, b)) (pkD (c, d)) = ((a == c) && ((b == d) && true)) := by
    simp [pkD, PyData.eqv, PyData.eqvAll]
  rw [e, Bool.and_true]
  by_cases h1 : a = c
  · subst h1
    by_cases h2 : b = d
    · subst h2
      rw [decide_eq_true rfl]; simp
    · rw [decide_eq_false (fun z => h2 (Prod.mk.inj z).2)]
      simp [h2]
  · rw [decide_eq_false (fun z => h1 (Prod.mk.inj z).1)]
    have b1 : (a == c) = false := beq_false_of_ne h1
    rw [b1, Bool.false_and]
theorem any_pk (k : Str × Int) : ∀ ks : List (Str × Int), ((ks.map pkD).any fun z => PyData.eqv z (pkD k)) = decide (k ∈ ks)
  | [] => by simp
  | j :: ks => by
    rw [List.map_cons, List.any_cons, eqv_pk, any_pk k ks]
    by_cases h : j = k
    · subst h
      simp
    · rw [decide_eq_false h, Bool.false_or]
      have : (k ∈ j :: ks) ↔ k ∈ ks := by
        rw [List.mem_cons]
        exact ⟨fun z => z.resolve_left fun y => h y.symm, .inr⟩
      simp only [this]
theorem pk_lay {k : Str × Int} (h : PartOk k.1) : (pkD k).canLay0 = true ∧ (pkD k).depth ≤ 60 := by
  have z := okD_lay 1 (pkD k) (by simp [pkD, okD, h.ok])
  exact ⟨z.1, by omega⟩
theorem pks_lay : ∀ {ks : List (Str × Int)}, (∀ k ∈ ks, PartOk k.1) → PyData.canLayAll0 (ks.map pkD) = true
  | [], _ => rfl
  | k :: ks, h => by
    rw [List.map_cons, PyData.canLayAll0, (pk_lay (h k (by simp))).1, pks_lay fun j hj => h j (by simp [hj])]
    rfl
end FB
namespace FB
open PySem L2 PyProof.Rows
seal PSs PS PE PT PA
def four : List Str := ["ashenashenashen", "as", "", "ashenashxnashen"]
theorem parts4 {v : V} (hv : v ∈ [V.str "as", V.str "ashenashenashen", V.str "ashenashxnashen", V.str ""]) : ∃ x, v = .str x ∧ PartOk x ∧ x ∈ four := by
  simp only [List.mem_cons, List.not_mem_nil, or_false] at hv
  rcases hv with rfl | rfl | rfl | rfl
  · exact ⟨_, rfl, part2, by unfold four; simp⟩
  · exact ⟨_, rfl, part1, by unfold four; simp⟩
  · exact ⟨_, rfl, part4, by unfold four; simp⟩
  · exact ⟨_, rfl, part3, by unfold four; simp⟩
def spShelf (K : PySem.W.Frag) : Sp := fun vs H Q _ => ∃ (a : Addr) (ns : List Int), vs = [.ref a] ∧ SqL K H a (ns.map V.int) ∧ ns.length ≤ 63 ∧
  ∀ p (es : List En) xs H', Same H H' → H p = none → H' p = some (.lst xs) → Paired (EnAt (del H' [p])) xs es → (es.map keyOf).Nodup → (∀ e ∈ es, EnOk e) → es.length ≤ ns.length → (∀ e ∈ es, e.1 ∈ four) → Q (.ref p) H'
structure ShI (H : Hp) (a p t : Addr) (i : Nat) (σ : L2.St) (H2 : Hp) : Prop where
  ex : ∃ (es : List En) (xs ys : List V) (o3 o4 o5 o6 o7 o8 : Option V), σ = [some (.ref a), some (.ref p), some (.ref t), o3, o4, o5, o6, o7, o8] ∧ H2 p = some (.lst xs) ∧ H2 t = some (.lst ys) ∧ Paired (EnAt (del H2 [p, t])) xs es ∧ Paired (PkAt (del H2 [p, t])) ys (es.map keyOf) ∧
    (es.map keyOf).Nodup ∧ (∀ e ∈ es, EnOk e ∧ e.1 ∈ four) ∧ es.length ≤ i
  sm : Same H H2
structure NdI (Hb : Hp) (p t nd : Addr) (σ0 : Option V → L2.St) (j : Nat) (σ : L2.St) (H6 : Hp) : Prop where
  ex : ∃ (zs : List V) (nds : List Nd) (o8 : Option V), σ = σ0 o8 ∧ H6 nd = some (.lst zs) ∧ Paired (NdAt (del H6 [p, t, nd])) zs nds ∧ (∀ n ∈ nds, PartOk n.1) ∧ nds.length ≤ j
  sm : Same Hb H6
section
variable {P : Program} {w : World} {K : PySem.W.Frag} {mg : Str → Option Value} {base : Heap} {f : Addr} {fd : FuncData}
theorem scSh : FnScope ["_law_cells", "_law_shelf", "_law_there", "_law_k", "_law_cell", "_law_part", "_law_pick", "_law_needs", "_law_j"] ["_law_cells"] (defScope sShelf) := ⟨rfl, rfl, rfl, by decide +kernel, rfl, by decide +kernel, by decide +kernel⟩
theorem ok_shelf {g g2 : Addr} {gd gd2 : FuncData} (F : Fun K "_law_shelf_by" "_law_shelf_by" sShelf f fd) (T : Txt K mg) (G : FnOk P w K mg base CX0 1 g gd ["_law_cell"] spVer) (bG : Binds K gd ["_law_cell"] []) (kG : PySem.W.keepIn K (.ref g) = true) (mG : mg "_law_version_by" = some (.ref g))
    (G2 : FnOk P w K mg base CX0 2 g2 gd2 ["_law_cell"] spNeed) (bG2 : Binds K gd2 ["_law_cell"] []) (kG2 : PySem.W.keepIn K (.ref g2) = true) (mG2 : mg "_law_need_by" = some (.ref g2)) :
    FnOk P w K mg base CX0 3 f fd ["_law_cells"] (spShelf K) := by
  refine F.ok scSh (fun vs H Q E h => ?_) (fun cdv A outer s H vs Q E hr h => ?_)
  · obtain ⟨a, ns, rfl, _⟩ := h
    rfl
  obtain ⟨a, ns, rfl, hS, hl, q⟩ := h
  have hr1 : Room 1 _ := hr.mono (by decide)
  refine ⟨_, (pss_cons (ps_set (i := 1) scSh.nd rfl (Or.inl rfl) (pe_lst pa_nil))
    (pss_cons (ps_set (i := 2) scSh.nd rfl (Or.inl rfl) (pe_lst pa_nil))
    (pss_cons (ps_for PassesOwn.never rfl (pi_range1 rfl T.range (pa_cons (pe_callB call_len_seq rfl T.len PySem.boot_len (pa_cons (pv 0) pa_nil)) pa_nil)) (pg_name (i := 3) scSh.nd rfl (Or.inl rfl))
      (pss_cons (ps_set (i := 4) scSh.nd rfl (Or.inl rfl) (pe_ix ix_list (pv 0) (pv 3) (fun _ _ => rfl)))
      (pss_cons (ps_set (i := 5) scSh.nd rfl (Or.inl rfl) (pe_ix ix_list (pe_lst (pa_cons pe_str (pa_cons pe_str (pa_cons pe_str (pa_cons pe_str pa_nil))))) (pe_op op_mod (pe_op op_add (pv 4) (pv 3)) pe_int) (fun _ _ => rfl)))
      (pss_cons (ps_set (i := 6) scSh.nd rfl (Or.inl rfl) (pe_tup (pa_cons (pv 5) (pa_cons (pe_call G hr1 rfl mG kG bG .nil pass0 (pa_cons (pe_op op_add (pe_op op_fdiv (pv 4) pe_int) (pe_op op_fdiv (pv 3) pe_int)) pa_nil)) pa_nil))))
      (pss_cons (ps_set (i := 7) scSh.nd rfl (Or.inl rfl) (pe_lst pa_nil))
      (pss_cons (ps_for PassesOwn.never rfl (pi_range1 rfl T.range (pa_cons (pe_ix ix_list (pe_lst (pa_cons pe_int (pa_cons pe_int (pa_cons pe_int (pa_cons pe_int (pa_cons pe_int (pa_cons pe_int (pa_cons pe_int (pa_cons pe_int (pa_cons pe_int (pa_cons pe_int pa_nil))))))))))) (pe_op op_mod (pe_op op_fdiv (pv 4) pe_int) pe_int) (fun _ _ => rfl)) pa_nil)) (pg_name (i := 8) scSh.nd rfl (Or.inl rfl))
        (pss_one (ps_expr (pe_bm PySem.F.plainAttrs_list PySem.F.slot_list_append PySem.F.type_list_append mt_append (pv 7) (pa_cons (pe_call G2 hr rfl mG2 kG2 bG2 .nil pass0 (pa_cons (pe_op op_add (pe_op op_add (pe_op op_fdiv (pv 4) pe_int) (pe_op op_mul pe_int (pv 8))) (pe_op op_mul pe_int (pv 3))) pa_nil)) pa_nil)))))
      (pss_one (ps_if (pt_cmpR (op_notInD hr.units) (pv 6) (pv 2) (by with_unfolding_all rfl))
        (pss_cons (ps_expr (pe_bm PySem.F.plainAttrs_list PySem.F.slot_list_append PySem.F.type_list_append mt_append (pv 2) (pa_cons (pv 6) pa_nil)))
        (pss_one (ps_expr (pe_bm PySem.F.plainAttrs_list PySem.F.slot_list_append PySem.F.type_list_append mt_append (pv 1) (pa_cons (pe_tup (pa_cons (pe_ix ix_tup (pv 6) pe_int (fun _ _ => rfl)) (pa_cons (pe_ix ix_tup (pv 6) pe_int (fun _ _ => rfl)) (pa_cons (pv 7) pa_nil)))) pa_nil)))))
        pss_nil))))))))
    (pss_one (ps_ret (pv 1)))))), ?_⟩
  have hlm : (ns.map V.int).length = ns.length := List.length_map _
  refine ⟨(by show 0 ≤ sizeLine; decide), fun p hp => ⟨(by show 0 ≤ sizeLine; decide), fun t ht => ?_⟩⟩
  have s1 : Same H (upd H p (.lst [])) := same_new hp _
  have npt : p ≠ t := ne_of_none (o := .lst []) upd_same ht
  have htH : H t = none := s1.free ht
  have s2 : Same H (upd (upd H p (.lst [])) t (.lst [])) := s1.trans (same_new ht _)
  refine ⟨_, rfl, a, _, rfl, .inl (s2.seq hS), _, rfl, by rw [hlm]; omega, by rw [hlm]; omega, ?_⟩
  refine for_range (fun i σ H2 => ShI H a p t i σ H2) ⟨⟨[], [], [], none, none, none, none, none, none, rfl, by rw [upd_ne npt]; exact upd_same, upd_same, .nil, .nil, List.nodup_nil, by simp, Nat.le_refl _⟩, s2⟩ ?_ ?_
  · rintro i σ H2 hi ⟨⟨es, xs, ys, o3, o4, o5, o6, o7, o8, rfl, h2p, h2t, hes, hys, hnd, hok, hlen⟩, sm⟩
    have hin : ((i : Nat) : Int) < (ns.length : Int) := by rw [hlm, Int.toNat_natCast] at hi; omega
    have hin' : i < ns.length := by omega
    obtain ⟨c, hc, _⟩ := at_ints (ns := ns) (i := 0 + (i : Int)) (by omega) (by omega)
    -- cell, part
    refine ⟨_, rfl, _, rfl, a, _, _, _, rfl, rfl, sm.seq hS, hc, ?_⟩
    refine ⟨(by show 4 ≤ sizeLine; decide), fun l1 hl1 => ?_⟩
    obtain ⟨v, hv, hm⟩ := at_any (xs := [.str "as", .str "ashenashenashen", .str "ashenashxnashen", .str ""]) (i := (c + (0 + (i : Int))) % 4) (Int.emod_nonneg _ (by decide)) (Int.emod_lt_of_pos _ (by decide))
    obtain ⟨x, rfl, hx, hx4⟩ := parts4 hm
    refine ⟨_, rfl, _, rfl, _, _, rfl, rfl, _, _, rfl, rfl, (by show (0 : Int) < 4; decide), l1, _, _, _, rfl, rfl, SqL.of upd_same, hv, ?_⟩
    have sa := same_new hl1 (.lst [.str "as", .str "ashenashenashen", .str "ashenashxnashen", .str ""])
    -- pick
    refine ⟨_, rfl, _, rfl, _, _, rfl, rfl, ⟨by decide, by decide⟩, _, rfl, _, _, rfl, rfl, ⟨by decide, by decide⟩, _, _, rfl, rfl, _, rfl, fun z H3 s3 => ⟨(by show 2 ≤ sizeLine; decide), fun pk hpk => ?_⟩⟩
    have sb : Same H2 (upd H3 pk (.tup [.str x, .int z])) := (sa.trans s3).trans (same_new hpk _)
    generalize hHb : upd H3 pk (.tup [.str x, .int z]) = Hb at sb
    have hbk : Hb pk = some (.tup [.str x, .int z]) := by rw [← hHb]; exact upd_same
    have hbp := sb _ _ h2p
    have hbt := sb _ _ h2t
    -- needs
    refine ⟨(by show 0 ≤ sizeLine; decide), fun nd hnd' => ?_⟩
    have nnp : nd ≠ p := Ne.symm (ne_of_none hbp hnd')
    have nnt : nd ≠ t := Ne.symm (ne_of_none hbt hnd')
    refine ⟨(by show 10 ≤ sizeLine; decide), fun l2 hl2 => ?_⟩
    obtain ⟨jn, hj, hjm⟩ := at_ints (ns := [0, 1, 2, 0, 1, 2, 0, 1, 2, 4]) (i := c / 12 % 10) (Int.emod_nonneg _ (by decide)) (Int.emod_lt_of_pos _ (by decide))
    have hjb : 0 ≤ jn ∧ jn ≤ 4 := by
      simp only [List.mem_cons, List.not_mem_nil, or_false] at hjm
      omega
    refine ⟨_, rfl, _, _, rfl, rfl, ⟨by decide, by decide⟩, _, _, rfl, rfl, (by show (0 : Int) < 10; decide), l2, _, _, _, rfl, rfl, SqL.of upd_same, hj, jn, rfl, by omega, by omega, ?_⟩
    have sd : Same Hb (upd (upd Hb nd (.lst [])) l2 (.lst [.int 0, .int 1, .int 2, .int 0, .int 1, .int 2, .int 0, .int 1, .int 2, .int 4])) := (same_new hnd' _).trans (same_new hl2 _)
    refine for_range (fun j σ H6 => NdI Hb p t nd (fun o8 => [some (.ref a), some (.ref p), some (.ref t), some (.int (0 + (i : Int))), some (.int c), some (.str x), some (.ref pk), some (.ref nd), o8]) j σ H6)
      ⟨⟨[], [], o8, rfl, by rw [upd_ne (ne_of_none (o := .lst []) upd_same hl2)]; exact upd_same, .nil, by simp, Nat.le_refl _⟩, sd⟩ ?_ ?_
    · rintro j σ H6 hjj ⟨⟨zs, nds, o8', rfl, h6n, hzs, hpn, hnl⟩, s6⟩
      refine ⟨_, rfl, .inl ⟨rfl, _, SqL.of h6n⟩, _, rfl, _, _, rfl, rfl, ⟨by decide, by decide⟩, _, rfl, _, _, rfl, rfl, .inl ⟨by decide, by decide⟩, _, _, rfl, rfl, _, rfl, _, _, rfl, rfl, .inl ⟨by decide, by decide⟩, _, _, rfl, rfl, _, rfl, fun q0 n H7 s7 hq0 hq1 hn => ?_⟩
      have lz := Paired.length hzs
      refine ⟨nd, _, _, rfl, rfl, s7 _ _ h6n, small1000 (by omega), ⟨zs ++ [.ref q0], nds ++ [n], _, rfl, upd_same, ?_, ?_, by rw [List.length_append, List.length_singleton]; omega⟩, Same.upd (s6.trans s7) hnd'⟩
      · rw [del_upd (by simp)]
        refine Paired.snoc (Paired.mapP hzs fun _ _ y => NdAt.same (Same.del s7 _) y) ⟨q0, rfl, ?_⟩
        rw [del_out]
        · exact hq1
        · simp only [List.mem_cons, List.not_mem_nil, or_false, not_or]
          exact ⟨Ne.symm (ne_of_none (s6 _ _ hbp) hq0), Ne.symm (ne_of_none (s6 _ _ hbt) hq0), Ne.symm (ne_of_none h6n hq0)⟩
      · intro m hm
        rcases List.mem_append.mp hm with y | y
        · exact hpn m y
        · rw [List.mem_singleton.mp y]; exact hn
    · rintro σ H6 ⟨⟨zs, nds, o8', rfl, h6n, hzs, hpn, hnl⟩, s6⟩
      have h6p := s6 _ _ hbp
      have h6t := s6 _ _ hbt
      have h6k := s6 _ _ hbk
      have s26 : Same H2 H6 := sb.trans s6
      have npk : pk ≠ p := Ne.symm (ne_of h6p h6k (by intro y; cases y))
      have ntk : pk ≠ t := Ne.symm (ne_of h6t h6k (by intro y; cases y))
      have hys6 : Paired (PkAt H6) ys (es.map keyOf) := Paired.mapP hys fun _ _ y => PkAt.same ((Same.del s26 _).trans (same_del _ _)) y
      have hks : ∀ k ∈ es.map keyOf, PartOk k.1 := fun k hk => by
        obtain ⟨e, he, rfl⟩ := List.mem_map.mp hk
        exact (hok e he).1.pt
      refine ⟨_, rfl, _, rfl, pkD (x, z), (es.map keyOf).map pkD, PkAt.rep ⟨pk, rfl, h6k⟩, .lst h6t (reps_of (fun _ _ y => PkAt.rep y) hys6), (pk_lay hx).1, pks_lay hks, (pk_lay hx).2, _, rfl, ?_⟩
      rw [any_pk]
      refine ite2 (fun hc2 => ?_) (fun hc2 => ?_)
      · have hnot : ¬ (x, z) ∈ es.map keyOf := by
          intro y
          rw [decide_eq_true y] at hc2
          exact absurd hc2 (by decide)
        have ly := Paired.length hys
        have lx := Paired.length hes
        rw [List.length_map] at ly
        refine ⟨_, rfl, .inl ⟨rfl, _, SqL.of h6t⟩, _, rfl, t, _, _, rfl, rfl, h6t, small1000 (by omega), ?_⟩
        generalize hH7 : upd H6 t (.lst (ys ++ [.ref pk])) = H7
        have h7p : H7 p = some (.lst xs) := by rw [← hH7, upd_ne npt]; exact h6p
        have h7k : H7 pk = some (.tup [.str x, .int z]) := by rw [← hH7, upd_ne ntk]; exact h6k
        have h7n : H7 nd = some (.lst zs) := by rw [← hH7, upd_ne nnt]; exact h6n
        have h7t : H7 t = some (.lst (ys ++ [.ref pk])) := by rw [← hH7]; exact upd_same
        refine ⟨_, rfl, .inl ⟨rfl, _, SqL.of h7p⟩, _, rfl, pk, _, _, _, rfl, rfl, SqT.of h7k, rfl, _, rfl, pk, _, _, _, rfl, rfl, SqT.of h7k, rfl, _, rfl, (by show 3 ≤ sizeLine; decide), fun en hen => ?_⟩
        have s8 := same_new hen (.tup [.str x, .int z, .ref nd])
        have nep : en ≠ p := Ne.symm (ne_of_none h7p hen)
        have net : en ≠ t := Ne.symm (ne_of_none h7t hen)
        refine ⟨p, xs, _, rfl, rfl, s8 _ _ h7p, small1000 (by omega), ?_⟩
        have d9 : del (upd (upd H7 en (.tup [.str x, .int z, .ref nd])) p (.lst (xs ++ [.ref en]))) [p, t] = del (upd H7 en (.tup [.str x, .int z, .ref nd])) [p, t] := del_upd (by simp)
        have d7 : del H7 [p, t] = del H6 [p, t] := by rw [← hH7]; exact del_upd (by simp)
        have sd8 : Same (del H2 [p, t]) (del (upd H7 en (.tup [.str x, .int z, .ref nd])) [p, t]) := (Same.del s26 _).trans (d7 ▸ Same.del s8 _)
        refine ⟨⟨es ++ [(x, z, nds)], xs ++ [.ref en], ys ++ [.ref pk], _, _, _, _, _, _, rfl, upd_same, ?_, ?_, ?_, ?_, ?_, by rw [List.length_append, List.length_singleton]; omega⟩, ?_⟩
        · rw [upd_ne (Ne.symm npt)]
          exact s8 _ _ h7t
        · rw [d9]
          refine Paired.snoc (Paired.mapP hes fun _ _ y => EnAt.same sd8 y) ⟨en, nd, zs, rfl, ?_, ?_, ?_⟩
          · rw [del_out (by simp only [List.mem_cons, List.not_mem_nil, or_false, not_or]; exact ⟨nep, net⟩)]
            exact upd_same
          · rw [del_out (by simp only [List.mem_cons, List.not_mem_nil, or_false, not_or]; exact ⟨nnp, nnt⟩)]
            exact s8 _ _ h7n
          · refine Paired.mapP hzs fun _ m y => NdAt.same (fun b o hb => ?_) y
            have nb : b ∉ [p, t, nd] := fun y => by rw [del_in y] at hb; cases hb
            rw [del_out nb] at hb
            simp only [List.mem_cons, List.not_mem_nil, or_false, not_or] at nb
            rw [del_out (by simp only [List.mem_cons, List.not_mem_nil, or_false, not_or]; exact ⟨nb.1, nb.2.1⟩)]
            refine s8 _ _ ?_
            rw [← hH7, upd_ne nb.2.1]
            exact hb
        · rw [d9, List.map_append]
          refine Paired.snoc (Paired.mapP hys fun _ _ y => PkAt.same sd8 y) ⟨pk, rfl, ?_⟩
          rw [del_out (by simp only [List.mem_cons, List.not_mem_nil, or_false, not_or]; exact ⟨npk, ntk⟩)]
          exact s8 _ _ h7k
        · rw [List.map_append]
          exact nd_snoc hnd hnot
        · intro e he
          rcases List.mem_append.mp he with y | y
          · exact hok e y
          · rw [List.mem_singleton.mp y]
            exact ⟨⟨hx, hpn, by show nds.length ≤ 100; omega⟩, hx4⟩
        · have s7' : Same H H7 := by rw [← hH7]; exact Same.upd (sm.trans s26) htH
          exact Same.upd (s7'.trans s8) hp
      · exact ⟨⟨es, xs, ys, _, _, _, _, _, _, rfl, h6p, h6t, Paired.mapP hes fun _ _ y => EnAt.same (Same.del s26 _) y, Paired.mapP hys fun _ _ y => PkAt.same (Same.del s26 _) y, hnd, hok, by omega⟩, sm.trans s26⟩
  · rintro σ H2 ⟨⟨es, xs, ys, o3, o4, o5, o6, o7, o8, rfl, h2p, h2t, hes, hys, hnd, hok, hlen⟩, sm⟩
    refine ⟨_, rfl, q p es xs H2 sm hp h2p (Paired.mapP hes fun _ _ y => EnAt.same (fun b o hb => ?_) y) hnd (fun e he => (hok e he).1) (by rw [hlm, Int.toNat_natCast] at hlen; exact hlen) (fun e he => (hok e he).2)⟩
    have nb : b ∉ [p, t] := fun y => by rw [del_in y] at hb; cases hb
    rw [del_out nb] at hb
    simp only [List.mem_cons, List.not_mem_nil, or_false, not_or] at nb
    rw [del_out (by simpa using nb.1)]
    exact hb
end
end FB
namespace FB
open PySem L2 PyProof.Rows
seal PSs PS PE PT PA
def spAtF (K : PySem.W.Frag) : Sp := fun vs H Q _ => ∃ (a : Addr) (ns : List Int) (k : Nat), vs = [.ref a, .int k] ∧ SqL K H a (ns.map V.int) ∧ Q (.int (ns.getD k 0)) H
def spNewF : Sp := fun vs H Q _ => ∃ (a : Addr) (v : V) (es : List En) (n : Nd), vs = [.ref a, v] ∧ ShAt H a es ∧ NdAt H v n ∧ es.length < 64 ∧ ∀ p H', Same H H' → H p = none → H' p = some (.lst ((newP es n).map V.int)) → Q (.ref p) H'
theorem newF {K : PySem.W.Frag} (vs : List V) (H : Hp) (Q : VK) (E : XK) (h : spNewF vs H Q E) : spNewest K vs H Q E := by
  obtain ⟨a, v, es, n, rfl, h1, h2, h3, q⟩ := h
  refine ⟨a, v, es, n, rfl, h1, h2, h3, fun p ms H' s1 h4 hp hw p' hp' => ?_⟩
  have e : ms.reverse = newP es n := newP_one ((List.reverse_perm ms).trans hp) (List.pairwise_reverse.mpr hw)
  refine q p' _ (s1.trans (same_new hp' _)) (s1.free hp') ?_
  rw [upd_same, ← e, List.map_reverse]
def spHolds : Sp := fun vs H Q _ => ∃ (sh st la : Addr) (es : List En) (sn : List Nd) (ls : List Ln) (spot : Nat) (l : Ln), vs = [.ref sh, .ref st, .ref la, .int spot] ∧ ShAt H sh es ∧ es.length < 64 ∧ (es.map keyOf).Nodup ∧ (∀ e ∈ es, EnOk e) ∧ NdsAt H st sn ∧ (∀ n ∈ sn, PartOk n.1) ∧
  LnsAt H la ls ∧ (∀ l ∈ ls, LnOk l) ∧ ls[spot]? = some l ∧ ∀ H', Same H H' → Q (.bl (lineB es sn ls spot l)) H'
abbrev nmH : List Str := ["_law_shelf", "_law_start", "_law_lines", "_law_spot", "_law_picks", "_law_word", "_law_who", "_law_place", "_law_told", "_law_needs", "_law_need", "_law_versions", "_law_k", "_law_pick"]
theorem many_rep {H : Hp} {a : Addr} {bs : List Int} (h : H a = some (.lst (bs.map V.int))) : Rep H (.ref a) (.list (bs.map PyData.int)) := .lst h (ints_reps H _)
section
variable {P : Program} {w : World} {K : PySem.W.Frag} {mg : Str → Option Value} {base : Heap} {f : Addr} {fd : FuncData}
theorem ok_atF (F : Fun K "_law_at" "_law_at" sAt f fd) (T : Txt K mg) : FnOk P w K mg base CX0 1 f fd ["_law_script", "_law_k"] (spAtF K) := by
  refine F.ok scAt (fun vs H Q E h => ?_) (fun cdv A outer s H vs Q E hr h => ?_)
  · obtain ⟨a, ns, k, rfl, _⟩ := h
    rfl
  obtain ⟨a, ns, k, rfl, hS, q⟩ := h
  refine ⟨_, pss_cons (ps_if (pt_cmpR op_lt (pv 1) (pe_callB call_len_seq rfl T.len PySem.boot_len (pa_cons (pv 0) pa_nil)) (nomark _))
      (pss_one (ps_ret (pe_ix ix_list (pv 0) (pv 1) (fun _ _ => rfl)))) pss_nil)
    (pss_one (ps_ret pe_int)), ?_⟩
  refine ⟨_, rfl, _, rfl, a, _, rfl, .inl hS, _, _, rfl, rfl, _, rfl, ?_⟩
  refine ite2 (fun c => ?_) (fun c => ?_)
  · have c' : (k : Int) < (((ns.map V.int).length : Nat) : Int) := of_decide_eq_true c
    rw [List.length_map] at c'
    have hk : k < ns.length := by omega
    have e : (ns.map V.int)[k]? = some (.int (ns.getD k 0)) := by
      rw [List.getElem?_map, List.getElem?_eq_getElem hk, List.getD_eq_getElem?_getD, List.getElem?_eq_getElem hk]; rfl
    exact ⟨_, rfl, _, rfl, a, _, _, _, rfl, rfl, hS, atI_nat e, q⟩
  · have c' : ¬ (k : Int) < (((ns.map V.int).length : Nat) : Int) := fun z => c (decide_eq_true z)
    rw [List.length_map] at c'
    have e : ns.getD k 0 = 0 := by rw [List.getD_eq_getElem?_getD, List.getElem?_eq_none (by omega)]; rfl
    rw [e] at q
    exact q
theorem scHo : FnScope nmH ["_law_shelf", "_law_start", "_law_lines", "_law_spot"] (defScope sHolds) := ⟨rfl, rfl, rfl, by decide +kernel, rfl, by decide +kernel, by decide +kernel⟩
theorem ok_holds {g1 g2 g3 : Addr} {gd1 gd2 gd3 : FuncData} (F : Fun K "_law_holds" "_law_holds" sHolds f fd) (T : Txt K mg) (G1 : FnOk P w K mg base CX0 1 g1 gd1 ["_law_shelf", "_law_pick"] spNeedsIn) (b1 : Binds K gd1 ["_law_shelf", "_law_pick"] []) (k1 : PySem.W.keepIn K (.ref g1) = true) (m1 : mg "_law_needs_in" = some (.ref g1))
    (G2 : FnOk P w K mg base CX0 1 g2 gd2 ["_law_need", "_law_version"] (spLMeets K)) (b2 : Binds K gd2 ["_law_need", "_law_version"] []) (k2 : PySem.W.keepIn K (.ref g2) = true) (m2 : mg "_law_meets" = some (.ref g2))
    (G3 : FnOk P w K mg base CX0 2 g3 gd3 ["_law_shelf", "_law_need"] (spNewest K)) (b3 : Binds K gd3 ["_law_shelf", "_law_need"] []) (k3 : PySem.W.keepIn K (.ref g3) = true) (m3 : mg "_law_newest" = some (.ref g3)) :
    FnOk P w K mg base CX0 3 f fd ["_law_shelf", "_law_start", "_law_lines", "_law_spot"] spHolds := by
  refine F.ok scHo (fun vs H Q E h => ?_) (fun cdv A outer s H vs Q E hr h => ?_)
  · obtain ⟨sh, st, la, es, sn, ls, spot, l, rfl, _⟩ := h
    rfl
  obtain ⟨sh, st, la, es, sn, ls, spot, l, rfl, hsh, hel, hnd, hok, hst, hsp, ⟨ys, hy, hyp⟩, hlo, hpl, q⟩ := h
  have hr1 : Room 1 _ := hr.mono (by decide)
  have G3' : FnOk P w K mg base CX0 2 g3 gd3 ["_law_shelf", "_law_need"] spNewF := G3.imp fun vs H Q E z => newF vs H Q E z
  have hlz : nthZ ls (spot : Int) = some l := by rw [nthZ_nat]; exact hpl
  have hplt : spot < ls.length := (List.getElem?_eq_some_iff.mp hpl).1
  obtain ⟨lv, hlv, hln⟩ := nthZ_pair hyp hlz
  have hlat := nthZ_at hlv
  have hlok := hlo l (nthZ_mem hlz)
  obtain ⟨lq, pa, rv, rfl, h1, h2, hrs⟩ := id hln
  obtain ⟨rq, wv, tv, rfl, hrq, hw, htd⟩ := id hrs
  -- from the place on
  have r4 : ∃ tR : TS, PSs (cxOf CX0 P w K mg base nmH "_law_holds" (defScope sHolds) f cdv A outer s H E).nox ((defBody sHolds).drop 4) tR ∧
      ∀ (na : Addr) (zs : List V) (ns : List Nd), H na = some (.lst zs) → Paired (NdAt H) zs ns → (∀ n ∈ ns, PartOk n.1) → (∀ H', Same H H' → Q (.bl (match nthZ ns l.2.place with | none => false | some n => toldB es ls spot l.1 n l.2.told)) H') →
        tR { nx := fun _ H' => Q .non H', rt := Q } [some (.ref sh), some (.ref st), some (.ref la), some (.int spot), some (.ref pa), some (.str (wordOf l.2.told)), some wv, some (.int l.2.place), some tv, some (.ref na), none, none, none, none] H := by
    refine ⟨_, (pss_cons (ps_if (PW.pt (pw_or (pt_cmpR op_lt (pv 7) pe_int (nomark _)) (pw_or1 (pt_cmpR op_ge (pv 7) (pe_callB call_len_seq rfl T.len PySem.boot_len (pa_cons (pv 9) pa_nil)) (nomark _))))) (pss_one (ps_ret pe_bl)) pss_nil)
      (pss_cons (ps_set (i := 10) scHo.nd rfl (Or.inl rfl) (pe_ix ix_list (pv 9) (pv 7) (fun _ _ => rfl)))
      (pss_cons (ps_if (pt_cmpR op_eq (pv 5) pe_str (nomark _))
        (pss_one (ps_ret (pe_and (pe_cmpR (op_inD hr.units) (pv 8) (pv 4) (by with_unfolding_all rfl)) (pe_and (pe_cmpR op_eq (pe_ix ix_tup (pv 8) pe_int (fun _ _ => rfl)) (pe_ix ix_tup (pv 10) pe_int (fun _ _ => rfl)) (nomark _))
          (pe_one (pe_not (pe_call G2 hr1 rfl m2 k2 b2 .nil pass0 (pa_cons (pv 10) (pa_cons (pe_ix ix_tup (pv 8) pe_int (fun _ _ => rfl)) pa_nil))))))))) pss_nil)
      (pss_cons (ps_set (i := 11) scHo.nd rfl (Or.inl rfl) (pe_call G3' hr rfl m3 k3 b3 .nil pass0 (pa_cons (pv 0) (pa_cons (pv 10) pa_nil))))
      (pss_cons (ps_if (pt_cmpR op_ne (pe_callB call_len_seq rfl T.len PySem.boot_len (pa_cons (pv 8) pa_nil)) (pe_callB call_len_seq rfl T.len PySem.boot_len (pa_cons (pv 11) pa_nil)) (nomark _)) (pss_one (ps_ret pe_bl)) pss_nil)
      (pss_cons (ps_for PassesOwn.never rfl (pi_range1 rfl T.range (pa_cons (pe_callB call_len_seq rfl T.len PySem.boot_len (pa_cons (pv 8) pa_nil)) pa_nil)) (pg_name (i := 12) scHo.nd rfl (Or.inl rfl))
        (pss_cons (ps_if (PW.pt (pw_or (pt_cmpR op_lt (pe_ix ix_list (pv 8) (pv 12) (fun _ _ => rfl)) pe_int (nomark _)) (pw_or1 (pt_cmpR op_ge (pe_ix ix_list (pv 8) (pv 12) (fun _ _ => rfl)) (pv 3) (nomark _))))) (pss_one (ps_ret pe_bl)) pss_nil)
        (pss_one (ps_for PassesOwn.never rfl (pi_list (pe_ix ix_tup (pe_ix ix_list (pv 2) (pe_ix ix_list (pv 8) (pv 12) (fun _ _ => rfl)) (fun _ _ => rfl)) pe_int (fun _ _ => rfl))) (pg_name (i := 13) scHo.nd rfl (Or.inl rfl))
          (pss_one (ps_if (PW.pt (pw_and (pt_cmpR (op_notInD hr.units) (pv 13) (pv 4) (by with_unfolding_all rfl)) (pw_and1 (pt_cmpR (op_neD hr.units) (pv 13) (pe_tup (pa_cons (pe_ix ix_tup (pv 10) pe_int (fun _ _ => rfl)) (pa_cons (pe_ix ix_list (pv 11) (pv 12) (fun _ _ => rfl)) pa_nil))) (nomark _))))) (pss_one (ps_ret pe_bl)) pss_nil))))))
      (pss_one (ps_ret pe_bl)))))))), ?_⟩
    intro na zs ns hna hz hpn q
    have lz := Paired.length hz
    refine ⟨_, rfl, _, _, rfl, rfl, _, rfl, ?_⟩
    refine ite2 (fun e => ?_) (fun e => ?_)
    · have e' : l.2.place < 0 := of_decide_eq_true e
      have := q H (Same.refl _)
      rw [nthZ_none.mpr (.inl e')] at this
      exact iteT this
    have e' : ¬ l.2.place < 0 := fun z => e (decide_eq_true z)
    refine ⟨_, rfl, _, rfl, na, _, rfl, .inl (SqL.of hna), _, _, rfl, rfl, _, rfl, ?_⟩
    refine ite2 (fun e2 => ?_) (fun e2 => ?_)
    · have e2' : (zs.length : Int) ≤ l.2.place := of_decide_eq_true e2
      have := q H (Same.refl _)
      rw [nthZ_none.mpr (.inr (by omega))] at this
      exact this
    have e2' : ¬ (zs.length : Int) ≤ l.2.place := fun z => e2 (decide_eq_true z)
    obtain ⟨n, hn⟩ := nthZ_some (xs := ns) (i := l.2.place) (by omega) (by omega)
    obtain ⟨v, hv, hvn⟩ := nthZ_pair hz hn
    rw [hn] at q
    have hnp := hpn n (nthZ_mem hn)
    obtain ⟨nq, rfl, hnq⟩ := id hvn
    refine ⟨_, rfl, _, rfl, na, _, _, _, rfl, rfl, SqL.of hna, nthZ_at hv, ?_⟩
    refine ⟨_, rfl, rfl, _, rfl, ?_⟩
    cases ht : l.2.told with
    | one k =>
      rw [ht] at htd q
      have hk : PkAt H tv k := htd
      have hkp := hlok.one k ht
      obtain ⟨kq, rfl, hkq⟩ := id hk
      have q' := q H (Same.refl _)
      refine ite2 (fun _ => ?_) (fun c => absurd (show decide (V.str "outside" = V.str "outside") = true by decide +kernel) c)
      refine ⟨_, rfl, _, rfl, pkD k, l.1.map pkD, hk.rep, h2.rep, (pk_lay hkp).1, pks_lay hlok.pk, (pk_lay hkp).2, _, rfl, ?_⟩
      rw [if_neg Bool.false_ne_true, any_pk]
      have q2 : Q (.bl (decide (k ∈ l.1) && clB n k)) H := q'
      by_cases c : k ∈ l.1
      · rw [decide_eq_true c, Bool.true_and] at q2
        rw [decide_eq_true c]
        refine iteT ⟨_, rfl, kq, _, _, _, rfl, rfl, SqT.of hkq, rfl, _, rfl, nq, _, _, _, rfl, rfl, SqT.of hnq, rfl, rfl, _, rfl, ?_⟩
        unfold clB at q2
        rw [dec_str_iff]
        by_cases c2 : k.1 = n.1
        · rw [decide_eq_true c2, Bool.true_and] at q2
          rw [decide_eq_true c2]
          exact iteT ⟨_, rfl, _, rfl, kq, _, _, _, rfl, rfl, SqT.of hkq, rfl, .ref nq, n, k.2, rfl, ⟨nq, rfl, hnq⟩, _, rfl, q2⟩
        · rw [decide_eq_false c2, Bool.false_and] at q2
          rw [decide_eq_false c2]
          exact iteF q2
      · rw [decide_eq_false c, Bool.false_and] at q2
        rw [decide_eq_false c]
        exact iteF q2
    | many bs =>
      rw [ht] at htd q
      obtain ⟨ba, rfl, hba⟩ := htd
      refine ite2 (fun c => absurd c (show ¬ decide (V.str "open" = V.str "outside") = true by decide +kernel)) (fun _ => ?_)
      refine ⟨_, rfl, _, rfl, sh, .ref nq, es, n, rfl, hsh, ⟨nq, rfl, hnq⟩, hel, fun va H1 s1 _ hva => ?_⟩
      have q' : ∀ H', Same H H' → Q (.bl (leftB es ls spot l.1 n bs)) H' := q
      refine ⟨_, rfl, ba, _, rfl, .inl (SqL.of (s1 _ _ hba)), _, rfl, va, _, rfl, .inl (SqL.of hva), rfl, _, rfl, ?_⟩
      refine ite2 (fun e => ?_) (fun e => ?_)
      · have e0 : ¬ bs.length = (newP es n).length := fun z => by
          rw [List.length_map, List.length_map, z, decide_eq_true rfl] at e; cases e
        have e1 : leftB es ls spot l.1 n bs = false := by unfold leftB; rw [decide_eq_false e0]; rfl
        have z := q' H1 s1
        rw [e1] at z
        exact z
      have hle : bs.length = (newP es n).length := by
        by_cases z : ((bs.map V.int).length : Int) = (((newP es n).map V.int).length : Int)
        · rw [List.length_map, List.length_map] at z; omega
        · exfalso; apply e
          rw [decide_eq_false (fun y => z (V.int.inj y))]; rfl
      have hne : ∀ {b v : Int} {j : Nat}, bs[j]? = some b → (newP es n)[j]? = some v → barB ls spot l.1 n.1 b v = false → leftB es ls spot l.1 n bs = false := fun {b v j} hb hv hf => by
        unfold leftB
        rw [Bool.and_eq_false_iff]
        right
        rw [List.all_eq_false]
        exact ⟨(b, v), List.mem_of_getElem? (i := j) (List.getElem?_zip_eq_some.mpr ⟨hb, hv⟩), by rw [hf]; exact Bool.false_ne_true⟩
      have hbl := hlok.many bs ht
      refine ⟨_, rfl, ba, _, rfl, .inl (SqL.of (s1 _ _ hba)), _, rfl, by omega, by rw [List.length_map]; omega, ?_⟩
      refine for_range (fun i σ H2 => ∃ o12 o13, σ = [some (.ref sh), some (.ref st), some (.ref la), some (.int spot), some (.ref pa), some (.str (wordOf l.2.told)), some wv, some (.int l.2.place), some (.ref ba), some (.ref na), some (.ref nq), some (.ref va), o12, o13] ∧ Same H1 H2 ∧
          ∀ (j : Nat) (x y : Int), j < i → bs[j]? = some x → (newP es n)[j]? = some y → barB ls spot l.1 n.1 x y = true)
        ⟨none, none, by rw [ht]; rfl, Same.refl _, fun j x y hj => absurd hj (Nat.not_lt_zero _)⟩ ?_ ?_
      · rintro i σ H2 hi ⟨o12, o13, rfl, s2, hin⟩
        have hil : i < bs.length := by rw [Int.toNat_natCast, List.length_map] at hi; exact hi
        have hz : bs[i]? = some bs[i] := List.getElem?_eq_getElem hil
        have hv : (newP es n)[i]? = some (newP es n)[i] := List.getElem?_eq_getElem (by omega)
        generalize bs[i] = z at hz
        generalize (newP es n)[i] = v at hv
        have s12 := s1.trans s2
        have ei : (0 + (i : Int)) = ((i : Nat) : Int) := by omega
        have hatz : atI (bs.map V.int) (0 + (i : Int)) = some (.int z) := by rw [ei]; exact atI_nat (by rw [List.getElem?_map, hz]; rfl)
        have hatv : atI ((newP es n).map V.int) (0 + (i : Int)) = some (.int v) := by rw [ei]; exact atI_nat (by rw [List.getElem?_map, hv]; rfl)
        have hS2 : SqL K H2 ba (bs.map V.int) := SqL.of (s12 _ _ hba)
        refine ⟨_, rfl, _, rfl, ba, _, _, _, rfl, rfl, hS2, hatz, _, _, rfl, rfl, _, rfl, ?_⟩
        refine ite2 (fun e => ?_) (fun e => ?_)
        · have e' : z < 0 := of_decide_eq_true e
          have z0 := q' _ s12
          rw [hne hz hv (by unfold barB; rw [decide_eq_false (by omega)]; rfl)] at z0
          exact iteT z0
        have e' : ¬ z < 0 := fun y => e (decide_eq_true y)
        refine ⟨_, rfl, _, rfl, ba, _, _, _, rfl, rfl, hS2, hatz, _, rfl, _, _, rfl, rfl, _, rfl, ?_⟩
        refine ite2 (fun e2 => ?_) (fun e2 => ?_)
        · have e2' : (spot : Int) ≤ z := of_decide_eq_true e2
          have z0 := q' _ s12
          rw [hne hz hv (by unfold barB; rw [decide_eq_false (p := z < (spot : Int)) (by omega), Bool.false_and, Bool.and_false])] at z0
          exact z0
        have e2' : ¬ (spot : Int) ≤ z := fun y => e2 (decide_eq_true y)
        obtain ⟨m, hm⟩ := nthZ_some (xs := ls) (i := z) (by omega) (by omega)
        obtain ⟨mv, hmv, hmn⟩ := nthZ_pair hyp hm
        obtain ⟨mq, ma, mr, rfl, hm1, ⟨xs, hm2, hm3⟩, _⟩ := LnAt.same s12 hmn
        have hmok := hlo m (nthZ_mem hm)
        have lx := Paired.length hm3
        refine ⟨_, rfl, _, rfl, _, rfl, ba, _, _, _, rfl, rfl, hS2, hatz, la, _, _, _, rfl, rfl, SqL.of (s12 _ _ hy), nthZ_at hmv, mq, _, _, _, rfl, rfl, SqT.of hm1, rfl, ma, rfl, ⟨xs, SqL.of hm2⟩, ?_⟩
        refine for_list (K := K) (a := ma) (xs := xs) (fun j σ H3 => ∃ o13, σ = [some (.ref sh), some (.ref st), some (.ref la), some (.int spot), some (.ref pa), some (.str (wordOf l.2.told)), some wv, some (.int l.2.place), some (.ref ba), some (.ref na), some (.ref nq), some (.ref va), some (.int (0 + (i : Int))), o13] ∧ Same H2 H3 ∧
            ∀ p ∈ m.1.take j, (decide (p ∈ l.1) || decide (p = (n.1, v))) = true)
          ⟨o13, rfl, Same.refl _, by simp⟩ (fun j σ H3 _ ⟨_, _, s3, _⟩ => SqL.of (s3 _ _ hm2)) ?_ ?_
        · rintro j x σ H3 hj ⟨o13', rfl, s3, hin3⟩
          obtain ⟨k, hki, hk⟩ := Paired.getR hm3 hj
          obtain ⟨kq, rfl, hkq⟩ := id hk
          have hkp := hmok.pk k (List.mem_of_getElem? hki)
          have s13 := s12.trans s3
          have htk : m.1.take (j + 1) = m.1.take j ++ [k] := by rw [List.take_succ, hki]; rfl
          have hbad : (decide (k ∈ l.1) || decide (k = (n.1, v))) = false → barB ls spot l.1 n.1 z v = false := fun c => by
            unfold barB
            rw [hm, Bool.and_eq_false_iff]
            right
            rw [Bool.and_eq_false_iff]
            right
            show (m.1.all fun p => decide (p ∈ l.1) || decide (p = (n.1, v))) = false
            rw [List.all_eq_false]
            exact ⟨k, List.mem_of_getElem? hki, by rw [c]; exact Bool.false_ne_true⟩
          have good : (decide (k ∈ l.1) || decide (k = (n.1, v))) = true → ∀ p ∈ m.1.take (j + 1), (decide (p ∈ l.1) || decide (p = (n.1, v))) = true := fun c p hp => by
            rw [htk] at hp
            rcases List.mem_append.mp hp with y | y
            · exact hin3 p y
            · rw [List.mem_singleton.mp y]; exact c
          refine ⟨_, rfl, _, rfl, pkD k, l.1.map pkD, PkAt.rep ⟨kq, rfl, s3 _ _ hkq⟩, (PksAt.same s13 h2).rep, (pk_lay hkp).1, pks_lay hlok.pk, (pk_lay hkp).2, _, rfl, ?_⟩
          rw [if_pos rfl, any_pk]
          by_cases c : k ∈ l.1
          · rw [decide_eq_true c]
            exact iteF (iteF ⟨_, rfl, s3, good (by rw [decide_eq_true c]; rfl)⟩)
          rw [decide_eq_false c]
          refine iteT ⟨_, rfl, _, rfl, nq, _, _, _, rfl, rfl, SqT.of (s13 _ _ hnq), rfl, _, rfl, _, rfl, va, _, _, _, rfl, rfl, SqL.of ((s2.trans s3) _ _ hva), hatv, (by show 2 ≤ sizeLine; decide), fun t2 ht2 => ?_⟩
          have s5 := same_new ht2 (.tup [.str n.1, .int v])
          refine ⟨pkD k, pkD (n.1, v), PkAt.rep ⟨kq, rfl, s5 _ _ (s3 _ _ hkq)⟩, PkAt.rep (k := (n.1, v)) ⟨t2, rfl, upd_same⟩, okD_shaped (pk_ok hkp) (by decide), okD_shaped (pk_ok (k := (n.1, v)) hnp) (by decide), _, rfl, ?_⟩
          rw [eqv_pk]
          refine ite2 (fun c2 => ?_) (fun c2 => ?_)
          · have c3 : decide (k = (n.1, v)) = false := by simpa using c2
            have z0 := q' _ (s13.trans s5)
            rw [hne hz hv (hbad (by rw [decide_eq_false c, c3]; rfl))] at z0
            exact z0
          · have c3 : decide (k = (n.1, v)) = true := by simpa using c2
            exact ⟨_, rfl, s3.trans s5, good (by rw [c3, Bool.or_true])⟩
        · rintro σ H3 ⟨o13', rfl, s3, hin3⟩
          rw [lx, List.take_length] at hin3
          refine ⟨_, _, rfl, s2.trans s3, fun j x y hj hx hy' => ?_⟩
          rcases Nat.lt_succ_iff_lt_or_eq.mp hj with u | u
          · exact hin j x y u hx hy'
          · subst u
            rw [hz] at hx
            rw [hv] at hy'
            cases hx
            cases hy'
            unfold barB
            rw [hm, decide_eq_true (by omega), decide_eq_true (p := z < (spot : Int)) (by omega), Bool.true_and, Bool.true_and]
            exact List.all_eq_true.mpr hin3
      · rintro σ H2 ⟨o12, o13, rfl, s2, hin⟩
        rw [Int.toNat_natCast, List.length_map] at hin
        have e1 : leftB es ls spot l.1 n bs = true := by
          unfold leftB
          rw [decide_eq_true hle, Bool.true_and, List.all_eq_true]
          rintro ⟨x, y⟩ hxy
          obtain ⟨j, hj⟩ := List.getElem?_of_mem hxy
          obtain ⟨hx, hy'⟩ := List.getElem?_zip_eq_some.mp hj
          exact hin j x y (List.getElem?_eq_some_iff.mp hx).1 hx hy'
        have z := q' H2 (s1.trans s2)
        rw [e1] at z
        exact z
  obtain ⟨tR4, hR4, kR4⟩ := r4
  refine ⟨_, (pss_cons (ps_set (i := 4) scHo.nd rfl (Or.inl rfl) (pe_ix ix_tup (pe_ix ix_list (pv 2) (pv 3) (fun _ _ => rfl)) pe_int (fun _ _ => rfl)))
    (pss_cons (ps_asg (pe_ix ix_tup (pe_ix ix_list (pv 2) (pv 3) (fun _ _ => rfl)) pe_int (fun _ _ => rfl)) (pg_tup rfl (pgs_cons (pg_name (i := 5) scHo.nd rfl (Or.inl rfl)) (pgs_cons (pg_name (i := 6) scHo.nd rfl (Or.inl rfl)) (pgs_cons (pg_name (i := 7) scHo.nd rfl (Or.inl rfl)) (pgs_cons (pg_name (i := 8) scHo.nd rfl (Or.inl rfl)) pgs_nil))))))
    (pss_cons (ps_set (i := 9) scHo.nd rfl (Or.inl rfl) (pv 1))
    (pss_cons (ps_if (pt_cmp (pc_notN (pv 6)))
      (pss_cons (ps_set (i := 9) scHo.nd rfl (Or.inl rfl) (pe_call G1 hr1 rfl m1 k1 b1 .nil pass0 (pa_cons (pv 0) (pa_cons (pv 6) pa_nil))))
      (pss_one (ps_if (PW.pt (pw_or (pt_cmp (pc_isN (pv 9))) (pw_or1 (pt_cmpR (op_notInD hr.units) (pv 6) (pv 4) (by with_unfolding_all rfl))))) (pss_one (ps_ret pe_bl)) pss_nil))) pss_nil) hR4)))), ?_⟩
  refine ⟨_, rfl, _, rfl, la, _, _, _, rfl, rfl, SqL.of hy, hlat, lq, _, _, _, rfl, rfl, SqT.of h1, rfl, ?_⟩
  refine ⟨_, rfl, _, rfl, la, _, _, _, rfl, rfl, SqL.of hy, hlat, lq, _, _, _, rfl, rfl, SqT.of h1, rfl, rq, _, rfl, SqT.of hrq, rfl, _, _, rfl, _, _, rfl, _, _, rfl, _, _, rfl, rfl, ?_⟩
  refine ⟨_, rfl, ?_⟩
  have hpn := needs_parts hok hsp l.2.who
  cases ew : l.2.who with
  | none =>
    rw [ew] at hw hpn
    cases (show wv = .non from hw)
    obtain ⟨zs, hz, hzp⟩ := hst
    refine ⟨_, rfl, _, rfl, iteF ?_⟩
    refine kR4 st zs sn hz hzp hpn fun H' s' => ?_
    have := q H' s'
    unfold lineB at this
    rw [ew] at this
    exact this
  | some k =>
    rw [ew] at hw hpn
    have hk : PkAt H wv k := hw
    have hkp := hlok.who k ew
    obtain ⟨kq, rfl, hkq⟩ := id hk
    have eB : ∀ b, whoB es l.1 (some k) = b → lineB es sn ls spot l = (b && match nthZ (needsOf es k) l.2.place with | none => false | some n => toldB es ls spot l.1 n l.2.told) := fun b hb => by
      unfold lineB
      rw [ew, hb]
      rfl
    refine ⟨_, rfl, _, rfl, iteT ?_⟩
    refine ⟨_, rfl, _, rfl, sh, .ref kq, es, k, rfl, hsh, hk, hnd, fun e he hke na zs hna hnz => ?_, fun hno => ?_⟩
    · refine ⟨_, rfl, _, rfl, iteF ⟨_, rfl, _, rfl, pkD k, l.1.map pkD, hk.rep, h2.rep, (pk_lay hkp).1, pks_lay hlok.pk, (pk_lay hkp).2, _, rfl, ?_⟩⟩
      rw [if_pos rfl, any_pk]
      have hin : k ∈ es.map keyOf := hke ▸ List.mem_map_of_mem he
      have hno : needsOf es k = e.2.2 := by rw [← hke, needs_found hnd he]
      by_cases c : k ∈ l.1
      · rw [decide_eq_true c]
        refine iteF (kR4 na zs e.2.2 hna hnz (by rw [← hno]; exact hpn) fun H' s' => ?_)
        have := q H' s'
        rw [eB true (by show (decide (k ∈ l.1) && decide (k ∈ es.map keyOf)) = true; rw [decide_eq_true c, decide_eq_true hin]; rfl), hno] at this
        exact this
      · rw [decide_eq_false c]
        have := q H (Same.refl _)
        rw [eB false (by show (decide (k ∈ l.1) && decide (k ∈ es.map keyOf)) = false; rw [decide_eq_false c]; rfl)] at this
        exact iteT this
    · have := q H (Same.refl _)
      rw [eB false (by show (decide (k ∈ l.1) && decide (k ∈ es.map keyOf)) = false; rw [decide_eq_false hno, Bool.and_false])] at this
      exact ⟨_, rfl, _, rfl, iteT (iteT this)⟩
end
end FB
namespace FB
open PySem L2 PyProof.Rows
theorem sub_lenG {α : Type} [DecidableEq α] : ∀ {l m : List α}, l.Nodup → (∀ x ∈ l, x ∈ m) → l.length ≤ m.length
  | [], _, _, _ => Nat.zero_le _
  | x :: l, m, hn, hs => by
    rw [List.nodup_cons] at hn
    have hx : x ∈ m := hs x (by simp)
    have ih : l.length ≤ (m.erase x).length := sub_lenG hn.2 fun y hy => by
      refine (List.mem_erase_of_ne ?_).mpr (hs y (by simp [hy]))
      intro e
      subst e
      exact hn.1 hy
    have := List.length_erase_of_mem hx
    have := List.length_pos_of_mem hx
    rw [List.length_cons]
    omega
def odd0 : Nd := ("ashenashenashen", 0, 0)
def whosP (es : List En) : List (Option Pk) := none :: es.map fun e => some (keyOf e)
def whoP (es : List En) (c : Int) : Option Pk := (nthZ (whosP es) (c / 9 % ((whosP es).length : Int))).getD none
def b2 (b : Bool) : Int := if b = true then 1 else 0
def placeP (ns : List Nd) (c : Int) : Int := c / 5 % ((ns.length : Int) + 1) - b2 (decide (c % 23 = 7))
def max0 (p : Int) : Int := if p > 0 then p else 0
def needP (ns : List Nd) (p : Int) : Nd := (nthZ (ns ++ [odd0]) (max0 p)).getD odd0
def outP (n : Nd) (c : Int) : Pk := (n.1, (nthZ [n.2.1 - 1, n.2.2 + 1, n.2.1] (c / 2 % 3)).getD 0)
def hasP (ls : List Ln) (k : Pk) (i : Nat) : Bool := decide (k ∈ ((ls[i]?).map (·.1)).getD [])
def fitR (ls : List Ln) (k : Pk) (j : Nat) : List Int := ((List.range j).filter (hasP ls k)).map fun i : Nat => (i : Int)
def fitP (ls : List Ln) (k : Pk) (c : Int) : List Int := fitR ls k ls.length ++ [(ls.length : Int) - c / 2 % 4]
def oneBelow (ls : List Ln) (k : Pk) (c : Int) : Int := (nthZ (fitP ls k c) (c / 11 % ((fitP ls k c).length : Int))).getD 0
def belowP (es : List En) (ls : List Ln) (n : Nd) (c : Int) : List Int := (newP es n).map fun v => oneBelow ls (n.1, v) c
def rowP (ls : List Ln) (x : Str) (b : Int) : List Pk := (((nthZ ls b).map (·.1)).getD []).filter fun p => !decide (p.1 = x)
def gatherP (ls : List Ln) (x : Str) (bs : List Int) : List Pk := bs.flatMap (rowP ls x)
def addP (m : List Pk) (k : Pk) : List Pk := if k ∈ m then m else m ++ [k]
def dedP (ps : List Pk) : List Pk := ps.foldl addP []
def firstP (es : List En) (ls : List Ln) (n : Nd) (c : Int) : List Pk × Told :=
  if c % 2 = 0 then ([outP n c], .one (outP n c)) else (gatherP ls n.1 (belowP es ls n c), .many (belowP es ls n c))
def moreP (who : Option Pk) (c : Int) : List Pk := (match who with | none => [] | some k => if c % 13 = 5 then [] else [k])
def thirdP (c : Int) : List Pk := if c % 7 = 3 then [("ashenashxnashen", c / 7 % 3)] else []
def lineP (es : List En) (sn : List Nd) (ls : List Ln) (c : Int) : Ln :=
  let who := whoP es c
  let ns := needsFor es sn who
  let f := firstP es ls (needP ns (placeP ns c)) c
  (dedP (f.1 ++ moreP who c ++ thirdP c), ⟨who, placeP ns c, f.2⟩)
def stepP (es : List En) (sn : List Nd) (cs : List Int) (k : Nat) (ls : List Ln) : List Ln :=
  let l := lineP es sn ls (cs.getD k 0 % 100000 + 17 * (k : Int))
  if (lineB es sn (ls ++ [l]) (ls.length : Int) l || decide ((cs.getD k 0 + (k : Int)) % 19 = 3)) = true then ls ++ [l] else ls
def linesP (es : List En) (sn : List Nd) (cs : List Int) : Nat → List Ln
  | 0 => []
  | k + 1 => stepP es sn cs k (linesP es sn cs k)
def three (n : Nd) : List Pk := [(n.1, n.2.1 - 1), (n.1, n.2.2 + 1), (n.1, n.2.1)]
def ndsAll (es : List En) (sn : List Nd) : List Nd := odd0 :: (sn ++ es.flatMap (·.2.2))
def uni (es : List En) (sn : List Nd) : List Pk := es.map keyOf ++ ((ndsAll es sn).flatMap three ++ ([("ashenashxnashen", 0), ("ashenashxnashen", 1), ("ashenashxnashen", 2)] : List Pk))
structure BdOk (es : List En) (sn : List Nd) : Prop where
  el : es.length ≤ 63
  sl : sn.length ≤ 63
  ok : ∀ e ∈ es, EnOk e
  sp : ∀ n ∈ sn, PartOk n.1
  nd : (es.map keyOf).Nodup
theorem flat_len {α β : Type} (f : α → List β) (k : Nat) : ∀ {xs : List α}, (∀ x ∈ xs, (f x).length ≤ k) → (xs.flatMap f).length ≤ xs.length * k
  | [], _ => by simp
  | x :: xs, h => by
    have ih := flat_len f k (xs := xs) fun y hy => h y (by simp [hy])
    have := h x (by simp)
    rw [List.flatMap_cons, List.length_append, List.length_cons, Nat.succ_mul]
    omega
theorem uni_len {es : List En} {sn : List Nd} (B : BdOk es sn) : (uni es sn).length ≤ 19990 := by
  have h1 := flat_len (fun e : En => e.2.2) 100 (xs := es) fun e he => (B.ok e he).few
  have h2 := flat_len three 3 (xs := ndsAll es sn) fun n _ => Nat.le_refl _
  have h3 : (ndsAll es sn).length = 1 + (sn.length + (es.flatMap (·.2.2)).length) := by unfold ndsAll; rw [List.length_cons, List.length_append]; omega
  have := B.el
  have := B.sl
  unfold uni
  rw [List.length_append, List.length_append, List.length_map]
  simp only [List.length_cons, List.length_nil]
  omega
theorem needs_all {es : List En} {sn : List Nd} : ∀ (w : Option Pk) (n : Nd), n ∈ needsFor es sn w → n ∈ ndsAll es sn
  | none, n, h => by unfold ndsAll; exact List.mem_cons_of_mem _ (List.mem_append_left _ h)
  | some k, n, h => by
    have h' : n ∈ needsOf es k := h
    unfold needsOf at h'
    cases hf : es.find? (fun e => decide (keyOf e = k)) with
    | none => rw [hf] at h'; cases h'
    | some e =>
      rw [hf] at h'
      unfold ndsAll
      exact List.mem_cons_of_mem _ (List.mem_append_right _ (List.mem_flatMap.mpr ⟨e, List.mem_of_find?_eq_some hf, h'⟩))
theorem needP_all {es : List En} {sn : List Nd} (w : Option Pk) (p : Int) : needP (needsFor es sn w) p ∈ ndsAll es sn := by
  unfold needP
  cases hx : nthZ (needsFor es sn w ++ [odd0]) (max0 p) with
  | none => exact List.mem_cons_self ..
  | some n =>
    rcases List.mem_append.mp (nthZ_mem hx) with z | z
    · exact needs_all w n z
    · rw [Option.getD_some, List.mem_singleton.mp z]; exact List.mem_cons_self ..
theorem partA : PartOk "ashenashenashen" := ⟨by decide +kernel, by decide +kernel⟩
theorem partX : PartOk "ashenashxnashen" := ⟨by decide +kernel, by decide +kernel⟩
theorem all_parts {es : List En} {sn : List Nd} (B : BdOk es sn) : ∀ n ∈ ndsAll es sn, PartOk n.1 := fun n hn => by
  rcases List.mem_cons.mp hn with rfl | z
  · exact partA
  · rcases List.mem_append.mp z with y | y
    · exact B.sp n y
    · obtain ⟨e, he, h2⟩ := List.mem_flatMap.mp y
      exact (B.ok e he).nd n h2
theorem uni_parts {es : List En} {sn : List Nd} (B : BdOk es sn) : ∀ k ∈ uni es sn, PartOk k.1 := fun k hk => by
  rcases List.mem_append.mp hk with z | z
  · obtain ⟨e, he, rfl⟩ := List.mem_map.mp z
    exact (B.ok e he).pt
  · rcases List.mem_append.mp z with y | y
    · obtain ⟨n, hn, h2⟩ := List.mem_flatMap.mp y
      have := all_parts B n hn
      unfold three at h2
      simp only [List.mem_cons, List.not_mem_nil, or_false] at h2
      rcases h2 with rfl | rfl | rfl <;> exact this
    · simp only [List.mem_cons, List.not_mem_nil, or_false] at y
      rcases y with rfl | rfl | rfl <;> exact partX
theorem who_uni {es : List En} {sn : List Nd} {c : Int} {k : Pk} (h : whoP es c = some k) : k ∈ es.map keyOf := by
  unfold whoP at h
  cases hx : nthZ (whosP es) (c / 9 % ((whosP es).length : Int)) with
  | none => rw [hx] at h; cases h
  | some o =>
    rw [hx, Option.getD_some] at h
    subst h
    rcases List.mem_cons.mp (nthZ_mem hx) with z | z
    · cases z
    · obtain ⟨e, he, h2⟩ := List.mem_map.mp z
      cases h2
      exact List.mem_map_of_mem he
theorem three_nth (n : Nd) (c : Int) : outP n c ∈ three n := by
  have h0 := Int.emod_nonneg (c / 2) (show (3 : Int) ≠ 0 by decide)
  have h1 := Int.emod_lt_of_pos (c / 2) (show (0 : Int) < 3 by decide)
  unfold outP three
  generalize c / 2 % 3 = i at h0 h1
  obtain ⟨x, hx⟩ := nthZ_some (xs := [n.2.1 - 1, n.2.2 + 1, n.2.1]) (i := i) h0 h1
  rw [hx, Option.getD_some]
  have hm := nthZ_mem hx
  simp only [List.mem_cons, List.not_mem_nil, or_false] at hm ⊢
  rcases hm with rfl | rfl | rfl <;> simp
structure LU (es : List En) (sn : List Nd) (l : Ln) : Prop where
  nd : l.1.Nodup
  sub : ∀ k ∈ l.1, k ∈ uni es sn
  len : l.1.length ≤ 19990
  few : ∀ bs, l.2.told = .many bs → bs.length ≤ 63
  ok : LnOk l
theorem gather_uni {es : List En} {sn : List Nd} {ls : List Ln} (h : ∀ l ∈ ls, LU es sn l) (x : Str) (bs : List Int) : ∀ k ∈ gatherP ls x bs, k ∈ uni es sn := fun k hk => by
  obtain ⟨b, hb, h2⟩ := List.mem_flatMap.mp hk
  have h3 := (List.mem_filter.mp h2).1
  cases hx : nthZ ls b with
  | none => rw [hx] at h3; cases h3
  | some l => rw [hx] at h3; exact (h l (nthZ_mem hx)).sub k h3
theorem row_len {es : List En} {sn : List Nd} {ls : List Ln} (h : ∀ l ∈ ls, LU es sn l) (x : Str) (b : Int) : (rowP ls x b).length ≤ 20000 := by
  unfold rowP
  refine Nat.le_trans (List.length_filter_le _ _) ?_
  cases hx : nthZ ls b with
  | none => exact Nat.zero_le _
  | some l => exact (h l (nthZ_mem hx)).ok.len
theorem gather_len {es : List En} {sn : List Nd} {ls : List Ln} (h : ∀ l ∈ ls, LU es sn l) (x : Str) (bs : List Int) : (gatherP ls x bs).length ≤ bs.length * 20000 := flat_len _ _ fun b _ => row_len h x b
theorem below_len (es : List En) (ls : List Ln) (n : Nd) (c : Int) : (belowP es ls n c).length ≤ es.length := by
  unfold belowP
  rw [List.length_map]
  exact newP_length es n
theorem add_mem {m : List Pk} {k j : Pk} : j ∈ addP m k ↔ j ∈ m ∨ j = k := by
  unfold addP
  by_cases h : k ∈ m
  · rw [if_pos h]
    exact ⟨.inl, fun z => z.elim id fun e => e ▸ h⟩
  · rw [if_neg h, List.mem_append, List.mem_singleton]
theorem add_nd {m : List Pk} {k : Pk} (h : m.Nodup) : (addP m k).Nodup := by
  unfold addP
  by_cases hk : k ∈ m
  · rw [if_pos hk]; exact h
  · rw [if_neg hk, List.nodup_append]
    exact ⟨h, by simp, fun a ha b hb e => hk (by rw [List.mem_singleton.mp hb] at e; exact e ▸ ha)⟩
theorem fold_nd : ∀ (ps m : List Pk), m.Nodup → (ps.foldl addP m).Nodup ∧ ∀ k, k ∈ ps.foldl addP m ↔ k ∈ m ∨ k ∈ ps
  | [], m, h => ⟨h, fun k => by simp⟩
  | p :: ps, m, h => by
    obtain ⟨h1, h2⟩ := fold_nd ps (addP m p) (add_nd h)
    refine ⟨h1, fun k => ?_⟩
    rw [List.foldl_cons, h2 k, add_mem, List.mem_cons, or_assoc]
theorem ded_nd (ps : List Pk) : (dedP ps).Nodup := (fold_nd ps [] List.nodup_nil).1
theorem ded_mem {ps : List Pk} {k : Pk} : k ∈ dedP ps ↔ k ∈ ps := by
  rw [dedP, (fold_nd ps [] List.nodup_nil).2 k]
  simp
theorem ded_len {es : List En} {sn : List Nd} (B : BdOk es sn) {ps : List Pk} (h : ∀ k ∈ ps, k ∈ uni es sn) : (dedP ps).length ≤ 19990 :=
  Nat.le_trans (sub_lenG (ded_nd ps) fun k hk => h k (ded_mem.mp hk)) (uni_len B)
theorem ded_snoc (ps : List Pk) (k : Pk) : dedP (ps ++ [k]) = addP (dedP ps) k := by unfold dedP; rw [List.foldl_append]; rfl
theorem out_uni {es : List En} {sn : List Nd} {n : Nd} (h : n ∈ ndsAll es sn) (c : Int) : outP n c ∈ uni es sn :=
  List.mem_append_right _ (List.mem_append_left _ (List.mem_flatMap.mpr ⟨n, h, three_nth n c⟩))
theorem first_uni {es : List En} {sn : List Nd} {ls : List Ln} (h : ∀ l ∈ ls, LU es sn l) {n : Nd} (hn : n ∈ ndsAll es sn) (c : Int) : ∀ k ∈ (firstP es ls n c).1, k ∈ uni es sn := fun k hk => by
  unfold firstP at hk
  by_cases hc : c % 2 = 0
  · rw [if_pos hc] at hk
    rw [List.mem_singleton.mp hk]
    exact out_uni hn c
  · rw [if_neg hc] at hk
    exact gather_uni h _ _ k hk
theorem third_uni {es : List En} {sn : List Nd} (c : Int) : ∀ k ∈ thirdP c, k ∈ uni es sn := fun k hk => by
  unfold thirdP at hk
  by_cases hc : c % 7 = 3
  · rw [if_pos hc] at hk
    rw [List.mem_singleton.mp hk]
    refine List.mem_append_right _ (List.mem_append_right _ ?_)
    have h0 := Int.emod_nonneg (c / 7) (show (3 : Int) ≠ 0 by decide)
    have h1 := Int.emod_lt_of_pos (c / 7) (show (0 : Int) < 3 by decide)
    generalize c / 7 % 3 = i at h0 h1
    have : i = 0 ∨ i = 1 ∨ i = 2 := by omega
    rcases this with rfl | rfl | rfl <;> simp
  · rw [if_neg hc] at hk; cases hk
theorem more_uni {es : List En} {sn : List Nd} {w : Option Pk} (hw : ∀ k, w = some k → k ∈ es.map keyOf) (c : Int) : ∀ k ∈ moreP w c, k ∈ uni es sn := fun k hk => by
  cases w with
  | none => cases hk
  | some j =>
    unfold moreP at hk
    by_cases hc : c % 13 = 5
    · simp only [if_pos hc] at hk; cases hk
    · simp only [if_neg hc] at hk
      rw [List.mem_singleton.mp hk]
      exact List.mem_append_left _ (hw j rfl)
theorem line_lu {es : List En} {sn : List Nd} (B : BdOk es sn) {ls : List Ln} (h : ∀ l ∈ ls, LU es sn l) (c : Int) : LU es sn (lineP es sn ls c) := by
  have hw : ∀ k, whoP es c = some k → k ∈ es.map keyOf := fun k hk => who_uni (sn := sn) hk
  have hn := needP_all (es := es) (sn := sn) (whoP es c) (placeP (needsFor es sn (whoP es c)) c)
  have hu : ∀ k ∈ (firstP es ls (needP (needsFor es sn (whoP es c)) (placeP (needsFor es sn (whoP es c)) c)) c).1 ++ moreP (whoP es c) c ++ thirdP c, k ∈ uni es sn := fun k hk => by
    rcases List.mem_append.mp hk with z | z
    · rcases List.mem_append.mp z with y | y
      · exact first_uni h hn c k y
      · exact more_uni hw c k y
    · exact third_uni c k z
  have hfew : ∀ bs, (firstP es ls (needP (needsFor es sn (whoP es c)) (placeP (needsFor es sn (whoP es c)) c)) c).2 = .many bs → bs.length ≤ 63 := fun bs hb' => by
    unfold firstP at hb'
    by_cases hc : c % 2 = 0
    · rw [if_pos hc] at hb'; cases hb'
    · rw [if_neg hc] at hb'
      cases hb'
      have := below_len es ls (needP (needsFor es sn (whoP es c)) (placeP (needsFor es sn (whoP es c)) c)) c
      have := B.el
      omega
  refine ⟨ded_nd _, fun k hk => hu k (ded_mem.mp hk), ded_len B hu, hfew, Nat.le_trans (ded_len B hu) (by decide), fun k hk => uni_parts B k (hu k (ded_mem.mp hk)), fun k hk => ?_, fun k hk => ?_, fun bs hb => ?_⟩
  · obtain ⟨e, he, rfl⟩ := List.mem_map.mp (hw k hk)
    exact (B.ok e he).pt
  · have hk' : (firstP es ls (needP (needsFor es sn (whoP es c)) (placeP (needsFor es sn (whoP es c)) c)) c).2 = .one k := hk
    unfold firstP at hk'
    by_cases hc : c % 2 = 0
    · rw [if_pos hc] at hk'
      cases hk'
      exact all_parts B _ hn
    · rw [if_neg hc] at hk'; cases hk'
  · exact Nat.le_trans (hfew bs hb) (by decide)
theorem step_lu {es : List En} {sn : List Nd} (B : BdOk es sn) {ls : List Ln} (h : ∀ l ∈ ls, LU es sn l) (cs : List Int) (k : Nat) : ∀ l ∈ stepP es sn cs k ls, LU es sn l := fun l hl => by
  unfold stepP at hl
  dsimp only at hl
  split at hl
  · rcases List.mem_append.mp hl with z | z
    · exact h l z
    · rw [List.mem_singleton.mp z]; exact line_lu B h _
  · exact h l hl
theorem lines_lu {es : List En} {sn : List Nd} (B : BdOk es sn) (cs : List Int) : ∀ k, ∀ l ∈ linesP es sn cs k, LU es sn l
  | 0 => fun l hl => nomatch hl
  | k + 1 => step_lu B (lines_lu B cs k) cs k
theorem lines_len (es : List En) (sn : List Nd) (cs : List Int) : ∀ k, (linesP es sn cs k).length ≤ k
  | 0 => Nat.le_refl _
  | k + 1 => by
    have ih := lines_len es sn cs k
    show (stepP es sn cs k (linesP es sn cs k)).length ≤ k + 1
    unfold stepP
    dsimp only
    split
    · rw [List.length_append, List.length_singleton]; omega
    · omega
end FB
namespace FB
open PySem L2 PyProof.Rows
seal PSs PS PE PT PA
theorem same_del2 {H H' : Hp} (e : Same H H') {ps qs : List Addr} (h : ∀ b ∈ qs, b ∈ ps ∨ H b = none) : Same (del H ps) (del H' qs) := fun b o hb => by
  by_cases hp : b ∈ ps
  · rw [del_in hp] at hb; cases hb
  · rw [del_out hp] at hb
    have hq : b ∉ qs := fun z => by
      rcases h b z with y | y
      · exact hp y
      · rw [y] at hb; cases hb
    rw [del_out hq]
    exact e b o hb
theorem paired_app {α β : Type} {F : α → β → Prop} {as as' : List α} {bs bs' : List β} (h : Paired F as bs) (h' : Paired F as' bs') : Paired F (as ++ as') (bs ++ bs') := by
  induction h with
  | nil => exact h'
  | cons h t ih => exact .cons h ih
def spLineBy : Sp := fun vs H Q _ => ∃ (sh st la : Addr) (es : List En) (sn : List Nd) (ls : List Ln) (xs : List V) (c : Int), vs = [.ref sh, .ref st, .ref la, .int c] ∧ ShAt H sh es ∧ NdsAt H st sn ∧ BdOk es sn ∧ H la = some (.lst xs) ∧ Paired (LnAt (del H [la])) xs ls ∧ (∀ l ∈ ls, LU es sn l) ∧ ls.length ≤ 63 ∧
  ∀ v H', Same H H' → LnAt (del H' [la]) v (lineP es sn ls c) → Q v H'
abbrev nmL : List Str := ["_law_shelf", "_law_start", "_law_lines", "_law_cell", "_law_whos", "_law_who", "_law_needs", "_law_place", "_law_need", "_law_picks", "_law_pick", "_law_reason", "_law_below", "_law_version", "_law_k", "_law_fit", "_law_row", "_law_made"]
def stL (sh st la p : Addr) (c : Int) (wv rv : V) (o4 o6 o7 o8 o10 o12 o13 o14 o15 o16 o17 : Option V) : L2.St := [some (.ref sh), some (.ref st), some (.ref la), some (.int c), o4, some wv, o6, o7, o8, some (.ref p), o10, some rv, o12, o13, o14, o15, o16, o17]
theorem scLb : FnScope nmL ["_law_shelf", "_law_start", "_law_lines", "_law_cell"] (defScope sLineBy) := ⟨rfl, rfl, rfl, by decide +kernel, rfl, by decide +kernel, by decide +kernel⟩
structure LB (H H1 : Hp) (la p : Addr) (wv rv : V) (ps : List Pk) (rs : Rs) : Prop where
  sm : Same H H1
  new : H p = none
  pk : ∃ xs, H1 p = some (.lst xs) ∧ Paired (PkAt (del H1 [la, p])) xs ps
  rsn : RsAt (del H1 [la, p]) rv rs
  who : WhoAt (del H1 [la, p]) wv rs.who
def RestL (P : Program) (w : World) (K : PySem.W.Frag) (mg : Str → Option Value) (base : Heap) (f : Addr) (cdv : Value) (A : Around) (outer : List Env) (s : Shared) (H : Hp) (Q : VK) (E : XK) (sh st la : Addr) (c : Int) (i m : Nat) (R : List Pk → Prop) (F : List Pk → Rs → List Pk) : Prop :=
  ∃ tR : TS, PSs (cxOf CX0 P w K mg base nmL "_law_line_by" (defScope sLineBy) f cdv A outer s H E).nox ((defBody sLineBy).drop i) tR ∧
      ∀ (p : Addr) (wv rv : V) (ps : List Pk) (rs : Rs) (H1 : Hp) (o4 o6 o7 o8 o10 o12 o13 o14 o15 o16 o17 : Option V), LB H H1 la p wv rv ps rs → R ps → (∀ k, rs.who = some k → R [k]) → ps.length ≤ m → (∀ v H', Same H H' → LnAt (del H' [la]) v (dedP (F ps rs), rs) → Q v H') →
        tR { nx := fun _ H' => Q .non H', rt := Q } (stL sh st la p c wv rv o4 o6 o7 o8 o10 o12 o13 o14 o15 o16 o17) H1
section
variable {P : Program} {w : World} {K : PySem.W.Frag} {mg : Str → Option Value} {base : Heap} {f : Addr} {fd : FuncData} {cdv : Value} {A : Around} {outer : List Env} {s : Shared} {H : Hp} {Q : VK} {E : XK} {sh st la : Addr} {c : Int} {es : List En} {sn : List Nd}
theorem line10 {xl : List V} (hla : H la = some (.lst xl)) (B : BdOk es sn) (hr : Room 2 (A.deeper (envOfC "_law_line_by" (defScope sLineBy) s.heap.objs.size f cdv))) :
    RestL P w K mg base f cdv A outer s H Q E sh st la c 10 2000000 (fun ps => ∀ k ∈ ps, k ∈ uni es sn) (fun ps _ => ps) := by
  refine ⟨_, (pss_cons (ps_set (i := 17) scLb.nd rfl (Or.inl rfl) (pe_lst pa_nil))
    (pss_cons (ps_for PassesOwn.never rfl (pi_list (pv 9)) (pg_name (i := 10) scLb.nd rfl (Or.inr rfl))
      (pss_one (ps_if (pt_cmpR (op_notInD hr.units) (pv 10) (pv 17) (by with_unfolding_all rfl))
        (pss_one (ps_expr (pe_bm PySem.F.plainAttrs_list PySem.F.slot_list_append PySem.F.type_list_append mt_append (pv 17) (pa_cons (pv 10) pa_nil)))) pss_nil)))
    (pss_one (ps_ret (pe_tup (pa_cons (pv 17) (pa_cons (pv 11) pa_nil))))))), ?_⟩
  intro p wv rv ps rs H1 o4 o6 o7 o8 o10 o12 o13 o14 o15 o16 o17 L hu _ hpl q
  obtain ⟨sm, new, ⟨xs, hx, hxp⟩, hrs, hwv⟩ := L
  have hla1 := sm _ _ hla
  refine ⟨(by show 0 ≤ sizeLine; decide), fun m hm => ?_⟩
  have npm : p ≠ m := ne_of_none hx hm
  have nlm : la ≠ m := ne_of_none hla1 hm
  have lx := Paired.length hxp
  refine ⟨_, rfl, p, rfl, ⟨_, SqL.of (same_new hm _ _ _ hx)⟩, ?_⟩
  refine for_list (K := K) (a := p) (xs := xs) (fun i σ H2 => ∃ ys o10, σ = stL sh st la p c wv rv o4 o6 o7 o8 o10 o12 o13 o14 o15 o16 (some (.ref m)) ∧ H2 = upd H1 m (.lst ys) ∧ Paired (PkAt (del H1 [la, p])) ys (dedP (ps.take i)))
    ⟨[], o10, rfl, rfl, .nil⟩ (fun i σ H2 _ ⟨ys, _, _, e, _⟩ => by subst e; exact SqL.of (same_new hm _ _ _ hx)) ?_ ?_
  · rintro i x σ H2 hi ⟨ys, o10', rfl, rfl, hys⟩
    obtain ⟨k, hki, hk⟩ := Paired.getR hxp hi
    have hks : ∀ j ∈ dedP (ps.take i), j ∈ uni es sn := fun j hj => hu j (List.mem_of_mem_take (ded_mem.mp hj))
    have hdl := ded_len B (ps := ps.take i) fun j hj => hu j (List.mem_of_mem_take hj)
    have hkp : PartOk k.1 := uni_parts B k (hu k (List.mem_of_getElem? hki))
    have ht : ps.take (i + 1) = ps.take i ++ [k] := by rw [List.take_succ, hki]; rfl
    have sd : Same (del H1 [la, p]) (upd H1 m (.lst ys)) := (same_del _ _).trans (same_new hm _)
    have ly := Paired.length hys
    refine ⟨_, rfl, _, rfl, pkD k, (dedP (ps.take i)).map pkD, (PkAt.same sd hk).rep, .lst upd_same (reps_of (fun _ _ y => PkAt.rep y) (Paired.mapP hys fun _ _ y => PkAt.same sd y)), (pk_lay hkp).1, pks_lay (fun j hj => uni_parts B j (hks j hj)), (pk_lay hkp).2, _, rfl, ?_⟩
    rw [any_pk]
    by_cases hm2 : k ∈ dedP (ps.take i)
    · rw [decide_eq_true hm2]
      refine iteF ⟨ys, _, rfl, rfl, ?_⟩
      rw [ht, ded_snoc, addP, if_pos hm2]
      exact hys
    · rw [decide_eq_false hm2]
      refine iteT ⟨_, rfl, .inl ⟨rfl, _, SqL.of upd_same⟩, _, rfl, m, ys, _, rfl, rfl, upd_same, by rw [sizeLine_eq]; omega, ys ++ [x], _, rfl, upd_upd, ?_⟩
      rw [ht, ded_snoc, addP, if_neg hm2]
      exact Paired.snoc hys hk
  · rintro σ H2 ⟨ys, o10', rfl, rfl, hys⟩
    rw [lx, List.take_length] at hys
    refine ⟨_, rfl, _, rfl, (by show 2 ≤ sizeLine; decide), fun t ht => ?_⟩
    have nlt : la ≠ t := ne_of_none (same_new hm _ _ _ hla1) ht
    have nmt : m ≠ t := ne_of_none (H := upd H1 m (.lst ys)) upd_same ht
    have s1 := same_new hm (.lst ys)
    have s2 := same_new ht (.tup [.ref m, rv])
    have sd : Same (del H1 [la, p]) (del (upd (upd H1 m (.lst ys)) t (.tup [.ref m, rv])) [la]) := same_del2 (s1.trans s2) fun b hb => .inl (by rw [List.mem_singleton.mp hb]; simp)
    refine q _ _ (sm.trans (s1.trans s2)) ⟨t, m, rv, rfl, ?_, ⟨ys, ?_, Paired.mapP hys fun _ _ y => PkAt.same sd y⟩, RsAt.same sd hrs⟩
    · rw [del_out (by simpa using Ne.symm nlt)]; exact upd_same
    · rw [del_out (by simpa using Ne.symm nlm)]; exact s2 _ _ upd_same
theorem line9 (B : BdOk es sn) {xl : List V} (hla : H la = some (.lst xl)) (r10 : RestL P w K mg base f cdv A outer s H Q E sh st la c 10 2000000 (fun ps => ∀ k ∈ ps, k ∈ uni es sn) (fun ps _ => ps)) :
    RestL P w K mg base f cdv A outer s H Q E sh st la c 9 1999999 (fun ps => ∀ k ∈ ps, k ∈ uni es sn) (fun ps _ => ps ++ thirdP c) := by
  obtain ⟨tR, hR, kR⟩ := r10
  refine ⟨_, (pss_cons (ps_if (pt_cmpR op_eq (pe_op op_mod (pv 3) pe_int) pe_int (nomark _))
      (pss_one (ps_expr (pe_bm PySem.F.plainAttrs_list PySem.F.slot_list_append PySem.F.type_list_append mt_append (pv 9) (pa_cons (pe_tup (pa_cons pe_str (pa_cons (pe_op op_mod (pe_op op_fdiv (pv 3) pe_int) pe_int) pa_nil))) pa_nil)))) pss_nil) hR), ?_⟩
  intro p wv rv ps rs H1 o4 o6 o7 o8 o10 o12 o13 o14 o15 o16 o17 L hu hw hpl q
  refine ⟨_, rfl, _, _, rfl, rfl, (by show (0 : Int) < 7; decide), rfl, _, rfl, ?_⟩
  refine ite2 (fun e => ?_) (fun e => ?_)
  · have e' : c % 7 = 3 := by simpa using e
    obtain ⟨sm, new, ⟨xs, hx, hxp⟩, hrs, hwv⟩ := L
    have lx := Paired.length hxp
    refine ⟨_, rfl, .inl ⟨rfl, _, SqL.of hx⟩, _, rfl, _, _, rfl, rfl, ⟨by decide, by decide⟩, _, _, rfl, rfl, (by show (0 : Int) < 3; decide), (by show 2 ≤ sizeLine; decide), fun t ht => ?_⟩
    have s1 := same_new ht (.tup [.str "ashenashxnashen", .int (c / 7 % 3)])
    have npt : p ≠ t := ne_of_none hx ht
    have nlt : la ≠ t := ne_of_none (sm _ _ hla) ht
    have e3 : thirdP c = ([("ashenashxnashen", c / 7 % 3)] : List Pk) := by unfold thirdP; rw [if_pos e']
    refine ⟨p, xs, _, rfl, rfl, s1 _ _ hx, by rw [sizeLine_eq]; omega, ?_⟩
    have sd : Same (del H1 [la, p]) (del (upd (upd H1 t (.tup [.str "ashenashxnashen", .int (c / 7 % 3)])) p (.lst (xs ++ [.ref t]))) [la, p]) := by
      rw [del_upd (by simp)]
      exact Same.del s1 _
    refine kR p wv rv (ps ++ thirdP c) rs _ _ _ _ _ _ _ _ _ _ _ _ ⟨Same.upd (sm.trans s1) new, new, ⟨_, upd_same, ?_⟩, RsAt.same sd hrs, WhoAt.same sd hwv⟩ (fun k hk => ?_) hw (by rw [e3, List.length_append, List.length_singleton]; omega) q
    · rw [e3]
      refine Paired.snoc (Paired.mapP hxp fun _ _ y => PkAt.same sd y) ⟨t, rfl, ?_⟩
      rw [del_upd (by simp), del_out (by simp only [List.mem_cons, List.not_mem_nil, or_false, not_or]; exact ⟨Ne.symm nlt, Ne.symm npt⟩)]
      exact upd_same
    · rcases List.mem_append.mp hk with y | y
      · exact hu k y
      · exact third_uni c k y
  · have e' : ¬ c % 7 = 3 := by simpa using e
    have e3 : thirdP c = [] := by unfold thirdP; rw [if_neg e']
    refine kR p wv rv ps rs _ _ _ _ _ _ _ _ _ _ _ _ L hu hw (by omega) fun v H' s h => q v H' s ?_
    show LnAt (del H' [la]) v (dedP (ps ++ thirdP c), rs)
    rw [e3, List.append_nil]
    exact h
theorem line8 (B : BdOk es sn) (r9 : RestL P w K mg base f cdv A outer s H Q E sh st la c 9 1999999 (fun ps => ∀ k ∈ ps, k ∈ uni es sn) (fun ps _ => ps ++ thirdP c)) :
    RestL P w K mg base f cdv A outer s H Q E sh st la c 8 1999998 (fun ps => ∀ k ∈ ps, k ∈ uni es sn) (fun ps rs => ps ++ moreP rs.who c ++ thirdP c) := by
  obtain ⟨tR, hR, kR⟩ := r9
  refine ⟨_, (pss_cons (ps_if (PW.pt (pw_and (pt_cmp (pc_notN (pv 5))) (pw_and1 (pt_cmpR op_ne (pe_op op_mod (pv 3) pe_int) pe_int (nomark _)))))
      (pss_one (ps_expr (pe_bm PySem.F.plainAttrs_list PySem.F.slot_list_append PySem.F.type_list_append mt_append (pv 9) (pa_cons (pv 5) pa_nil)))) pss_nil) hR), ?_⟩
  intro p wv rv ps rs H1 o4 o6 o7 o8 o10 o12 o13 o14 o15 o16 o17 L hu hw hpl q
  have skip : moreP rs.who c = [] → tR { nx := fun _ H' => Q .non H', rt := Q } (stL sh st la p c wv rv o4 o6 o7 o8 o10 o12 o13 o14 o15 o16 o17) H1 := fun e3 => by
    refine kR p wv rv ps rs _ _ _ _ _ _ _ _ _ _ _ _ L hu hw (by omega) fun v H' s h => q v H' s ?_
    show LnAt (del H' [la]) v (dedP (ps ++ moreP rs.who c ++ thirdP c), rs)
    rw [e3, List.append_nil]
    exact h
  cases hwho : rs.who with
  | none =>
    have hv := L.who
    rw [hwho] at hv
    cases (show wv = .non from hv)
    exact ⟨_, rfl, _, rfl, iteF (iteF (skip (by rw [hwho]; rfl)))⟩
  | some k =>
    have hv := L.who
    rw [hwho] at hv
    obtain ⟨kq, rfl, hkq⟩ := id (show PkAt _ wv k from hv)
    refine ⟨_, rfl, _, rfl, iteT ?_⟩
    refine ⟨_, rfl, _, _, rfl, rfl, (by show (0 : Int) < 13; decide), rfl, _, rfl, ?_⟩
    refine ite2 (fun e => ?_) (fun e => ?_)
    · have e' : ¬ c % 13 = 5 := by simpa using e
      have e3 : moreP rs.who c = [k] := by rw [hwho]; unfold moreP; simp only [if_neg e']
      obtain ⟨sm, new, ⟨xs, hx, hxp⟩, hrs, hwv⟩ := L
      have lx := Paired.length hxp
      refine ⟨_, rfl, .inl ⟨rfl, _, SqL.of hx⟩, _, rfl, p, xs, _, rfl, rfl, hx, by rw [sizeLine_eq]; omega, ?_⟩
      have ed : del (upd H1 p (.lst (xs ++ [.ref kq]))) [la, p] = del H1 [la, p] := del_upd (by simp)
      refine kR p (.ref kq) rv (ps ++ moreP rs.who c) rs _ _ _ _ _ _ _ _ _ _ _ _ ⟨Same.upd sm new, new, ⟨_, upd_same, ?_⟩, ed ▸ hrs, ed ▸ hwv⟩ (fun j hj => ?_) hw (by rw [e3, List.length_append, List.length_singleton]; omega) q
      · rw [e3, ed]
        exact Paired.snoc hxp hv
      · rcases List.mem_append.mp hj with y | y
        · exact hu j y
        · rw [e3] at y
          exact hw k hwho j y
    · have e' : c % 13 = 5 := by simpa using e
      exact skip (by rw [hwho]; unfold moreP; simp only [if_pos e'])
end
end FB
namespace FB
open PySem L2 PyProof.Rows
seal PSs PS PE PT PA
theorem nd_ft : (["_law_k", "_law_pick", "_law_lines"] : List Str).Nodup := by decide +kernel
theorem nd_on : (["_law_one", "_law_need"] : List Str).Nodup := by decide +kernel
theorem out_at (n : Nd) (c : Int) : atI [V.int (n.2.1 - 1), V.int (n.2.2 + 1), V.int n.2.1] (c / 2 % 3) = some (.int (outP n c).2) := by
  have h0 := Int.emod_nonneg (c / 2) (show (3 : Int) ≠ 0 by decide)
  have h1 := Int.emod_lt_of_pos (c / 2) (show (0 : Int) < 3 by decide)
  obtain ⟨x, hx⟩ := nthZ_some (xs := [n.2.1 - 1, n.2.2 + 1, n.2.1]) (i := c / 2 % 3) h0 h1
  have e : (outP n c).2 = x := by unfold outP; rw [hx]; rfl
  rw [e]
  refine nthZ_at (xs := [n.2.1 - 1, n.2.2 + 1, n.2.1].map V.int) ?_
  rw [nthZ_map, hx]
  rfl
theorem below_at (ls : List Ln) (k : Pk) (c : Int) : atI ((fitP ls k c).map V.int) (c / 11 % ((fitP ls k c).length : Int)) = some (.int (oneBelow ls k c)) := by
  have hp : (0 : Int) < ((fitP ls k c).length : Int) := by
    unfold fitP
    rw [List.length_append, List.length_singleton]
    omega
  obtain ⟨x, hx⟩ := nthZ_some (xs := fitP ls k c) (Int.emod_nonneg (c / 11) (by omega)) (Int.emod_lt_of_pos (c / 11) hp)
  have e : oneBelow ls k c = x := by unfold oneBelow; rw [hx]; rfl
  rw [e]
  refine nthZ_at ?_
  rw [nthZ_map, hx]
  rfl
theorem fitR_succ (ls : List Ln) (k : Pk) (j : Nat) : fitR ls k (j + 1) = if hasP ls k j = true then fitR ls k j ++ [(j : Int)] else fitR ls k j := by
  unfold fitR
  rw [List.range_succ, List.filter_append, List.filter_cons, List.filter_nil, List.map_append]
  by_cases h : hasP ls k j = true
  · rw [if_pos h, if_pos h]; rfl
  · rw [if_neg h, if_neg h, List.map_nil, List.append_nil]
theorem fitR_len (ls : List Ln) (k : Pk) (j : Nat) : (fitR ls k j).length ≤ j := by
  unfold fitR
  rw [List.length_map]
  have := List.length_filter_le (hasP ls k) (List.range j)
  rwa [List.length_range] at this
def Rest7 (P : Program) (w : World) (K : PySem.W.Frag) (mg : Str → Option Value) (base : Heap) (f : Addr) (cdv : Value) (A : Around) (outer : List Env) (s : Shared) (H : Hp) (Q : VK) (E : XK) (sh st la : Addr) (c : Int) (es : List En) (sn : List Nd) (ls : List Ln) : Prop :=
  ∃ tR : TS, PSs (cxOf CX0 P w K mg base nmL "_law_line_by" (defScope sLineBy) f cdv A outer s H E).nox ((defBody sLineBy).drop 7) tR ∧
      ∀ (p : Addr) (wv nv : V) (who : Option Pk) (place : Int) (n : Nd) (G : Hp) (o4 o6 : Option V), Same H G → G p = none → WhoAt (del G [la]) wv who → NdAt G nv n → n ∈ ndsAll es sn → (∀ k, who = some k → k ∈ uni es sn) →
        (∀ v H', Same H H' → LnAt (del H' [la]) v (dedP ((firstP es ls n c).1 ++ moreP who c ++ thirdP c), ⟨who, place, (firstP es ls n c).2⟩) → Q v H') →
        tR { nx := fun _ H' => Q .non H', rt := Q } [some (.ref sh), some (.ref st), some (.ref la), some (.int c), o4, some wv, o6, some (.int place), some nv, some (.ref p), none, none, none, none, none, none, none, none] (upd G p (.lst []))
section
variable {P : Program} {w : World} {K : PySem.W.Frag} {mg : Str → Option Value} {base : Heap} {f : Addr} {fd : FuncData} {cdv : Value} {A : Around} {outer : List Env} {s : Shared} {H : Hp} {Q : VK} {E : XK} {sh st la : Addr} {c : Int} {es : List En} {sn : List Nd} {ls : List Ln}
theorem line7 {g3 : Addr} {gd3 : FuncData} {xl : List V} (T : Txt K mg) (hsh : ShAt H sh es) (hla : H la = some (.lst xl)) (hlp : Paired (LnAt (del H [la])) xl ls) (B : BdOk es sn) (hlu : ∀ l ∈ ls, LU es sn l) (hll : ls.length ≤ 63)
    (hr : Room 2 (A.deeper (envOfC "_law_line_by" (defScope sLineBy) s.heap.objs.size f cdv))) (hu : (A.deeper (envOfC "_law_line_by" (defScope sLineBy) s.heap.objs.size f cdv)).units + 64 < cLine)
    (G3 : FnOk P w K mg base CX0 2 g3 gd3 ["_law_shelf", "_law_need"] spNewF) (b3 : Binds K gd3 ["_law_shelf", "_law_need"] []) (k3 : PySem.W.keepIn K (.ref g3) = true) (m3 : mg "_law_newest" = some (.ref g3))
    (r8 : RestL P w K mg base f cdv A outer s H Q E sh st la c 8 1999998 (fun ps => ∀ k ∈ ps, k ∈ uni es sn) (fun ps rs => ps ++ moreP rs.who c ++ thirdP c)) :
    Rest7 P w K mg base f cdv A outer s H Q E sh st la c es sn ls := by
  obtain ⟨tR, hR, kR⟩ := r8
  refine ⟨_, (pss_cons (ps_if (pt_cmpR op_eq (pe_op op_mod (pv 3) pe_int) pe_int (nomark _))
      (pss_cons (ps_set (i := 10) scLb.nd rfl (Or.inr rfl) (pe_tup (pa_cons (pe_ix ix_tup (pv 8) pe_int (fun _ _ => rfl)) (pa_cons (pe_ix ix_list (pe_lst (pa_cons (pe_op op_sub (pe_ix ix_tup (pv 8) pe_int (fun _ _ => rfl)) pe_int) (pa_cons (pe_op op_add (pe_ix ix_tup (pv 8) pe_int (fun _ _ => rfl)) pe_int) (pa_cons (pe_ix ix_tup (pv 8) pe_int (fun _ _ => rfl)) pa_nil)))) (pe_op op_mod (pe_op op_fdiv (pv 3) pe_int) pe_int) (fun _ _ => rfl)) pa_nil))))
      (pss_cons (ps_set (i := 9) scLb.nd rfl (Or.inl rfl) (pe_lst (pa_cons (pv 10) pa_nil)))
      (pss_one (ps_set (i := 11) scLb.nd rfl (Or.inl rfl) (pe_tup (pa_cons pe_str (pa_cons (pv 5) (pa_cons (pv 7) (pa_cons (pv 10) pa_nil)))))))))
      (pss_cons (ps_set (i := 12) scLb.nd rfl (Or.inl rfl) (pe_lst pa_nil))
      (pss_cons (ps_for PassesOwn.never rfl (pi_list (pe_call G3 hr rfl m3 k3 b3 .nil pass0 (pa_cons (pv 0) (pa_cons (pv 8) pa_nil)))) (pg_name (i := 13) scLb.nd rfl (Or.inl rfl))
        (pss_cons (ps_set (i := 10) scLb.nd rfl (Or.inr rfl) (pe_tup (pa_cons (pe_ix ix_tup (pv 8) pe_int (fun _ _ => rfl)) (pa_cons (pv 13) pa_nil))))
        (pss_cons (ps_setC (i := 15) (N' := ["_law_k", "_law_pick", "_law_lines"]) (n := 1) (js := [10, 2]) rfl
            (CompS.two (c := s.heap.objs.size + 3) (c' := s.heap.objs.size + 1) (y := "_law_pick") (y' := "_law_lines") rfl rfl rfl (by decide +kernel) (by decide +kernel) rfl (by decide +kernel) (by decide +kernel) rfl rfl rfl rfl rfl rfl rfl rfl rfl) (gk_name (by decide)) scLb.nd rfl rfl
            (pi_range1 rfl T.range (pa_cons (pe_callB call_len_seq rfl T.len PySem.boot_len (pa_cons (pv 2) pa_nil)) pa_nil))
            (fun C s2 H2 fp => pg_name (i := 0) nd_ft rfl (Or.inl rfl))
            (fun C s2 H2 fp => pts_one (pt_cmpR (op_inD hu) (pv 1) (pe_ix (r := rIxT K) ix_tup (pe_ix (r := rIxL K) ix_list (pv 2) (pv 0) (fun _ _ => rfl)) pe_int (fun _ _ => rfl)) (by with_unfolding_all rfl)))
            (fun C s2 H2 fp => pv 0))
        (pss_cons (ps_set (i := 15) scLb.nd rfl (Or.inl rfl) (pe_op op_cat (pv 15) (pe_lst (pa_cons (pe_op op_sub (pe_callB call_len_seq rfl T.len PySem.boot_len (pa_cons (pv 2) pa_nil)) (pe_op op_mod (pe_op op_fdiv (pv 3) pe_int) pe_int)) pa_nil))))
        (pss_one (ps_expr (pe_bm PySem.F.plainAttrs_list PySem.F.slot_list_append PySem.F.type_list_append mt_append (pv 12) (pa_cons (pe_ix ix_list (pv 15) (pe_op op_mod (pe_op op_fdiv (pv 3) pe_int) (pe_callB call_len_seq rfl T.len PySem.boot_len (pa_cons (pv 15) pa_nil))) (fun _ _ => rfl)) pa_nil))))))))
      (pss_cons (ps_for PassesOwn.never rfl (pi_range1 rfl T.range (pa_cons (pe_callB call_len_seq rfl T.len PySem.boot_len (pa_cons (pv 12) pa_nil)) pa_nil)) (pg_name (i := 14) scLb.nd rfl (Or.inl rfl))
        (pss_one (ps_if (PW.pt (pw_and (pt_cmpR op_le pe_int (pe_ix ix_list (pv 12) (pv 14) (fun _ _ => rfl)) (nomark _)) (pw_and1 (pt_cmpR op_lt (pe_ix ix_list (pv 12) (pv 14) (fun _ _ => rfl)) (pe_callB call_len_seq rfl T.len PySem.boot_len (pa_cons (pv 2) pa_nil)) (nomark _)))))
          (pss_cons (ps_set (i := 16) scLb.nd rfl (Or.inl rfl) (pe_ix ix_tup (pe_ix ix_list (pv 2) (pe_ix ix_list (pv 12) (pv 14) (fun _ _ => rfl)) (fun _ _ => rfl)) pe_int (fun _ _ => rfl)))
          (pss_one (ps_expr (pe_bm PySem.F.plainAttrs_list PySem.F.slot_list_extend PySem.F.type_list_extend mt_extend (pv 9) (pa_cons (pe_comp (N' := ["_law_one", "_law_need"]) (n := 1) (js := [8]) rfl
              (CompS.one (c := s.heap.objs.size + 2) (y := "_law_need") rfl rfl (by decide +kernel) rfl (by decide +kernel) (by decide +kernel) rfl rfl rfl rfl rfl) (gk_name (by decide)) (pi_list (pv 16))
              (fun C s2 H2 fp => pg_name (i := 0) nd_on rfl (Or.inl rfl))
              (fun C s2 H2 fp => pts_one (pt_cmpR op_ne (pe_ix (r := rIxT K) ix_tup (pv 0) pe_int (fun _ _ => rfl)) (pe_ix (r := rIxT K) ix_tup (pv 1) pe_int (fun _ _ => rfl)) (nomark _)))
              (fun C s2 H2 fp => pv 0)) pa_nil)))))
          pss_nil)))
      (pss_one (ps_set (i := 11) scLb.nd rfl (Or.inl rfl) (pe_tup (pa_cons pe_str (pa_cons (pv 5) (pa_cons (pv 7) (pa_cons (pv 12) pa_nil))))))))))) hR), ?_⟩
  intro p wv nv who place n G o4 o6 sG hpG hwv hnv hn hwu q
  have hlaG := sG _ _ hla
  have npl : p ≠ la := Ne.symm (ne_of_none hlaG hpG)
  have hlG : Paired (LnAt (del G [la])) xl ls := Paired.mapP hlp fun _ _ y => LnAt.same (Same.del sG _) y
  have ll := Paired.length hlp
  have sp := same_new hpG (.lst [])
  obtain ⟨nq, rfl, hnq⟩ := id hnv
  have hnp := all_parts B n hn
  have hw1 : ∀ k, who = some k → ∀ j ∈ [k], j ∈ uni es sn := fun k hk j hj => by rw [List.mem_singleton.mp hj]; exact hwu k hk
  refine ⟨_, rfl, _, _, rfl, rfl, (by show (0 : Int) < 2; decide), rfl, _, rfl, ?_⟩
  refine ite2 (fun e => ?_) (fun e => ?_)
  · -- a pick outside
    have e' : c % 2 = 0 := by simpa using e
    have ef : firstP es ls n c = ([outP n c], .one (outP n c)) := by unfold firstP; rw [if_pos e']
    have hS : SqT K (upd G p (.lst [])) nq [.str n.1, .int n.2.1, .int n.2.2] := SqT.of (sp _ _ hnq)
    refine ⟨_, rfl, nq, _, _, _, rfl, rfl, hS, rfl, _, rfl, nq, _, _, _, rfl, rfl, hS, rfl, _, _, rfl, rfl, _, rfl, nq, _, _, _, rfl, rfl, hS, rfl, _, _, rfl, rfl, _, rfl, nq, _, _, _, rfl, rfl, hS, rfl, (by show 3 ≤ sizeLine; decide), fun l hl => ?_⟩
    have sl := same_new hl (.lst [.int (n.2.1 - 1), .int (n.2.2 + 1), .int n.2.1])
    refine ⟨_, rfl, _, _, rfl, rfl, ⟨by decide, by decide⟩, _, _, rfl, rfl, (by show (0 : Int) < 3; decide), l, _, _, _, rfl, rfl, SqL.of upd_same, out_at n c, (by show 2 ≤ sizeLine; decide), fun k hk => ?_⟩
    have sk := same_new hk (.tup [.str n.1, .int (outP n c).2])
    refine ⟨_, rfl, (by show 1 ≤ sizeLine; decide), fun p2 hp2 => ?_⟩
    have s2 := same_new hp2 (.lst [.ref k])
    have sGk := (sp.trans sl).trans sk
    refine ⟨_, rfl, _, rfl, _, rfl, (by show 4 ≤ sizeLine; decide), fun r hr' => ?_⟩
    have s3 := same_new hr' (.tup [.str "outside", wv, .int place, .ref k])
    have hkk := (s2.trans s3) _ _ (upd_same (H := upd (upd G p (.lst [])) l (.lst [.int (n.2.1 - 1), .int (n.2.2 + 1), .int n.2.1])) (a := k) (o := .tup [.str n.1, .int (outP n c).2]))
    have hp9 := s3 _ _ (upd_same (H := upd (upd (upd G p (.lst [])) l (.lst [.int (n.2.1 - 1), .int (n.2.2 + 1), .int n.2.1])) k (.tup [.str n.1, .int (outP n c).2])) (a := p2) (o := .lst [.ref k]))
    have hr9 := upd_same (H := upd (upd (upd (upd G p (.lst [])) l (.lst [.int (n.2.1 - 1), .int (n.2.2 + 1), .int n.2.1])) k (.tup [.str n.1, .int (outP n c).2])) p2 (.lst [.ref k])) (a := r) (o := .tup [.str "outside", wv, .int place, .ref k])
    have sG9 := sGk.trans (s2.trans s3)
    have hG2 : G p2 = none := sGk.free hp2
    generalize hH9 : upd (upd (upd (upd (upd G p (.lst [])) l (.lst [.int (n.2.1 - 1), .int (n.2.2 + 1), .int n.2.1])) k (.tup [.str n.1, .int (outP n c).2])) p2 (.lst [.ref k])) r (.tup [.str "outside", wv, .int place, .ref k]) = H9 at *
    have hla9 := sG9 _ _ hlaG
    have nk : ∀ {b : Addr} {o : List V}, H9 b = some (.tup o) → b ∉ [la, p2] := fun {b o} hb => by
      simp only [List.mem_cons, List.not_mem_nil, or_false, not_or]
      exact ⟨ne_of hb hla9 (by intro z; cases z), ne_of hb hp9 (by intro z; cases z)⟩
    have hkA : PkAt (del H9 [la, p2]) (.ref k) (outP n c) := ⟨k, rfl, by rw [del_out (nk hkk)]; exact hkk⟩
    have sd : Same (del G [la]) (del H9 [la, p2]) := same_del2 sG9 fun b hb => by
      simp only [List.mem_cons, List.not_mem_nil, or_false] at hb
      rcases hb with rfl | rfl
      · exact .inl (by simp)
      · exact .inr hG2
    refine kR p2 wv (.ref r) [outP n c] ⟨who, place, .one (outP n c)⟩ H9 _ _ _ _ _ _ _ _ _ _ _ ⟨sG.trans sG9, sG.free hG2, ⟨[.ref k], hp9, .cons hkA .nil⟩, ⟨r, wv, .ref k, rfl, ?_, WhoAt.same sd hwv, hkA⟩, WhoAt.same sd hwv⟩ (fun j hj => ?_) hw1 (by show 1 ≤ 1999998; decide) (by rw [ef] at q; exact q)
    · rw [del_out (nk hr9)]; exact hr9
    · rw [List.mem_singleton.mp hj]; exact out_uni hn c
  · -- places of earlier lines
    have e' : ¬ c % 2 = 0 := by simpa using e
    have ef : firstP es ls n c = (gatherP ls n.1 (belowP es ls n c), .many (belowP es ls n c)) := by unfold firstP; rw [if_neg e']
    rw [ef] at q
    refine ⟨(by show 0 ≤ sizeLine; decide), fun b hb => ?_⟩
    have hGb : G b = none := sp.free hb
    have npb : p ≠ b := ne_of_none (H := upd G p (.lst [])) upd_same hb
    have nlb : la ≠ b := ne_of_none hlaG hGb
    have sb := sp.trans (same_new hb (.lst []))
    refine ⟨_, rfl, _, rfl, sh, .ref nq, es, n, rfl, ShAt.same (sG.trans sb) hsh, ⟨nq, rfl, sb _ _ hnq⟩, (by have := B.el; omega), fun va H7 s7 hvf hva => ?_⟩
    have nvb : b ≠ va := ne_of_none (H := upd (upd G p (.lst [])) b (.lst [])) upd_same hvf
    have hbl := below_len es ls n c
    have hel := B.el
    have lbn : (belowP es ls n c).length = (newP es n).length := by unfold belowP; rw [List.length_map]
    refine ⟨va, rfl, ⟨_, SqL.of hva⟩, ?_⟩
    refine for_list (K := K) (a := va) (xs := (newP es n).map V.int) (fun i σ H2 => ∃ o10 o13 o15, σ = [some (.ref sh), some (.ref st), some (.ref la), some (.int c), o4, some wv, o6, some (.int place), some (.ref nq), some (.ref p), o10, none, some (.ref b), o13, none, o15, none, none] ∧
        Same G H2 ∧ H2 p = some (.lst []) ∧ H2 b = some (.lst (((belowP es ls n c).take i).map V.int)) ∧ H2 va = some (.lst ((newP es n).map V.int)))
      ⟨none, none, none, rfl, sb.trans s7, s7 _ _ (by rw [upd_ne npb]; exact upd_same), s7 _ _ upd_same, hva⟩ (fun i σ H2 _ ⟨_, _, _, _, _, _, _, h⟩ => SqL.of h) ?_ ?_
    · rintro i x σ H2 hi ⟨o10, o13, o15, rfl, s2, h2p, h2b, h2v⟩
      rw [List.getElem?_map] at hi
      obtain ⟨v, hv, rfl⟩ := Option.map_eq_some_iff.mp hi
      have hil : i < (newP es n).length := (List.getElem?_eq_some_iff.mp hv).1
      have htk : (belowP es ls n c).take (i + 1) = (belowP es ls n c).take i ++ [oneBelow ls (n.1, v) c] := by
        rw [List.take_succ]
        congr 1
        unfold belowP
        rw [List.getElem?_map, hv]
        rfl
      -- pick = (need[0], version)
      refine ⟨_, rfl, nq, _, _, _, rfl, rfl, SqT.of (s2 _ _ hnq), rfl, _, rfl, (by show 2 ≤ sizeLine; decide), fun k hk => ?_⟩
      have sk := same_new hk (.tup [.str n.1, .int v])
      have hkk : upd H2 k (.tup [.str n.1, .int v]) k = some (.tup [.str n.1, .int v]) := upd_same
      generalize hH3 : upd H2 k (.tup [.str n.1, .int v]) = H3 at *
      have s3 := s2.trans sk
      have hla3 := s3 _ _ hlaG
      have hl3 : Paired (LnAt H3) xl ls := Paired.mapP hlG fun _ _ y => LnAt.same ((Same.del s3 _).trans (same_del _ _)) y
      -- fit = [k for k in range(len(lines)) if pick in lines[k][0]]
      refine ⟨_, rfl, la, _, rfl, .inl (SqL.of hla3), _, rfl, by omega, by omega, ?_⟩
      refine comp_range (fun D j ys H4 => ys = (fitR ls (n.1, v) j).map V.int ∧ H4 = upd H3 D (.lst ys) ∧ H3 D = none) (fun D hD => ⟨rfl, rfl, hD⟩) (fun D j ys H4 hj ⟨g1, g2, g3⟩ => ?_) (fun D j ys H4 hj ⟨g1, g2, g3⟩ => ?_) (fun D ys H4 ⟨g1, g2, g3⟩ => ?_)
      · subst g1 g2
        refine ⟨upd_same, ?_⟩
        rw [List.length_map]
        have := fitR_len ls (n.1, v) j
        rw [Int.toNat_natCast] at hj
        exact small1000 (by omega)
      · subst g1 g2
        have hjl : j < ls.length := by rw [Int.toNat_natCast] at hj; omega
        have ej : (0 + (j : Int)) = ((j : Nat) : Int) := by omega
        have hlj : nthZ ls (j : Int) = some ls[j] := by rw [nthZ_nat]; exact List.getElem?_eq_getElem hjl
        obtain ⟨lv, hlv, hln⟩ := nthZ_pair hl3 hlj
        have hlok := (hlu _ (nthZ_mem hlj)).ok
        have hhas : hasP ls (n.1, v) j = decide ((n.1, v) ∈ ls[j].1) := by unfold hasP; rw [List.getElem?_eq_getElem hjl]; rfl
        generalize ls[j] = l at *
        have sD := same_new g3 (.lst ((fitR ls (n.1, v) j).map V.int))
        obtain ⟨lq, pa, rv, rfl, h1, h2, _⟩ := LnAt.same sD hln
        rw [ej]
        unfold gName
        refine ⟨_, rfl, _, rfl, _, rfl, la, _, _, _, rfl, rfl, SqL.of (sD _ _ hla3), nthZ_at hlv, lq, _, _, _, rfl, rfl, SqT.of h1, rfl, pkD (n.1, v), l.1.map pkD, PkAt.rep (k := (n.1, v)) ⟨k, rfl, sD _ _ hkk⟩, h2.rep, (pk_lay (k := (n.1, v)) hnp).1, pks_lay hlok.pk, (pk_lay (k := (n.1, v)) hnp).2, _, rfl, ?_⟩
        rw [if_neg Bool.false_ne_true, any_pk, ← hhas]
        refine ite2 (fun cc => ?_) (fun cc => ?_)
        · refine ⟨_, rfl, upd_same, ?_, by rw [upd_upd], g3⟩
          rw [fitR_succ, if_pos cc, List.map_append]
          rfl
        · refine ⟨?_, rfl, g3⟩
          rw [fitR_succ, if_neg cc]
      · rw [Int.toNat_natCast, ll] at g1
        subst g1 g2
        have sD := same_new g3 (.lst ((fitR ls (n.1, v) ls.length).map V.int))
        have s4 := s3.trans sD
        have hfl := fitR_len ls (n.1, v) ls.length
        -- fit = fit + [len(lines) - cell // 2 % 4]
        refine ⟨_, rfl, _, rfl, la, _, rfl, .inl (SqL.of (sD _ _ hla3)), _, rfl, _, _, rfl, rfl, ⟨by decide, by decide⟩, _, _, rfl, rfl, (by show (0 : Int) < 4; decide), _, _, rfl, rfl, (by show 1 ≤ sizeLine; decide), fun l2 hl2 => ?_⟩
        have sl2 := same_new hl2 (.lst [.int ((xl.length : Int) - c / 2 % 4)])
        refine ⟨D, l2, _, _, rfl, rfl, sl2 _ _ upd_same, upd_same, by rw [sizeLine_eq, List.length_map]; show (fitR ls (n.1, v) ls.length).length + 1 ≤ _; omega, fun F hF => ?_⟩
        have efit : (fitR ls (n.1, v) ls.length).map V.int ++ [V.int ((xl.length : Int) - c / 2 % 4)] = (fitP ls (n.1, v) c).map V.int := by
          unfold fitP
          rw [List.map_append, ll]
          rfl
        dsimp only
        rw [efit]
        have sF := same_new hF (.lst ((fitP ls (n.1, v) c).map V.int))
        have s5 := s4.trans (sl2.trans sF)
        have hFF : upd (upd (upd H3 D (.lst ((fitR ls (n.1, v) ls.length).map V.int))) l2 (.lst [.int ((xl.length : Int) - c / 2 % 4)])) F (.lst ((fitP ls (n.1, v) c).map V.int)) F = some (.lst ((fitP ls (n.1, v) c).map V.int)) := upd_same
        have s35 := (sD.trans sl2).trans sF
        generalize hH5 : upd (upd (upd H3 D (.lst ((fitR ls (n.1, v) ls.length).map V.int))) l2 (.lst [.int ((xl.length : Int) - c / 2 % 4)])) F (.lst ((fitP ls (n.1, v) c).map V.int)) = H5 at *
        have s25 := sk.trans s35
        have h5b := s25 _ _ h2b
        have hpos : (0 : Int) < (((fitP ls (n.1, v) c).map V.int).length : Int) := by
          rw [List.length_map]
          unfold fitP
          rw [List.length_append, List.length_singleton]
          omega
        have hat := below_at ls (n.1, v) c
        rw [show ((fitP ls (n.1, v) c).length : Int) = (((fitP ls (n.1, v) c).map V.int).length : Int) by rw [List.length_map]] at hat
        -- below.append(fit[cell // 11 % len(fit)])
        refine ⟨_, rfl, .inl ⟨rfl, _, SqL.of h5b⟩, _, rfl, _, rfl, _, _, rfl, rfl, ⟨by decide, by decide⟩, _, rfl, F, _, rfl, .inl (SqL.of hFF), _, _, rfl, rfl, hpos, F, _, _, _, rfl, rfl, SqL.of hFF, hat, b, _, _, rfl, rfl, h5b, small1000 (by rw [List.length_map, List.length_take]; omega), ?_⟩
        refine ⟨_, _, _, rfl, Same.upd s5 hGb, ?_, ?_, ?_⟩
        · rw [upd_ne npb]; exact s25 _ _ h2p
        · rw [upd_same, htk, List.map_append]; rfl
        · rw [upd_ne (Ne.symm nvb)]; exact s25 _ _ h2v
    · rintro σ H2 ⟨o10, o13, o15, rfl, s2, h2p, h2b, h2v⟩
      rw [List.length_map, ← lbn, List.take_length] at h2b
      generalize hbs : belowP es ls n c = bs at *
      have hbl2 : bs.length ≤ 63 := by omega
      have lbm : (bs.map V.int).length = bs.length := List.length_map _
      refine ⟨_, rfl, b, _, rfl, .inl (SqL.of h2b), _, rfl, by omega, by rw [lbm]; omega, ?_⟩
      refine for_range (fun j σ H3 => ∃ o14 o16, σ = [some (.ref sh), some (.ref st), some (.ref la), some (.int c), o4, some wv, o6, some (.int place), some (.ref nq), some (.ref p), o10, none, some (.ref b), o13, o14, o15, o16, none] ∧
          Same G H3 ∧ H3 b = some (.lst (bs.map V.int)) ∧ ∃ xs, H3 p = some (.lst xs) ∧ Paired (PkAt (del G [la])) xs (gatherP ls n.1 (bs.take j)))
        ⟨none, none, rfl, s2, h2b, [], h2p, .nil⟩ ?_ ?_
      · rintro j σ H3 hj ⟨o14, o16, rfl, s3, h3b, xs, h3p, hxs⟩
        have hjl : j < bs.length := by rw [Int.toNat_natCast, lbm] at hj; exact hj
        have ej : (0 + (j : Int)) = ((j : Nat) : Int) := by omega
        have hz : bs[j]? = some bs[j] := List.getElem?_eq_getElem hjl
        generalize bs[j] = z at hz
        have htk : gatherP ls n.1 (bs.take (j + 1)) = gatherP ls n.1 (bs.take j) ++ rowP ls n.1 z := by
          unfold gatherP
          rw [List.take_succ, hz, List.flatMap_append]
          simp
        have hat : atI (bs.map V.int) (0 + (j : Int)) = some (.int z) := by rw [ej]; exact atI_nat (by rw [List.getElem?_map, hz]; rfl)
        have hS3 : SqL K H3 b (bs.map V.int) := SqL.of h3b
        have skip : nthZ ls z = none → Paired (PkAt (del G [la])) xs (gatherP ls n.1 (bs.take (j + 1))) := fun hno => by
          rw [htk]
          have er : rowP ls n.1 z = [] := by unfold rowP; rw [hno]; rfl
          rw [er, List.append_nil]
          exact hxs
        have hla3 := s3 _ _ hlaG
        refine ⟨_, rfl, _, rfl, b, _, _, _, rfl, rfl, hS3, hat, _, _, rfl, rfl, _, rfl, ?_⟩
        refine ite2 (fun d1 => ?_) (fun d1 => ?_)
        rotate_left
        · have d1' : ¬ (0 : Int) ≤ z := fun y => d1 (decide_eq_true y)
          exact iteF ⟨_, o16, rfl, s3, h3b, xs, h3p, skip (nthZ_none.mpr (.inl (by omega)))⟩
        have d1' : (0 : Int) ≤ z := of_decide_eq_true d1
        refine ⟨_, rfl, _, rfl, b, _, _, _, rfl, rfl, hS3, hat, _, rfl, la, _, rfl, .inl (SqL.of hla3), _, _, rfl, rfl, _, rfl, ?_⟩
        refine ite2 (fun d2 => ?_) (fun d2 => ?_)
        rotate_left
        · have d2' : ¬ z < (xl.length : Int) := fun y => d2 (decide_eq_true y)
          exact ⟨_, o16, rfl, s3, h3b, xs, h3p, skip (nthZ_none.mpr (.inr (by omega)))⟩
        have d2' : z < (xl.length : Int) := of_decide_eq_true d2
        obtain ⟨m, hm⟩ := nthZ_some (xs := ls) (i := z) d1' (by omega)
        obtain ⟨mv, hmv, hmn⟩ := nthZ_pair hlG hm
        obtain ⟨mq, ma, mr, rfl, hm1, ⟨ps, hm2, hm3⟩, _⟩ := id hmn
        have hmok := (hlu m (nthZ_mem hm)).ok
        have lps := Paired.length hm3
        have sdG : Same (del G [la]) H3 := (same_del _ _).trans s3
        have hm2' := sdG _ _ hm2
        refine ⟨_, rfl, _, rfl, _, rfl, b, _, _, _, rfl, rfl, hS3, hat, la, _, _, _, rfl, rfl, SqL.of hla3, nthZ_at hmv, mq, _, _, _, rfl, rfl, SqT.of (sdG _ _ hm1), rfl, ?_⟩
        refine ⟨_, rfl, .inl ⟨rfl, _, SqL.of h3p⟩, _, rfl, ma, rfl, ⟨ps, SqL.of hm2'⟩, ?_⟩
        refine comp_list (xs := ps) (fun D i ys H4 => Paired (PkAt (del G [la])) ys ((m.1.take i).filter fun p => !decide (p.1 = n.1)) ∧ H4 = upd H3 D (.lst ys) ∧ H3 D = none) (fun D hD => ⟨by simpa using Paired.nil, rfl, hD⟩)
          (fun D i ys H4 hi ⟨g1, g2, g3⟩ => ?_) (fun D i x ys H4 hi ⟨g1, g2, g3⟩ => ?_) (fun D ys H4 ⟨g1, g2, g3⟩ => ?_)
        · subst g2
          refine ⟨SqL.of (same_new g3 _ _ _ hm2'), upd_same, ?_⟩
          rw [Paired.length g1]
          exact Nat.lt_of_le_of_lt (Nat.le_trans (List.length_filter_le _ _) (Nat.le_trans (List.length_take_le' _ _) hmok.len)) (by rw [sizeLine_eq]; decide)
        · subst g2
          obtain ⟨k, hki, hk⟩ := Paired.getR hm3 hi
          have ht : m.1.take (i + 1) = m.1.take i ++ [k] := by rw [List.take_succ, hki]; rfl
          obtain ⟨kq, rfl, hkq⟩ := id hk
          have sD := same_new g3 (.lst ys)
          unfold gName
          refine ⟨_, rfl, kq, _, _, _, rfl, rfl, SqT.of (sD _ _ (sdG _ _ hkq)), rfl, _, rfl, nq, _, _, _, rfl, rfl, SqT.of (sD _ _ (s3 _ _ hnq)), rfl, rfl, _, rfl, ?_⟩
          rw [dec_str_iff]
          refine ite2 (fun cc => ?_) (fun cc => ?_)
          · refine ⟨_, rfl, upd_same, ?_, by rw [upd_upd], g3⟩
            rw [ht, List.filter_append, List.filter_cons, if_pos cc]
            exact Paired.snoc g1 hk
          · refine ⟨?_, rfl, g3⟩
            rw [ht, List.filter_append, List.filter_cons, if_neg cc, List.filter_nil, List.append_nil]
            exact g1
        · subst g2
          rw [lps, List.take_length] at g1
          have sD := same_new g3 (.lst ys)
          have er : rowP ls n.1 z = m.1.filter fun p => !decide (p.1 = n.1) := by unfold rowP; rw [hm]; rfl
          have lx := Paired.length hxs
          have ly : ys.length ≤ 20000 := by rw [Paired.length g1]; exact Nat.le_trans (List.length_filter_le _ _) hmok.len
          have l1 := gather_len hlu n.1 (bs.take j)
          rw [List.length_take] at l1
          have nbp : b ≠ p := Ne.symm npb
          refine ⟨p, D, xs, ys, rfl, rfl, sD _ _ h3p, upd_same, by rw [sizeLine_eq]; omega, ?_⟩
          refine ⟨_, _, rfl, Same.upd (s3.trans sD) hpG, ?_, _, upd_same, ?_⟩
          · rw [upd_ne nbp]; exact sD _ _ h3b
          · rw [htk, er]
            exact paired_app hxs g1
      · rintro σ H3 ⟨o14, o16, rfl, s3, h3b, xs, h3p, hxs⟩
        rw [Int.toNat_natCast, lbm, List.take_length] at hxs
        refine ⟨_, rfl, _, rfl, _, rfl, (by show 4 ≤ sizeLine; decide), fun r hr' => ?_⟩
        have s4 := same_new hr' (.tup [.str "open", wv, .int place, .ref b])
        have h4p := s4 _ _ h3p
        have h4b := s4 _ _ h3b
        have h4r : upd H3 r (.tup [.str "open", wv, .int place, .ref b]) r = some (.tup [.str "open", wv, .int place, .ref b]) := upd_same
        have sG4 := s3.trans s4
        generalize hH4 : upd H3 r (.tup [.str "open", wv, .int place, .ref b]) = H4 at *
        have hla4 := sG4 _ _ hlaG
        have sd : Same (del G [la]) (del H4 [la, p]) := same_del2 sG4 fun b' hb' => by
          simp only [List.mem_cons, List.not_mem_nil, or_false] at hb'
          rcases hb' with rfl | rfl
          · exact .inl (by simp)
          · exact .inr hpG
        have l1 := gather_len hlu n.1 bs
        refine kR p wv (.ref r) (gatherP ls n.1 bs) ⟨who, place, .many bs⟩ H4 _ _ _ _ _ _ _ _ _ _ _ ⟨sG.trans sG4, sG.free hpG, ⟨xs, h4p, Paired.mapP hxs fun _ _ y => PkAt.same sd y⟩, ⟨r, wv, .ref b, rfl, ?_, WhoAt.same sd hwv, ⟨b, rfl, ?_⟩⟩, WhoAt.same sd hwv⟩ (gather_uni hlu n.1 bs) hw1 (by omega) q
        · rw [del_out (by simp only [List.mem_cons, List.not_mem_nil, or_false, not_or]; exact ⟨ne_of h4r hla4 (by intro z; cases z), ne_of h4r h4p (by intro z; cases z)⟩)]
          exact h4r
        · rw [del_out (by simp only [List.mem_cons, List.not_mem_nil, or_false, not_or]; exact ⟨Ne.symm nlb, Ne.symm npb⟩)]
          exact h4b
end
end FB
namespace FB
open PySem L2 PyProof.Rows
seal PSs PS PE PT PA
theorem nd_en : (["_law_entry"] : List Str).Nodup := by decide +kernel
theorem who_pair {H : Hp} : ∀ {ys : List V} {es : List En}, Paired (PkAt H) ys (es.map keyOf) → Paired (WhoAt H) ys (es.map fun e => some (keyOf e))
  | _, [], .nil => .nil
  | _, _ :: _, .cons h t => .cons h (who_pair t)
theorem who_at {H : Hp} {ys : List V} {es : List En} (h : Paired (PkAt H) ys (es.map keyOf)) (c : Int) : ∃ v, atI (V.non :: ys) (c / 9 % ((V.non :: ys).length : Int)) = some v ∧ WhoAt H v (whoP es c) := by
  have hp : Paired (WhoAt H) (V.non :: ys) (whosP es) := .cons rfl (who_pair h)
  have hl := Paired.length hp
  have hpos : (0 : Int) < ((whosP es).length : Int) := by unfold whosP; rw [List.length_cons]; omega
  obtain ⟨o, ho⟩ := nthZ_some (xs := whosP es) (Int.emod_nonneg (c / 9) (by omega)) (Int.emod_lt_of_pos (c / 9) hpos)
  obtain ⟨v, hv, hw⟩ := nthZ_pair hp ho
  have e : whoP es c = o := by unfold whoP; rw [ho]; rfl
  rw [hl, e]
  exact ⟨v, nthZ_at hv, hw⟩
theorem need_at {H : Hp} {zs : List V} {ns : List Nd} {t : V} (h : Paired (NdAt H) zs ns) (ht : NdAt H t odd0) (c : Int) : ∃ v, atI (zs ++ [t]) (if placeP ns c > 0 then placeP ns c else 0) = some v ∧ NdAt H v (needP ns (placeP ns c)) := by
  have hp : Paired (NdAt H) (zs ++ [t]) (ns ++ [odd0]) := Paired.snoc h ht
  have h1 := Int.emod_lt_of_pos (c / 5) (show (0 : Int) < (ns.length : Int) + 1 by omega)
  have hb : 0 ≤ b2 (decide (c % 23 = 7)) := by unfold b2; split <;> decide
  have hlt : placeP ns c < (ns.length : Int) + 1 := by unfold placeP; omega
  obtain ⟨n, hn⟩ := nthZ_some (xs := ns ++ [odd0]) (i := max0 (placeP ns c)) (by unfold max0; split <;> omega) (by rw [List.length_append, List.length_singleton]; unfold max0; split <;> omega)
  obtain ⟨v, hv, hw⟩ := nthZ_pair hp hn
  have e : needP ns (placeP ns c) = n := by unfold needP; rw [hn]; rfl
  rw [e]
  exact ⟨v, nthZ_at hv, hw⟩
section
variable {P : Program} {w : World} {K : PySem.W.Frag} {mg : Str → Option Value} {base : Heap} {f : Addr} {fd : FuncData}
theorem ok_lineBy {g1 g3 : Addr} {gd1 gd3 : FuncData} (F : Fun K "_law_line_by" "_law_line_by" sLineBy f fd) (T : Txt K mg) (mM : mg "max" = none)
    (G1 : FnOk P w K mg base CX0 1 g1 gd1 ["_law_shelf", "_law_pick"] spNeedsIn) (b1 : Binds K gd1 ["_law_shelf", "_law_pick"] []) (k1 : PySem.W.keepIn K (.ref g1) = true) (m1 : mg "_law_needs_in" = some (.ref g1))
    (G3 : FnOk P w K mg base CX0 2 g3 gd3 ["_law_shelf", "_law_need"] (spNewest K)) (b3 : Binds K gd3 ["_law_shelf", "_law_need"] []) (k3 : PySem.W.keepIn K (.ref g3) = true) (m3 : mg "_law_newest" = some (.ref g3)) :
    FnOk P w K mg base CX0 3 f fd ["_law_shelf", "_law_start", "_law_lines", "_law_cell"] spLineBy := by
  refine F.ok scLb (fun vs H Q E h => ?_) (fun cdv A outer s H vs Q E hr h => ?_)
  · obtain ⟨sh, st, la, es, sn, ls, xl, c, rfl, _⟩ := h
    rfl
  obtain ⟨sh, st, la, es, sn, ls, xl, c, rfl, hsh, hst, B, hla, hlp, hlu, hll, q⟩ := h
  have hr1 : Room 1 _ := hr.mono (by decide)
  have hr2 : Room 2 _ := hr.mono (by decide)
  have G3' : FnOk P w K mg base CX0 2 g3 gd3 ["_law_shelf", "_law_need"] spNewF := G3.imp fun vs H Q E z => newF vs H Q E z
  obtain ⟨tR7, hR7, kR7⟩ := line7 (P := P) (w := w) (mg := mg) (base := base) (f := f) (cdv := cdv) (A := A) (outer := outer) (s := s) (Q := Q) (E := E) (st := st) (c := c) T hsh hla hlp B hlu hll hr2 hr.units G3' b3 k3 m3 (line8 B (line9 B hla (line10 hla B hr)))
  -- from the need's place on
  have r5 : ∃ tR : TS, PSs (cxOf CX0 P w K mg base nmL "_law_line_by" (defScope sLineBy) f cdv A outer s H E).nox ((defBody sLineBy).drop 5) tR ∧
      ∀ (na : Addr) (wv : V) (pl : Int) (G : Hp) (o4 : Option V), Same H G → WhoAt (del G [la]) wv (whoP es c) → NdsAt G na (needsFor es sn (whoP es c)) → pl = placeP (needsFor es sn (whoP es c)) c →
        tR { nx := fun _ H' => Q .non H', rt := Q } [some (.ref sh), some (.ref st), some (.ref la), some (.int c), o4, some wv, some (.ref na), some (.int pl), none, none, none, none, none, none, none, none, none, none] G := by
    refine ⟨_, (pss_cons (ps_set (i := 8) scLb.nd rfl (Or.inr rfl) (pe_ix ix_list (pe_op op_cat (pv 6) (pe_lst (pa_cons (pe_tup (pa_cons pe_str (pa_cons pe_int (pa_cons pe_int pa_nil)))) pa_nil))) (pe_callB (call_max2 rfl) rfl mM boot_max (pa_cons pe_int (pa_cons (pv 7) pa_nil))) (fun _ _ => rfl)))
      (pss_cons (ps_set (i := 9) scLb.nd rfl (Or.inl rfl) (pe_lst pa_nil)) hR7)), ?_⟩
    intro na wv pl G o4 sG hwv ⟨zs, hz, hzp⟩ hpl
    subst hpl
    have lz := Paired.length hzp
    have hnl : (needsFor es sn (whoP es c)).length ≤ 100 := by
      cases hw : whoP es c with
      | none => have := B.sl; show sn.length ≤ 100; omega
      | some k =>
        obtain ⟨e, he, hke⟩ := List.mem_map.mp (who_uni (sn := sn) hw)
        show (needsOf es k).length ≤ 100
        rw [← hke, needs_found B.nd he]
        exact (B.ok e he).few
    refine ⟨_, rfl, (by show 3 ≤ sizeLine; decide), fun t ht => ⟨(by show 1 ≤ sizeLine; decide), fun l hl => ?_⟩⟩
    have s1 := same_new ht (.tup [.str "ashenashenashen", .int 0, .int 0])
    have s2 := s1.trans (same_new hl (.lst [.ref t]))
    refine ⟨na, l, zs, _, rfl, rfl, s2 _ _ hz, upd_same, by rw [sizeLine_eq]; show zs.length + 1 ≤ _; omega, fun a ha => ?_⟩
    have s3 := s2.trans (same_new ha (.lst (zs ++ [.ref t])))
    have htt := (same_new ha (.lst (zs ++ [.ref t]))) _ _ ((same_new hl (.lst [.ref t])) _ _ (upd_same (H := G) (a := t) (o := .tup [.str "ashenashenashen", .int 0, .int 0])))
    have haa : upd (upd (upd G t (.tup [.str "ashenashenashen", .int 0, .int 0])) l (.lst [.ref t])) a (.lst (zs ++ [.ref t])) a = some (.lst (zs ++ [.ref t])) := upd_same
    generalize hG3 : upd (upd (upd G t (.tup [.str "ashenashenashen", .int 0, .int 0])) l (.lst [.ref t])) a (.lst (zs ++ [.ref t])) = G' at *
    obtain ⟨nv, hnv, hna⟩ := need_at (t := .ref t) (Paired.mapP hzp fun _ _ y => NdAt.same s3 y) ⟨t, rfl, htt⟩ c
    refine ⟨_, rfl, 0, _, rfl, a, _, _, _, rfl, rfl, SqL.of haa, hnv, ?_⟩
    refine ⟨(by show 0 ≤ sizeLine; decide), fun p hp => ?_⟩
    exact kR7 p wv nv (whoP es c) _ _ G' _ _ (sG.trans s3) hp (WhoAt.same (Same.del s3 _) hwv) hna (needP_all _ _) (fun k hk => List.mem_append_left _ (who_uni (sn := sn) hk)) q
  obtain ⟨tR5, hR5, kR5⟩ := r5
  have r4 : ∃ tR : TS, PSs (cxOf CX0 P w K mg base nmL "_law_line_by" (defScope sLineBy) f cdv A outer s H E).nox ((defBody sLineBy).drop 4) tR ∧
      ∀ (na : Addr) (wv : V) (G : Hp) (o4 : Option V), Same H G → WhoAt (del G [la]) wv (whoP es c) → NdsAt G na (needsFor es sn (whoP es c)) →
        tR { nx := fun _ H' => Q .non H', rt := Q } [some (.ref sh), some (.ref st), some (.ref la), some (.int c), o4, some wv, some (.ref na), none, none, none, none, none, none, none, none, none, none, none] G := by
    refine ⟨_, (pss_cons (ps_set (i := 7) scLb.nd rfl (Or.inl rfl) (pe_op op_sub (pe_op op_mod (pe_op op_fdiv (pv 3) pe_int) (pe_op op_add (pe_callB call_len_seq rfl T.len PySem.boot_len (pa_cons (pv 6) pa_nil)) pe_int)) (pe_callTy call_int1 rfl T.int boot_int (pa_cons (pe_cmpR op_eq (pe_op op_mod (pv 3) pe_int) pe_int (nomark _)) pa_nil)))) hR5), ?_⟩
    intro na wv G o4 sG hwv hns
    obtain ⟨zs, hz, hzp⟩ := id hns
    have lz := Paired.length hzp
    refine ⟨_, rfl, _, _, rfl, rfl, ⟨by decide, by decide⟩, _, rfl, na, _, rfl, .inl (SqL.of hz), _, _, rfl, rfl, _, _, rfl, rfl, (by show (0 : Int) < (zs.length : Int) + 1; omega), _, rfl, _, _, rfl, rfl, (by show (0 : Int) < 23; decide), rfl, .inr ⟨_, rfl, _, _, rfl, rfl, ?_⟩⟩
    refine kR5 na wv _ G o4 sG hwv hns ?_
    unfold placeP b2
    rw [lz]
    congr 2
    simp
  obtain ⟨tR4, hR4, kR4⟩ := r4
  refine ⟨_, (pss_cons (ps_set (i := 4) scLb.nd rfl (Or.inl rfl) (pe_op op_cat (pe_lst (pa_cons pe_non pa_nil)) (pe_comp (N' := ["_law_entry"]) (n := 1) (js := []) rfl (CompS.closed (by decide +kernel) (by decide +kernel) rfl (by decide +kernel) rfl) (gk_name (by decide)) (pi_list (pv 0))
        (fun C s2 H2 fp => pg_name (i := 0) nd_en rfl (Or.inl rfl)) (fun C s2 H2 fp => pts_nil) (fun C s2 H2 fp => pe_tup (pa_cons (pe_ix (r := rIxT K) ix_tup (pv 0) pe_int (fun _ _ => rfl)) (pa_cons (pe_ix (r := rIxT K) ix_tup (pv 0) pe_int (fun _ _ => rfl)) pa_nil))))))
    (pss_cons (ps_set (i := 5) scLb.nd rfl (Or.inl rfl) (pe_ix ix_list (pv 4) (pe_op op_mod (pe_op op_fdiv (pv 3) pe_int) (pe_callB call_len_seq rfl T.len PySem.boot_len (pa_cons (pv 4) pa_nil))) (fun _ _ => rfl)))
    (pss_cons (ps_set (i := 6) scLb.nd rfl (Or.inl rfl) (pv 1))
    (pss_cons (ps_if (pt_cmp (pc_notN (pv 5)))
      (pss_one (ps_set (i := 6) scLb.nd rfl (Or.inl rfl) (pe_call G1 hr1 rfl m1 k1 b1 .nil pass0 (pa_cons (pv 0) (pa_cons (pv 5) pa_nil))))) pss_nil) hR4)))), ?_⟩
  refine ⟨(by show 1 ≤ sizeLine; decide), fun l0 hl0 => ?_⟩
  have s0 := same_new hl0 (.lst [.non])
  have h00 : upd H l0 (.lst [.non]) l0 = some (.lst [.non]) := upd_same
  generalize hH0 : upd H l0 (.lst [.non]) = H0 at *
  have hla0 := s0 _ _ hla
  obtain ⟨zs, hz, hzp⟩ := ShAt.same s0 hsh
  have lz := Paired.length hzp
  refine ⟨_, rfl, sh, rfl, ⟨_, SqL.of hz⟩, ?_⟩
  refine comp_list (xs := zs) (fun D i ys H2 => Paired (PkAt (del H2 [la, D])) ys ((es.take i).map keyOf) ∧ H2 D = some (.lst ys) ∧ Same H0 H2 ∧ H0 D = none) (fun D hD => ⟨.nil, upd_same, same_new hD _, hD⟩)
    (fun D i ys H2 hi ⟨g1, g2, g3, g4⟩ => ⟨SqL.of (g3 _ _ hz), g2, ?_⟩) (fun D i x ys H2 hi ⟨g1, g2, g3, g4⟩ => ?_) (fun D ys H2 ⟨g1, g2, g3, g4⟩ => ?_)
  · rw [Paired.length g1, List.length_map, List.length_take]
    have := B.el
    exact small1000 (by omega)
  · obtain ⟨e, hei, eq, ea, ezs, rfl, he1, _⟩ := Paired.getR hzp hi
    have ht : es.take (i + 1) = es.take i ++ [e] := by rw [List.take_succ, hei]; rfl
    have hS : SqT K H2 eq [.str e.1, .int e.2.1, .ref ea] := SqT.of (g3 _ _ he1)
    unfold gName tYes
    dsimp only
    rw [if_pos rfl]
    refine ⟨_, rfl, eq, _, _, _, rfl, rfl, hS, rfl, _, rfl, eq, _, _, _, rfl, rfl, hS, rfl, (by show 2 ≤ sizeLine; decide), fun t ht2 => ?_⟩
    have s1 := same_new ht2 (.tup [.str e.1, .int e.2.1])
    have ntD : t ≠ D := Ne.symm (ne_of_none g2 ht2)
    have ntl : t ≠ la := Ne.symm (ne_of_none (g3 _ _ hla0) ht2)
    refine ⟨s1 _ _ g2, ?_, upd_same, Same.upd (g3.trans s1) g4, g4⟩
    rw [ht, List.map_append, del_upd (by simp)]
    refine Paired.snoc (Paired.mapP g1 fun _ _ y => PkAt.same (Same.del s1 _) y) ⟨t, rfl, ?_⟩
    rw [del_out (by simp only [List.mem_cons, List.not_mem_nil, or_false, not_or]; exact ⟨ntl, ntD⟩)]
    exact upd_same
  · rw [lz, List.take_length] at g1
    have ly := Paired.length g1
    rw [List.length_map] at ly
    have hel := B.el
    refine ⟨l0, D, _, ys, rfl, rfl, g3 _ _ h00, g2, by rw [sizeLine_eq]; show 1 + ys.length ≤ _; omega, fun wa hwa => ?_⟩
    have s5 := same_new hwa (.lst (V.non :: ys))
    have sG := s0.trans (g3.trans s5)
    have nwl : la ≠ wa := ne_of_none (g3 _ _ hla0) hwa
    have g1' : Paired (PkAt (del (upd H2 wa (.lst (V.non :: ys))) [la])) ys (es.map keyOf) := Paired.mapP g1 fun _ _ y => PkAt.same (same_del2 s5 fun b hb => .inl (by rw [List.mem_singleton.mp hb]; simp)) y
    obtain ⟨wv, hwat, hwv⟩ := who_at g1' c
    have hwaa : upd H2 wa (.lst (V.non :: ys)) wa = some (.lst (V.non :: ys)) := upd_same
    have goal := fun (na : Addr) (h : NdsAt (upd H2 wa (.lst (V.non :: ys))) na (needsFor es sn (whoP es c))) => kR4 na wv _ (some (.ref wa)) sG hwv h
    refine ⟨_, rfl, _, rfl, _, _, rfl, rfl, ⟨by decide, by decide⟩, _, rfl, wa, _, rfl, .inl (SqL.of hwaa), _, _, rfl, rfl, (by show (0 : Int) < ((V.non :: ys).length : Int); rw [List.length_cons]; omega), wa, _, _, _, rfl, rfl, SqL.of hwaa, hwat, ?_⟩
    refine ⟨_, rfl, ?_⟩
    cases hw : whoP es c with
    | none =>
      rw [hw] at hwv goal
      cases (show wv = .non from hwv)
      exact ⟨_, rfl, _, rfl, iteF (goal st (NdsAt.same sG hst))⟩
    | some k =>
      rw [hw] at hwv goal
      obtain ⟨kq, rfl, hkq⟩ := id (show PkAt _ wv k from hwv)
      refine ⟨_, rfl, _, rfl, iteT ?_⟩
      refine ⟨_, rfl, _, rfl, sh, .ref kq, es, k, rfl, ShAt.same sG hsh, ⟨kq, rfl, same_del _ _ _ _ hkq⟩, B.nd, fun e he hke na nz hna hnz => ?_, fun hno => absurd (who_uni (sn := sn) hw) hno⟩
      refine goal na ⟨nz, hna, ?_⟩
      show Paired _ nz (needsOf es k)
      rw [← hke, needs_found B.nd he]
      exact hnz
end
end FB
namespace FB
open PySem L2 PyProof.Rows
def cutG {α : Type} (xs : List α) (lo hi : Option Int) : List α := (xs.drop (HT.sIx xs.length 0 lo)).take (HT.sIx xs.length xs.length hi - HT.sIx xs.length 0 lo)
theorem cutG_mem {α : Type} {xs : List α} {lo hi : Option Int} {x : α} (h : x ∈ cutG xs lo hi) : x ∈ xs := List.mem_of_mem_drop (List.mem_of_mem_take h)
theorem cutG_len {α : Type} (xs : List α) (lo hi : Option Int) : (cutG xs lo hi).length ≤ xs.length := by
  unfold cutG
  rw [List.length_take, List.length_drop]
  omega
theorem cutG_map {α β : Type} (f : α → β) (xs : List α) (lo hi : Option Int) : cutG (xs.map f) lo hi = (cutG xs lo hi).map f := by
  unfold cutG
  rw [List.map_take, List.map_drop, List.length_map]
theorem cutV_G (xs : List V) (lo hi : Option Int) : cutV xs lo hi = cutG xs lo hi := rfl
theorem pair_drop {α β : Type} {F : α → β → Prop} {as : List α} {bs : List β} (h : Paired F as bs) : ∀ n, Paired F (as.drop n) (bs.drop n) := by
  induction h with
  | nil => intro n; simpa using Paired.nil
  | cons h t ih =>
    intro n
    cases n with
    | zero => exact .cons h t
    | succ n => exact ih n
theorem pair_take {α β : Type} {F : α → β → Prop} {as : List α} {bs : List β} (h : Paired F as bs) : ∀ n, Paired F (as.take n) (bs.take n) := by
  induction h with
  | nil => intro n; simpa using Paired.nil
  | cons h t ih =>
    intro n
    cases n with
    | zero => exact .nil
    | succ n => exact .cons h (ih n)
theorem cutG_pair {α β : Type} {F : α → β → Prop} {as : List α} {bs : List β} (h : Paired F as bs) (lo hi : Option Int) : Paired F (cutG as lo hi) (cutG bs lo hi) := by
  have e := Paired.length h
  unfold cutG
  rw [e]
  exact pair_take (pair_drop h _) _
structure LnB (n m : Nat) (l : Ln) : Prop where
  len : l.1.length ≤ n
  pk : ∀ p ∈ l.1, PartOk p.1
  who : ∀ k, l.2.who = some k → PartOk k.1
  one : ∀ k, l.2.told = .one k → PartOk k.1
  many : ∀ bs, l.2.told = .many bs → bs.length ≤ m
theorem LnB.mono {n m n' m' : Nat} {l : Ln} (h : LnB n m l) (hn : n ≤ n') (hm : m ≤ m') : LnB n' m' l := ⟨Nat.le_trans h.len hn, h.pk, h.who, h.one, fun bs hb => Nat.le_trans (h.many bs hb) hm⟩
theorem LnB.ok {n m : Nat} {l : Ln} (h : LnB n m l) (hn : n ≤ 20000) (hm : m ≤ 100) : LnOk l := ⟨Nat.le_trans h.len hn, h.pk, h.who, h.one, fun bs hb => Nat.le_trans (h.many bs hb) hm⟩
def oddP (seed many : Int) : Int := (nthZ [-1, many, 10 ^ (30 : Int).toNat] (seed / 8 % 3)).getD 0
def nameP (seed : Int) : Str := (nthZ (["ashenashenashen", "zinc"] : List Str) (seed / 8 % 2)).getD ""
def sp0 (seed : Int) (l : Ln) : Ln := if seed % 8 = 0 ∧ ¬ l.1 = [] then (cutG l.1 none (some (seed / 8 % (l.1.length : Int))) ++ cutG l.1 (some (seed / 8 % (l.1.length : Int) + 1)) none, l.2) else l
def sp1 (seed : Int) (l : Ln) : Ln := match l.2.told with
  | .one k => if seed % 8 = 1 then (l.1 ++ [(nameP seed, k.2)], ⟨l.2.who, l.2.place, .one (nameP seed, k.2)⟩) else l
  | .many _ => l
def spM (way : Int) (g : List Int → List Int) (seed : Int) (l : Ln) : Ln := match l.2.told with
  | .one _ => l
  | .many bs => if seed % 8 = way then (l.1, ⟨l.2.who, l.2.place, .many (g bs)⟩) else l
def g7 (odd : Int) (bs : List Int) : List Int := if bs = [] then [] else odd :: cutG bs (some 1) none
def sp5 (seed : Int) (l : Ln) : Ln := if seed % 8 = 5 then (l.1 ++ ([("zinc", 0)] : List Pk), ⟨some ("zinc", 0), l.2.place, l.2.told⟩) else l
def sp6 (seed many : Int) (l : Ln) : Ln := if seed % 8 = 6 then (l.1, ⟨l.2.who, oddP seed many, l.2.told⟩) else l
def sp7 (seed many : Int) (l : Ln) : Ln := spM 7 (g7 (oddP seed many)) seed l
def spoiltP (seed many : Int) (l : Ln) : Ln := sp7 seed many (sp6 seed many (sp5 seed (spM 4 List.reverse seed (spM 3 (· ++ [0]) seed (spM 2 (fun bs => cutG bs none (some (-1))) seed (sp1 seed (sp0 seed l)))))))
theorem partZ : PartOk "zinc" := ⟨by decide +kernel, by decide +kernel⟩
theorem name_ok (seed : Int) : PartOk (nameP seed) := by
  have h0 := Int.emod_nonneg (seed / 8) (show (2 : Int) ≠ 0 by decide)
  have h1 := Int.emod_lt_of_pos (seed / 8) (show (0 : Int) < 2 by decide)
  unfold nameP
  generalize seed / 8 % 2 = i at h0 h1
  obtain ⟨x, hx⟩ := nthZ_some (xs := (["ashenashenashen", "zinc"] : List Str)) (i := i) h0 h1
  rw [hx, Option.getD_some]
  have hm := nthZ_mem hx
  simp only [List.mem_cons, List.not_mem_nil, or_false] at hm
  rcases hm with rfl | rfl
  · exact partA
  · exact partZ
theorem cut2_len {α : Type} (xs : List α) (g : Int) (h0 : 0 ≤ g) (h1 : g < (xs.length : Int)) : (cutG xs none (some g) ++ cutG xs (some (g + 1)) none).length ≤ xs.length := by
  obtain ⟨k, rfl⟩ : ∃ k : Nat, g = (k : Int) := ⟨g.toNat, by omega⟩
  have e1 : HT.sIx xs.length xs.length (some ((k : Nat) : Int)) = min k xs.length := HT.sIx_nat _ _ k
  have e2 : HT.sIx xs.length 0 (some ((k : Int) + 1)) = min (k + 1) xs.length := HT.sIx_nat _ _ (k + 1)
  have e3 : HT.sIx xs.length 0 none = 0 := rfl
  have e4 : HT.sIx xs.length xs.length none = xs.length := rfl
  unfold cutG
  rw [List.length_append, List.length_take, List.length_take, List.length_drop, List.length_drop, e1, e2, e3, e4]
  omega
theorem sp0_b {n m : Nat} {seed : Int} {l : Ln} (h : LnB n m l) : LnB n m (sp0 seed l) := by
  unfold sp0
  by_cases c : seed % 8 = 0 ∧ ¬ l.1 = []
  · rw [if_pos c]
    have hpos : (0 : Int) < (l.1.length : Int) := by
      cases hl : l.1 with
      | nil => exact absurd hl c.2
      | cons a b => rw [List.length_cons]; omega
    refine ⟨Nat.le_trans (cut2_len l.1 _ (Int.emod_nonneg _ (by omega)) (Int.emod_lt_of_pos _ hpos)) h.len, fun p hp => ?_, h.who, h.one, h.many⟩
    rcases List.mem_append.mp hp with y | y
    · exact h.pk p (cutG_mem y)
    · exact h.pk p (cutG_mem y)
  · rw [if_neg c]; exact h
theorem sp1_b {n m : Nat} {seed : Int} {l : Ln} (h : LnB n m l) : LnB (n + 1) m (sp1 seed l) := by
  unfold sp1
  cases ht : l.2.told with
  | many bs => exact h.mono (by omega) (Nat.le_refl _)
  | one k =>
    dsimp only
    by_cases c : seed % 8 = 1
    · rw [if_pos c]
      refine ⟨by show (l.1 ++ [_]).length ≤ _; rw [List.length_append, List.length_singleton]; have := h.len; omega, fun p hp => ?_, h.who, fun k' hk' => ?_, fun bs hb => by cases hb⟩
      · rcases List.mem_append.mp hp with y | y
        · exact h.pk p y
        · rw [List.mem_singleton.mp y]; exact name_ok seed
      · cases hk'; exact name_ok seed
    · rw [if_neg c]; exact h.mono (by omega) (Nat.le_refl _)
theorem spM_b {n m : Nat} {way seed : Int} {g : List Int → List Int} {l : Ln} (hg : ∀ bs, (g bs).length ≤ bs.length + 1) (h : LnB n m l) : LnB n (m + 1) (spM way g seed l) := by
  unfold spM
  cases ht : l.2.told with
  | one k => exact h.mono (Nat.le_refl _) (by omega)
  | many bs =>
    dsimp only
    by_cases c : seed % 8 = way
    · rw [if_pos c]
      refine ⟨h.len, h.pk, h.who, (fun k hk => by cases hk), fun bs' hb => ?_⟩
      cases hb
      have := h.many bs ht
      have := hg bs
      omega
    · rw [if_neg c]; exact h.mono (Nat.le_refl _) (by omega)
theorem sp5_b {n m : Nat} {seed : Int} {l : Ln} (h : LnB n m l) : LnB (n + 1) m (sp5 seed l) := by
  unfold sp5
  by_cases c : seed % 8 = 5
  · rw [if_pos c]
    refine ⟨by show (l.1 ++ [_]).length ≤ _; rw [List.length_append, List.length_singleton]; have := h.len; omega, fun p hp => ?_, fun k hk => ?_, h.one, h.many⟩
    · rcases List.mem_append.mp hp with y | y
      · exact h.pk p y
      · rw [List.mem_singleton.mp y]; exact partZ
    · cases hk; exact partZ
  · rw [if_neg c]; exact h.mono (by omega) (Nat.le_refl _)
theorem sp6_b {n m : Nat} {seed many : Int} {l : Ln} (h : LnB n m l) : LnB n m (sp6 seed many l) := by
  unfold sp6
  by_cases c : seed % 8 = 6
  · rw [if_pos c]; exact ⟨h.len, h.pk, h.who, h.one, h.many⟩
  · rw [if_neg c]; exact h
theorem g7_len (odd : Int) (bs : List Int) : (g7 odd bs).length ≤ bs.length + 1 := by
  unfold g7
  split
  · exact Nat.zero_le _
  · rw [List.length_cons]; have := cutG_len bs (some 1) none; omega
def openB (ls : List Ln) (i : Nat) : Bool := decide (((ls[i]?).map fun l => wordOf l.2.told) = some "open")
def openR (ls : List Ln) (j : Nat) : List Int := ((List.range j).filter (openB ls)).map fun i : Nat => (i : Int)
def spotP (ls : List Ln) (s1 s2 len : Int) : Int :=
  let p := (s1 / 3 + len) % (ls.length : Int)
  if (decide ((s1 / 3 + s2) % 8 ∈ [2, 3, 4, 7]) && !(openR ls ls.length).isEmpty) = true then (nthZ (openR ls ls.length) (p % ((openR ls ls.length).length : Int))).getD 0 else p
def someP (es : List En) (sn : List Nd) (ns : List Int) : List Ln :=
  let ls := linesP es sn (cutG ns (some 4) none) (cutG ns (some 4) none).length
  let s1 := ns.getD 1 0
  let s2 := ns.getD 2 0
  if ¬ ls = [] ∧ 0 < s1 % 3 then (match nthZ ls (spotP ls s1 s2 (ns.length : Int)) with
    | none => ls
    | some l => ls.set (spotP ls s1 s2 (ns.length : Int)).toNat (spoiltP (s1 / 3 + s2) (ls.length : Int) l)) else ls
theorem openR_succ (ls : List Ln) (j : Nat) : openR ls (j + 1) = if openB ls j = true then openR ls j ++ [(j : Int)] else openR ls j := by
  unfold openR
  rw [List.range_succ, List.filter_append, List.filter_cons, List.filter_nil, List.map_append]
  by_cases h : openB ls j = true
  · rw [if_pos h, if_pos h]; rfl
  · rw [if_neg h, if_neg h, List.map_nil, List.append_nil]
theorem openR_len (ls : List Ln) (j : Nat) : (openR ls j).length ≤ j := by
  unfold openR
  rw [List.length_map]
  have := List.length_filter_le (openB ls) (List.range j)
  rwa [List.length_range] at this
theorem openR_mem {ls : List Ln} {j : Nat} {z : Int} (h : z ∈ openR ls j) : 0 ≤ z ∧ z < (j : Int) := by
  unfold openR at h
  obtain ⟨i, hi, rfl⟩ := List.mem_map.mp h
  have := List.mem_range.mp (List.mem_filter.mp hi).1
  omega
theorem spot_in {ls : List Ln} (s1 s2 len : Int) (h : ¬ ls = []) : 0 ≤ spotP ls s1 s2 len ∧ spotP ls s1 s2 len < (ls.length : Int) := by
  have hpos : (0 : Int) < (ls.length : Int) := by
    cases ls with
    | nil => exact absurd rfl h
    | cons a b => rw [List.length_cons]; omega
  unfold spotP
  dsimp only
  split
  · next c =>
    rw [Bool.and_eq_true] at c
    have hp2 : (0 : Int) < ((openR ls ls.length).length : Int) := by
      have c2 := c.2
      cases h2 : openR ls ls.length with
      | nil => rw [h2] at c2; cases c2
      | cons a b => rw [List.length_cons]; omega
    obtain ⟨x, hx⟩ := nthZ_some (xs := openR ls ls.length) (Int.emod_nonneg ((s1 / 3 + len) % (ls.length : Int)) (by omega)) (Int.emod_lt_of_pos ((s1 / 3 + len) % (ls.length : Int)) hp2)
    rw [hx, Option.getD_some]
    exact openR_mem (nthZ_mem hx)
  · exact ⟨Int.emod_nonneg _ (by omega), Int.emod_lt_of_pos _ hpos⟩
end FB
namespace FB
open PySem L2 PyProof.Rows
seal PSs PS PE PT PA
def spLinesBy (K : PySem.W.Frag) : Sp := fun vs H Q _ => ∃ (sh st ca : Addr) (es : List En) (sn : List Nd) (ns : List Int), vs = [.ref sh, .ref st, .ref ca] ∧ ShAt H sh es ∧ NdsAt H st sn ∧ BdOk es sn ∧ SqL K H ca (ns.map V.int) ∧ ns.length ≤ 63 ∧
  ∀ p xs H', Same H H' → H p = none → H' p = some (.lst xs) → Paired (LnAt (del H' [p])) xs (linesP es sn ns ns.length) → Q (.ref p) H'
theorem int_at {ns : List Int} {i : Nat} (h : i < ns.length) : atI (ns.map V.int) (i : Int) = some (.int (ns.getD i 0)) := by
  refine atI_nat ?_
  rw [List.getElem?_map, List.getElem?_eq_getElem h, List.getD_eq_getElem?_getD, List.getElem?_eq_getElem h]
  rfl
section
variable {P : Program} {w : World} {K : PySem.W.Frag} {mg : Str → Option Value} {base : Heap} {f : Addr} {fd : FuncData}
theorem scLs : FnScope ["_law_shelf", "_law_start", "_law_cells", "_law_lines", "_law_k", "_law_line", "_law_good"] ["_law_shelf", "_law_start", "_law_cells"] (defScope sLinesBy) := ⟨rfl, rfl, rfl, by decide +kernel, rfl, by decide +kernel, by decide +kernel⟩
theorem ok_linesBy {g1 g2 : Addr} {gd1 gd2 : FuncData} (F : Fun K "_law_lines_by" "_law_lines_by" sLinesBy f fd) (T : Txt K mg)
    (G1 : FnOk P w K mg base CX0 3 g1 gd1 ["_law_shelf", "_law_start", "_law_lines", "_law_cell"] spLineBy) (b1 : Binds K gd1 ["_law_shelf", "_law_start", "_law_lines", "_law_cell"] []) (k1 : PySem.W.keepIn K (.ref g1) = true) (m1 : mg "_law_line_by" = some (.ref g1))
    (G2 : FnOk P w K mg base CX0 3 g2 gd2 ["_law_shelf", "_law_start", "_law_lines", "_law_spot"] spHolds) (b2 : Binds K gd2 ["_law_shelf", "_law_start", "_law_lines", "_law_spot"] []) (k2 : PySem.W.keepIn K (.ref g2) = true) (m2 : mg "_law_holds" = some (.ref g2)) :
    FnOk P w K mg base CX0 4 f fd ["_law_shelf", "_law_start", "_law_cells"] (spLinesBy K) := by
  refine F.ok scLs (fun vs H Q E h => ?_) (fun cdv A outer s H vs Q E hr h => ?_)
  · obtain ⟨sh, st, ca, es, sn, ns, rfl, _⟩ := h
    rfl
  obtain ⟨sh, st, ca, es, sn, ns, rfl, hsh, hst, B, hca, hnl, q⟩ := h
  refine ⟨_, (pss_cons (ps_set (i := 3) scLs.nd rfl (Or.inl rfl) (pe_lst pa_nil))
    (pss_cons (ps_for PassesOwn.never rfl (pi_range1 rfl T.range (pa_cons (pe_callB call_len_seq rfl T.len PySem.boot_len (pa_cons (pv 2) pa_nil)) pa_nil)) (pg_name (i := 4) scLs.nd rfl (Or.inl rfl))
      (pss_cons (ps_set (i := 5) scLs.nd rfl (Or.inl rfl) (pe_call G1 hr rfl m1 k1 b1 .nil pass0 (pa_cons (pv 0) (pa_cons (pv 1) (pa_cons (pv 3) (pa_cons (pe_op op_add (pe_op op_mod (pe_ix ix_list (pv 2) (pv 4) (fun _ _ => rfl)) pe_int) (pe_op op_mul pe_int (pv 4))) pa_nil))))))
      (pss_cons (ps_set (i := 6) scLs.nd rfl (Or.inl rfl) (pe_call G2 hr rfl m2 k2 b2 .nil pass0 (pa_cons (pv 0) (pa_cons (pv 1) (pa_cons (pe_op op_cat (pv 3) (pe_lst (pa_cons (pv 5) pa_nil))) (pa_cons (pe_callB call_len_seq rfl T.len PySem.boot_len (pa_cons (pv 3) pa_nil)) pa_nil))))))
      (pss_one (ps_if (PW.pt (pw_or (pt_val (pv 6)) (pw_or1 (pt_cmpR op_eq (pe_op op_mod (pe_op op_add (pe_ix ix_list (pv 2) (pv 4) (fun _ _ => rfl)) (pv 4)) pe_int) pe_int (nomark _)))))
        (pss_one (ps_expr (pe_bm PySem.F.plainAttrs_list PySem.F.slot_list_append PySem.F.type_list_append mt_append (pv 3) (pa_cons (pv 5) pa_nil)))) pss_nil)))))
    (pss_one (ps_ret (pv 3))))), ?_⟩
  have lm : (ns.map V.int).length = ns.length := List.length_map _
  refine ⟨(by show 0 ≤ sizeLine; decide), fun p hp => ?_⟩
  have s0 := same_new hp (.lst [])
  refine ⟨_, rfl, ca, _, rfl, .inl (s0.seq hca), _, rfl, by omega, by rw [lm]; omega, ?_⟩
  refine for_range (fun i σ H2 => ∃ xs o4 o5 o6, σ = [some (.ref sh), some (.ref st), some (.ref ca), some (.ref p), o4, o5, o6] ∧ H2 p = some (.lst xs) ∧ Paired (LnAt (del H2 [p])) xs (linesP es sn ns i) ∧ Same H H2)
    ⟨[], none, none, none, rfl, upd_same, .nil, s0⟩ ?_ ?_
  · rintro i σ H2 hi ⟨xs, o4, o5, o6, rfl, h2p, hxs, s2⟩
    have hil : i < ns.length := by rw [Int.toNat_natCast, lm] at hi; exact hi
    have ei : (0 + (i : Int)) = ((i : Nat) : Int) := by omega
    rw [ei]
    have hat := int_at hil
    have hlu := lines_lu B ns i
    have hll := lines_len es sn ns i
    have lx := Paired.length hxs
    have eP : linesP es sn ns (i + 1) = stepP es sn ns i (linesP es sn ns i) := rfl
    generalize linesP es sn ns i = ls at *
    generalize hz : ns.getD i 0 = z at *
    have hS2 : SqL K H2 ca (ns.map V.int) := s2.seq hca
    refine ⟨_, rfl, _, rfl, _, rfl, _, rfl, _, rfl, ca, _, _, _, rfl, rfl, hS2, hat, _, _, rfl, rfl, (by show (0 : Int) < 100000; decide), _, rfl, _, _, rfl, rfl, .inl ⟨by decide, by decide⟩, _, _, rfl, rfl, sh, st, p, es, sn, ls, xs, _, rfl, ShAt.same s2 hsh, NdsAt.same s2 hst, B, h2p, hxs, hlu, by omega, fun v H3 s3 hv => ?_⟩
    have hll' : LU es sn (lineP es sn ls (z % 100000 + 17 * (i : Int))) := line_lu B hlu _
    have h3p := s3 _ _ h2p
    have hxs3 : Paired (LnAt (del H3 [p])) xs ls := Paired.mapP hxs fun _ _ y => LnAt.same (Same.del s3 _) y
    unfold stepP at eP
    rw [hz] at eP
    dsimp only at eP
    generalize lineP es sn ls (z % 100000 + 17 * (i : Int)) = l at *
    refine ⟨_, rfl, _, rfl, _, rfl, _, rfl, (by show 1 ≤ sizeLine; decide), fun l1 hl1 => ?_⟩
    have s4 := same_new hl1 (.lst [v])
    refine ⟨p, l1, xs, _, rfl, rfl, s4 _ _ h3p, upd_same, by rw [sizeLine_eq]; show xs.length + 1 ≤ _; omega, fun la hla => ?_⟩
    have s5 := same_new hla (.lst (xs ++ [v]))
    have s35 := s4.trans s5
    have s25 := (s2.trans s3).trans s35
    have hlaa : upd (upd H3 l1 (.lst [v])) la (.lst (xs ++ [v])) la = some (.lst (xs ++ [v])) := upd_same
    generalize hH5 : upd (upd H3 l1 (.lst [v])) la (.lst (xs ++ [v])) = H5 at *
    have h5p := s35 _ _ h3p
    have hlns : LnsAt H5 la (ls ++ [l]) := ⟨xs ++ [v], hlaa, Paired.mapP (Paired.snoc hxs3 hv) fun _ _ y => LnAt.same ((same_del _ _).trans s35) y⟩
    refine ⟨_, rfl, p, _, rfl, .inl (SqL.of h5p), sh, st, la, es, sn, ls ++ [l], xs.length, l, rfl, ShAt.same s25 hsh, (by have := B.el; omega), B.nd, B.ok, NdsAt.same s25 hst, B.sp, hlns, (fun l' hl' => ?_), (by rw [lx, List.getElem?_append_right (Nat.le_refl _), Nat.sub_self]; rfl), fun H6 s6 => ?_⟩
    · rcases List.mem_append.mp hl' with y | y
      · exact (hlu l' y).ok
      · rw [List.mem_singleton.mp y]; exact hll'.ok
    have h6p := s6 _ _ h5p
    have s26 := s25.trans s6
    have s36 := s35.trans s6
    have hxs6 : Paired (LnAt (del H6 [p])) xs ls := Paired.mapP hxs3 fun _ _ y => LnAt.same (Same.del s36 _) y
    have hv6 : LnAt (del H6 [p]) v l := LnAt.same (Same.del s36 _) hv
    have yes2 : (lineB es sn (ls ++ [l]) (ls.length : Int) l || decide ((z + (i : Int)) % 19 = 3)) = true → linesP es sn ns (i + 1) = ls ++ [l] := fun c => by rw [eP, if_pos c]
    have no2 : ¬ (lineB es sn (ls ++ [l]) (ls.length : Int) l || decide ((z + (i : Int)) % 19 = 3)) = true → linesP es sn ns (i + 1) = ls := fun c => by rw [eP, if_neg c]
    have hsz : xs.length < sizeLine := small1000 (by omega)
    rw [lx]
    have app : linesP es sn ns (i + 1) = ls ++ [l] → ∀ b : Bool, ∃ ys o4 o5 o6, [some (V.ref sh), some (.ref st), some (.ref ca), some (.ref p), some (.int (i : Int)), some v, some (.bl b)] = [some (V.ref sh), some (.ref st), some (.ref ca), some (.ref p), o4, o5, o6] ∧ upd H6 p (.lst (xs ++ [v])) p = some (.lst ys) ∧ Paired (LnAt (del (upd H6 p (.lst (xs ++ [v]))) [p])) ys (linesP es sn ns (i + 1)) ∧ Same H (upd H6 p (.lst (xs ++ [v]))) := fun e b =>
      ⟨xs ++ [v], _, _, _, rfl, upd_same, by rw [e, del_upd (by simp)]; exact Paired.snoc hxs6 hv6, Same.upd s26 hp⟩
    refine ⟨_, rfl, _, rfl, ?_⟩
    cases hb : lineB es sn (ls ++ [l]) (ls.length : Int) l with
    | true => exact iteT (iteT ⟨_, rfl, .inl ⟨rfl, _, SqL.of h6p⟩, _, rfl, p, xs, _, rfl, rfl, h6p, hsz, app (yes2 (by rw [hb]; rfl)) _⟩)
    | false =>
      refine iteF ⟨_, rfl, _, rfl, ca, _, _, _, rfl, rfl, s26.seq hca, hat, _, rfl, _, _, rfl, rfl, _, _, rfl, rfl, (by show (0 : Int) < 19; decide), rfl, _, rfl, ?_⟩
      refine ite2 (fun c => ?_) (fun c => ?_)
      · have c' : (z + (i : Int)) % 19 = 3 := by simpa using c
        exact ⟨_, rfl, .inl ⟨rfl, _, SqL.of h6p⟩, _, rfl, p, xs, _, rfl, rfl, h6p, hsz, app (yes2 (by rw [decide_eq_true c', Bool.or_true])) _⟩
      · have c' : ¬ (z + (i : Int)) % 19 = 3 := by simpa using c
        exact ⟨xs, _, _, _, rfl, h6p, by rw [no2 (by rw [hb, decide_eq_false c']; decide)]; exact hxs6, s26⟩
  · rintro σ H2 ⟨xs, o4, o5, o6, rfl, h2p, hxs, s2⟩
    rw [Int.toNat_natCast, lm] at hxs
    exact ⟨_, rfl, q p xs H2 s2 hp h2p hxs⟩
end
end FB
namespace FB
open PySem L2 PyProof.Rows
seal PSs PS PE PT PA
abbrev nmS : List Str := ["_law_line", "_law_seed", "_law_many", "_law_picks", "_law_reason", "_law_word", "_law_who", "_law_place", "_law_told", "_law_way", "_law_odd", "_law_gone"]
theorem scSp : FnScope nmS ["_law_line", "_law_seed", "_law_many"] (defScope sSpoilt) := ⟨rfl, rfl, rfl, by decide +kernel, rfl, by decide +kernel, by decide +kernel⟩
def spSpoilt : Sp := fun vs H Q _ => ∃ (v : V) (seed many : Int) (l : Ln) (d : Addr) (o : HO), vs = [v, .int seed, .int many] ∧ H d = some o ∧ LnAt (del H [d]) v l ∧ LnB 19990 63 l ∧
  ∀ v' H', Same H H' → LnAt (del H' [d]) v' (spoiltP seed many l) → Q v' H'
theorem odd_at (seed many : Int) : atI [V.int (-1), V.int many, V.int (10 ^ (30 : Int).toNat)] (seed / 8 % 3) = some (.int (oddP seed many)) := by
  have h0 := Int.emod_nonneg (seed / 8) (show (3 : Int) ≠ 0 by decide)
  have h1 := Int.emod_lt_of_pos (seed / 8) (show (0 : Int) < 3 by decide)
  obtain ⟨x, hx⟩ := nthZ_some (xs := [-1, many, 10 ^ (30 : Int).toNat]) (i := seed / 8 % 3) h0 h1
  have e : oddP seed many = x := by unfold oddP; rw [hx]; rfl
  rw [e]
  refine nthZ_at (xs := [-1, many, 10 ^ (30 : Int).toNat].map V.int) ?_
  rw [nthZ_map, hx]
  rfl
theorem name_at (seed : Int) : atI [V.str "ashenashenashen", V.str "zinc"] (seed / 8 % 2) = some (.str (nameP seed)) := by
  have h0 := Int.emod_nonneg (seed / 8) (show (2 : Int) ≠ 0 by decide)
  have h1 := Int.emod_lt_of_pos (seed / 8) (show (0 : Int) < 2 by decide)
  obtain ⟨x, hx⟩ := nthZ_some (xs := (["ashenashenashen", "zinc"] : List Str)) (i := seed / 8 % 2) h0 h1
  have e : nameP seed = x := by unfold nameP; rw [hx]; rfl
  rw [e]
  refine nthZ_at (xs := (["ashenashenashen", "zinc"] : List Str).map V.str) ?_
  rw [nthZ_map, hx]
  rfl
theorem del_new {H : Hp} {d p : Addr} {o x : HO} (hd : H d = some o) (hp : H p = none) : del (upd H p x) [d] p = some x := by
  rw [del_out (by simpa using Ne.symm (ne_of_none hd hp))]
  exact upd_same
def stS (o0 : Option V) (seed many : Int) (pa : Addr) (o4 : Option V) (l : Ln) (wv tv : V) (o11 : Option V) : L2.St := [o0, some (.int seed), some (.int many), some (.ref pa), o4, some (.str (wordOf l.2.told)), some wv, some (.int l.2.place), some tv, some (.int (seed % 8)), some (.int (oddP seed many)), o11]
structure SpI (H H1 : Hp) (d pa : Addr) (wv tv : V) (l : Ln) : Prop where
  sm : Same H H1
  pk : PksAt (del H1 [d]) pa l.1
  who : WhoAt (del H1 [d]) wv l.2.who
  told : ToldAt (del H1 [d]) tv l.2.told
def RestS (P : Program) (w : World) (K : PySem.W.Frag) (mg : Str → Option Value) (base : Heap) (f : Addr) (cdv : Value) (A : Around) (outer : List Env) (s : Shared) (H : Hp) (Q : VK) (E : XK) (seed many : Int) (d : Addr) (i n m : Nat) (Fn : Ln → Ln) : Prop :=
  ∃ tR : TS, PSs (cxOf CX0 P w K mg base nmS "_law_spoilt" (defScope sSpoilt) f cdv A outer s H E).nox ((defBody sSpoilt).drop i) tR ∧
      ∀ (l : Ln) (pa : Addr) (wv tv : V) (H1 : Hp) (o0 o4 o11 : Option V), SpI H H1 d pa wv tv l → LnB n m l → (∀ v H', Same H H' → LnAt (del H' [d]) v (Fn l) → Q v H') →
        tR { nx := fun _ H' => Q .non H', rt := Q } (stS o0 seed many pa o4 l wv tv o11) H1
theorem SpI.same {H H1 H2 : Hp} {d pa : Addr} {wv tv : V} {l : Ln} (I : SpI H H1 d pa wv tv l) (e : Same H1 H2) : SpI H H2 d pa wv tv l := ⟨I.sm.trans e, PksAt.same (Same.del e _) I.pk, WhoAt.same (Same.del e _) I.who, ToldAt.same (Same.del e _) I.told⟩
section
variable {P : Program} {w : World} {K : PySem.W.Frag} {mg : Str → Option Value} {base : Heap} {f : Addr} {fd : FuncData} {cdv : Value} {A : Around} {outer : List Env} {s : Shared} {H : Hp} {Q : VK} {E : XK} {seed many : Int} {d : Addr} {od : HO}
theorem spo12 (hd : H d = some od) : RestS P w K mg base f cdv A outer s H Q E seed many d 12 30000 100 id := by
  refine ⟨_, pss_one (ps_ret (pe_tup (pa_cons (pv 3) (pa_cons (pe_tup (pa_cons (pv 5) (pa_cons (pv 6) (pa_cons (pv 7) (pa_cons (pv 8) pa_nil))))) pa_nil)))), ?_⟩
  intro l pa wv tv H1 o0 o4 o11 I hB q
  have hd1 := I.sm _ _ hd
  refine ⟨_, rfl, _, rfl, _, rfl, _, rfl, _, rfl, (by show 4 ≤ sizeLine; decide), fun r hr => ⟨(by show 2 ≤ sizeLine; decide), fun t ht => ?_⟩⟩
  have s1 := same_new hr (.tup [.str (wordOf l.2.told), wv, .int l.2.place, tv])
  have s2 := same_new ht (.tup [.ref pa, .ref r])
  have I2 := I.same (s1.trans s2)
  have hr1 := Same.del s2 [d] _ _ (del_new (x := .tup [.str (wordOf l.2.told), wv, .int l.2.place, tv]) hd1 hr)
  exact q _ _ I2.sm ⟨t, pa, .ref r, rfl, del_new (s1 _ _ hd1) ht, I2.pk, ⟨r, wv, tv, rfl, hr1, I2.who, I2.told⟩⟩
theorem spo11 (hu : (A.deeper (envOfC "_law_spoilt" (defScope sSpoilt) s.heap.objs.size f cdv)).units + 64 < cLine) (hd : H d = some od) (r : RestS P w K mg base f cdv A outer s H Q E seed many d 12 30000 100 id) : RestS P w K mg base f cdv A outer s H Q E seed many d 11 30000 99 (sp7 seed many) := by
  obtain ⟨tR, hR, kR⟩ := r
  refine ⟨_, (pss_cons (ps_if (PW.pt (pw_and (pt_cmpR op_eq (pv 9) pe_int (nomark _)) (pw_and (pt_cmpR op_eq (pv 5) pe_str (nomark _)) (pw_and1 (pt_cmpR (op_neD hu) (pv 8) (pe_lst pa_nil) (nomark _))))))
      (pss_one (ps_set (i := 8) scSp.nd rfl (Or.inl rfl) (pe_op op_cat (pe_lst (pa_cons (pv 10) pa_nil)) (pe_slice sl_list (pv 8) (po_some pe_int) po_none)))) pss_nil) hR), ?_⟩
  intro l pa wv tv H1 o0 o4 o11 I hB q
  have hd1 := I.sm _ _ hd
  have skip : sp7 seed many l = l → tR { nx := fun _ H' => Q .non H', rt := Q } (stS o0 seed many pa o4 l wv tv o11) H1 := fun e => kR l pa wv tv H1 o0 o4 o11 I (hB.mono (Nat.le_refl _) (by decide)) (by rw [e] at q; exact q)
  refine ⟨_, rfl, rfl, _, rfl, ?_⟩
  refine ite2 (fun c => ?_) (fun c => ?_)
  rotate_left
  · have c' : ¬ seed % 8 = 7 := by simpa using c
    exact iteF (skip (by unfold sp7 spM; cases l.2.told with | one k => rfl | many bs => exact if_neg c'))
  have c' : seed % 8 = 7 := by simpa using c
  cases ht : l.2.told with
  | one k =>
    have e0 : sp7 seed many l = l := by unfold sp7 spM; rw [ht]
    refine ⟨_, rfl, rfl, _, rfl, ?_⟩
    rw [ht]
    refine ite2 (fun c2 => absurd c2 (show ¬ decide (V.str "outside" = V.str "open") = true by decide +kernel)) (fun _ => iteF ?_)
    exact skip e0
  | many bs =>
    have htd := I.told
    rw [ht] at htd
    obtain ⟨b, rfl, hb0⟩ := htd
    have hb := same_del _ _ _ _ hb0
    have e0 : sp7 seed many l = (l.1, ⟨l.2.who, l.2.place, .many (g7 (oddP seed many) bs)⟩) := by unfold sp7 spM; rw [ht]; exact if_pos c'
    refine ⟨_, rfl, rfl, _, rfl, ?_⟩
    rw [ht]
    refine ite2 (fun _ => ?_) (fun c2 => absurd (show decide (V.str "open" = V.str "open") = true by decide +kernel) c2)
    refine ⟨_, rfl, (by show 0 ≤ sizeLine; decide), fun z hz => ?_⟩
    have s1 := same_new hz (.lst [])
    refine ⟨.list (bs.map PyData.int), .list [], many_rep (s1 _ _ hb), .lst upd_same .nil, okD_shaped (ints_ok 0 bs) (by decide), rfl, _, rfl, ?_⟩
    rw [eqv_nil]
    have I1 := I.same s1
    cases hbs : bs with
    | nil =>
      have e1 : sp7 seed many l = l := by
        rw [e0, hbs]
        obtain ⟨ps, ⟨wh, pl, td⟩⟩ := l
        have ht' : td = .many bs := ht
        rw [ht', hbs]
        rfl
      refine iteF ?_
      exact kR l pa wv (.ref b) _ o0 o4 o11 I1 (hB.mono (Nat.le_refl _) (by decide)) (by rw [e1] at q; exact q)
    | cons b0 bs' =>
      rw [← hbs]
      have hem : (bs.map PyData.int).isEmpty = false := by rw [hbs]; rfl
      rw [hem]
      refine iteT ?_
      have hg7 : g7 (oddP seed many) bs = oddP seed many :: cutG bs (some 1) none := by unfold g7; rw [if_neg (by rw [hbs]; simp)]
      refine ⟨_, rfl, (by show 1 ≤ sizeLine; decide), fun l1 hl1 => ?_⟩
      have s2 := same_new hl1 (.lst [.int (oddP seed many)])
      refine ⟨_, rfl, 1, rfl, b, _, rfl, SqL.of (s2 _ _ (s1 _ _ hb)), fun l2 hl2 => ?_⟩
      have s3 := same_new hl2 (.lst (cutV (bs.map V.int) (some 1) none))
      have hbl := hB.many bs ht
      have hcl := cutV_length (bs.map V.int) (some 1) none
      rw [List.length_map] at hcl
      refine ⟨l1, l2, _, _, rfl, rfl, s3 _ _ upd_same, upd_same, by rw [sizeLine_eq]; show 1 + (cutV (bs.map V.int) (some 1) none).length ≤ _; omega, fun t ht2 => ?_⟩
      have ev : [V.int (oddP seed many)] ++ cutV (bs.map V.int) (some 1) none = (g7 (oddP seed many) bs).map V.int := by
        rw [hg7, cutV_G, cutG_map]
        rfl
      rw [ev]
      have s4 := same_new ht2 (.lst ((g7 (oddP seed many) bs).map V.int))
      have I4 := I1.same ((s2.trans s3).trans s4)
      have hd4 := (s2.trans s3) _ _ (s1 _ _ hd1)
      unfold stS
      rw [ht]
      refine kR (l.1, ⟨l.2.who, l.2.place, .many (g7 (oddP seed many) bs)⟩) pa wv (.ref t) _ o0 o4 o11 ⟨I4.sm, I4.pk, I4.who, ⟨t, rfl, del_new hd4 ht2⟩⟩ ⟨hB.len, hB.pk, hB.who, (fun k hk => by cases hk), fun bs2 hb2 => ?_⟩ (by rw [e0] at q; exact q)
      cases hb2
      have := g7_len (oddP seed many) bs
      omega
theorem spo10 (r : RestS P w K mg base f cdv A outer s H Q E seed many d 11 30000 99 (sp7 seed many)) : RestS P w K mg base f cdv A outer s H Q E seed many d 10 30000 99 (fun l => sp7 seed many (sp6 seed many l)) := by
  obtain ⟨tR, hR, kR⟩ := r
  refine ⟨_, (pss_cons (ps_if (pt_cmpR op_eq (pv 9) pe_int (nomark _)) (pss_one (ps_set (i := 7) scSp.nd rfl (Or.inl rfl) (pv 10))) pss_nil) hR), ?_⟩
  intro l pa wv tv H1 o0 o4 o11 I hB q
  refine ⟨_, rfl, rfl, _, rfl, ?_⟩
  refine ite2 (fun c => ?_) (fun c => ?_)
  · have c' : seed % 8 = 6 := by simpa using c
    have e : sp6 seed many l = (l.1, ⟨l.2.who, oddP seed many, l.2.told⟩) := by unfold sp6; rw [if_pos c']
    exact ⟨_, rfl, kR (l.1, ⟨l.2.who, oddP seed many, l.2.told⟩) pa wv tv H1 o0 o4 o11 ⟨I.sm, I.pk, I.who, I.told⟩ ⟨hB.len, hB.pk, hB.who, hB.one, hB.many⟩ (by dsimp only at q; rw [e] at q; exact q)⟩
  · have c' : ¬ seed % 8 = 6 := by simpa using c
    exact kR l pa wv tv H1 o0 o4 o11 I hB (by dsimp only at q; rw [show sp6 seed many l = l by unfold sp6; rw [if_neg c']] at q; exact q)
theorem spo9 (hd : H d = some od) (r : RestS P w K mg base f cdv A outer s H Q E seed many d 10 30000 99 (fun l => sp7 seed many (sp6 seed many l))) : RestS P w K mg base f cdv A outer s H Q E seed many d 9 29999 99 (fun l => sp7 seed many (sp6 seed many (sp5 seed l))) := by
  obtain ⟨tR, hR, kR⟩ := r
  refine ⟨_, (pss_cons (ps_if (pt_cmpR op_eq (pv 9) pe_int (nomark _)) (pss_cons (ps_set (i := 6) scSp.nd rfl (Or.inl rfl) (pe_tup (pa_cons pe_str (pa_cons pe_int pa_nil)))) (pss_one (ps_set (i := 3) scSp.nd rfl (Or.inl rfl) (pe_op op_cat (pv 3) (pe_lst (pa_cons (pv 6) pa_nil)))))) pss_nil) hR), ?_⟩
  intro l pa wv tv H1 o0 o4 o11 I hB q
  have hd1 := I.sm _ _ hd
  have hB' : LnB 30000 99 (sp5 seed l) := sp5_b hB
  refine ⟨_, rfl, rfl, _, rfl, ?_⟩
  refine ite2 (fun c => ?_) (fun c => ?_)
  · have c' : seed % 8 = 5 := by simpa using c
    have e : sp5 seed l = (l.1 ++ ([("zinc", 0)] : List Pk), ⟨some ("zinc", 0), l.2.place, l.2.told⟩) := by unfold sp5; rw [if_pos c']
    rw [e] at hB'
    refine ⟨(by show 2 ≤ sizeLine; decide), fun t ht => ?_⟩
    have s1 := same_new ht (.tup [.str "zinc", .int 0])
    refine ⟨_, rfl, _, rfl, (by show 1 ≤ sizeLine; decide), fun l1 hl1 => ?_⟩
    have s2 := same_new hl1 (.lst [.ref t])
    obtain ⟨xs, hx, hxp⟩ := I.pk
    have lx := Paired.length hxp
    have hlen := hB.len
    refine ⟨pa, l1, xs, _, rfl, rfl, (s1.trans s2) _ _ (same_del _ _ _ _ hx), upd_same, by rw [sizeLine_eq]; show xs.length + 1 ≤ _; omega, fun p hp => ?_⟩
    have s3 := same_new hp (.lst (xs ++ [.ref t]))
    have I3 := I.same ((s1.trans s2).trans s3)
    have htA : PkAt (del (upd (upd (upd H1 t (.tup [.str "zinc", .int 0])) l1 (.lst [.ref t])) p (.lst (xs ++ [.ref t]))) [d]) (.ref t) ("zinc", 0) := ⟨t, rfl, Same.del (s2.trans s3) [d] _ _ (del_new hd1 ht)⟩
    refine kR (l.1 ++ ([("zinc", 0)] : List Pk), ⟨some ("zinc", 0), l.2.place, l.2.told⟩) p (.ref t) tv _ o0 o4 o11 ⟨I3.sm, ⟨xs ++ [.ref t], del_new ((s1.trans s2) _ _ hd1) hp, Paired.snoc (Paired.mapP hxp fun _ _ y => PkAt.same (Same.del ((s1.trans s2).trans s3) _) y) htA⟩, htA, I3.told⟩ hB' (by dsimp only at q; rw [e] at q; exact q)
  · have c' : ¬ seed % 8 = 5 := by simpa using c
    exact kR l pa wv tv H1 o0 o4 o11 I (hB.mono (by decide) (Nat.le_refl _)) (by dsimp only at q; rw [show sp5 seed l = l by unfold sp5; rw [if_neg c']] at q; exact q)
theorem spo8 (T : Txt K mg) (hd : H d = some od) (r : RestS P w K mg base f cdv A outer s H Q E seed many d 9 29999 99 (fun l => sp7 seed many (sp6 seed many (sp5 seed l)))) : RestS P w K mg base f cdv A outer s H Q E seed many d 8 29999 98 (fun l => sp7 seed many (sp6 seed many (sp5 seed (spM 4 List.reverse seed l)))) := by
  obtain ⟨tR, hR, kR⟩ := r
  refine ⟨_, (pss_cons (ps_if (PW.pt (pw_and (pt_cmpR op_eq (pv 9) pe_int (nomark _)) (pw_and1 (pt_cmpR op_eq (pv 5) pe_str (nomark _)))))
      (pss_one (ps_set (i := 8) scSp.nd rfl (Or.inl rfl) (pe_revL rfl rfl T.list rfl T.rev (pv 8)))) pss_nil) hR), ?_⟩
  intro l pa wv tv H1 o0 o4 o11 I hB q
  dsimp only at q
  have hd1 := I.sm _ _ hd
  have skip : spM 4 List.reverse seed l = l → tR { nx := fun _ H' => Q .non H', rt := Q } (stS o0 seed many pa o4 l wv tv o11) H1 := fun e => kR l pa wv tv H1 o0 o4 o11 I (hB.mono (Nat.le_refl _) (by decide)) (by rw [e] at q; exact q)
  refine ⟨_, rfl, rfl, _, rfl, ?_⟩
  refine ite2 (fun c => ?_) (fun c => ?_)
  rotate_left
  · have c' : ¬ seed % 8 = 4 := by simpa using c
    exact iteF (skip (by unfold spM; cases l.2.told with | one k => rfl | many bs => exact if_neg c'))
  have c' : seed % 8 = 4 := by simpa using c
  cases ht : l.2.told with
  | one k =>
    have e0 : spM 4 List.reverse seed l = l := by unfold spM; rw [ht]
    refine ⟨_, rfl, rfl, _, rfl, ?_⟩
    rw [ht]
    refine ite2 (fun c2 => absurd c2 (show ¬ decide (V.str "outside" = V.str "open") = true by decide +kernel)) (fun _ => ?_)
    exact skip e0
  | many bs =>
    have htd := I.told
    rw [ht] at htd
    obtain ⟨b, rfl, hb0⟩ := htd
    have hb := same_del _ _ _ _ hb0
    have hbl := hB.many bs ht
    have e0 : spM 4 List.reverse seed l = (l.1, ⟨l.2.who, l.2.place, .many (List.reverse bs)⟩) := by unfold spM; rw [ht]; exact if_pos c'
    refine ⟨_, rfl, rfl, _, rfl, ?_⟩
    rw [ht]
    refine ite2 (fun _ => ?_) (fun c2 => absurd (show decide (V.str "open" = V.str "open") = true by decide +kernel) c2)
    refine ⟨_, rfl, b, _, rfl, SqL.of hb, fun t ht2 => ?_⟩
    have ev : (bs.map V.int).reverse = (bs.reverse).map V.int := by rw [List.map_reverse]
    have s3 : Same H1 H1 := Same.refl _
    rw [ev]
    have s4 := same_new ht2 (.lst ((List.reverse bs).map V.int))
    have I4 := I.same (s3.trans s4)
    unfold stS
    rw [ht]
    refine kR (l.1, ⟨l.2.who, l.2.place, .many (List.reverse bs)⟩) pa wv (.ref t) _ o0 o4 o11 ⟨I4.sm, I4.pk, I4.who, ⟨t, rfl, del_new (s3 _ _ hd1) ht2⟩⟩ ⟨hB.len, hB.pk, hB.who, (fun k hk => by cases hk), fun bs2 hb2 => ?_⟩ (by rw [e0] at q; exact q)
    cases hb2
    show (List.reverse bs).length ≤ 99
    rw [List.length_reverse]; omega
theorem spo7 (T : Txt K mg) (hd : H d = some od) (r : RestS P w K mg base f cdv A outer s H Q E seed many d 8 29999 98 (fun l => sp7 seed many (sp6 seed many (sp5 seed (spM 4 List.reverse seed l))))) : RestS P w K mg base f cdv A outer s H Q E seed many d 7 29999 97 (fun l => sp7 seed many (sp6 seed many (sp5 seed (spM 4 List.reverse seed (spM 3 (· ++ [0]) seed l))))) := by
  obtain ⟨tR, hR, kR⟩ := r
  refine ⟨_, (pss_cons (ps_if (PW.pt (pw_and (pt_cmpR op_eq (pv 9) pe_int (nomark _)) (pw_and1 (pt_cmpR op_eq (pv 5) pe_str (nomark _)))))
      (pss_one (ps_set (i := 8) scSp.nd rfl (Or.inl rfl) (pe_op op_cat (pv 8) (pe_lst (pa_cons pe_int pa_nil))))) pss_nil) hR), ?_⟩
  intro l pa wv tv H1 o0 o4 o11 I hB q
  dsimp only at q
  have hd1 := I.sm _ _ hd
  have skip : spM 3 (· ++ [0]) seed l = l → tR { nx := fun _ H' => Q .non H', rt := Q } (stS o0 seed many pa o4 l wv tv o11) H1 := fun e => kR l pa wv tv H1 o0 o4 o11 I (hB.mono (Nat.le_refl _) (by decide)) (by rw [e] at q; exact q)
  refine ⟨_, rfl, rfl, _, rfl, ?_⟩
  refine ite2 (fun c => ?_) (fun c => ?_)
  rotate_left
  · have c' : ¬ seed % 8 = 3 := by simpa using c
    exact iteF (skip (by unfold spM; cases l.2.told with | one k => rfl | many bs => exact if_neg c'))
  have c' : seed % 8 = 3 := by simpa using c
  cases ht : l.2.told with
  | one k =>
    have e0 : spM 3 (· ++ [0]) seed l = l := by unfold spM; rw [ht]
    refine ⟨_, rfl, rfl, _, rfl, ?_⟩
    rw [ht]
    refine ite2 (fun c2 => absurd c2 (show ¬ decide (V.str "outside" = V.str "open") = true by decide +kernel)) (fun _ => ?_)
    exact skip e0
  | many bs =>
    have htd := I.told
    rw [ht] at htd
    obtain ⟨b, rfl, hb0⟩ := htd
    have hb := same_del _ _ _ _ hb0
    have hbl := hB.many bs ht
    have e0 : spM 3 (· ++ [0]) seed l = (l.1, ⟨l.2.who, l.2.place, .many ((· ++ [0]) bs)⟩) := by unfold spM; rw [ht]; exact if_pos c'
    refine ⟨_, rfl, rfl, _, rfl, ?_⟩
    rw [ht]
    refine ite2 (fun _ => ?_) (fun c2 => absurd (show decide (V.str "open" = V.str "open") = true by decide +kernel) c2)
    refine ⟨_, rfl, (by show 1 ≤ sizeLine; decide), fun l1 hl1 => ?_⟩
    have s3 := same_new hl1 (.lst [.int 0])
    refine ⟨b, l1, _, _, rfl, rfl, s3 _ _ hb, upd_same, by rw [sizeLine_eq, List.length_map]; show bs.length + 1 ≤ _; omega, fun t ht2 => ?_⟩
    have ev : bs.map V.int ++ [V.int 0] = (bs ++ [0]).map V.int := by rw [List.map_append]; rfl
    rw [ev]
    have s4 := same_new ht2 (.lst (((· ++ [0]) bs).map V.int))
    have I4 := I.same (s3.trans s4)
    unfold stS
    rw [ht]
    refine kR (l.1, ⟨l.2.who, l.2.place, .many ((· ++ [0]) bs)⟩) pa wv (.ref t) _ o0 o4 o11 ⟨I4.sm, I4.pk, I4.who, ⟨t, rfl, del_new (s3 _ _ hd1) ht2⟩⟩ ⟨hB.len, hB.pk, hB.who, (fun k hk => by cases hk), fun bs2 hb2 => ?_⟩ (by rw [e0] at q; exact q)
    cases hb2
    show ((· ++ [0]) bs).length ≤ 98
    rw [List.length_append, List.length_singleton]; omega
theorem spo6 (T : Txt K mg) (hd : H d = some od) (r : RestS P w K mg base f cdv A outer s H Q E seed many d 7 29999 97 (fun l => sp7 seed many (sp6 seed many (sp5 seed (spM 4 List.reverse seed (spM 3 (· ++ [0]) seed l)))))) : RestS P w K mg base f cdv A outer s H Q E seed many d 6 29999 96 (fun l => sp7 seed many (sp6 seed many (sp5 seed (spM 4 List.reverse seed (spM 3 (· ++ [0]) seed (spM 2 (fun bs => cutG bs none (some (-1))) seed l)))))) := by
  obtain ⟨tR, hR, kR⟩ := r
  refine ⟨_, (pss_cons (ps_if (PW.pt (pw_and (pt_cmpR op_eq (pv 9) pe_int (nomark _)) (pw_and1 (pt_cmpR op_eq (pv 5) pe_str (nomark _)))))
      (pss_one (ps_set (i := 8) scSp.nd rfl (Or.inl rfl) (pe_slice sl_list (pv 8) po_none (po_some (pe_un un_neg pe_int))))) pss_nil) hR), ?_⟩
  intro l pa wv tv H1 o0 o4 o11 I hB q
  dsimp only at q
  have hd1 := I.sm _ _ hd
  have skip : spM 2 (fun bs => cutG bs none (some (-1))) seed l = l → tR { nx := fun _ H' => Q .non H', rt := Q } (stS o0 seed many pa o4 l wv tv o11) H1 := fun e => kR l pa wv tv H1 o0 o4 o11 I (hB.mono (Nat.le_refl _) (by decide)) (by rw [e] at q; exact q)
  refine ⟨_, rfl, rfl, _, rfl, ?_⟩
  refine ite2 (fun c => ?_) (fun c => ?_)
  rotate_left
  · have c' : ¬ seed % 8 = 2 := by simpa using c
    exact iteF (skip (by unfold spM; cases l.2.told with | one k => rfl | many bs => exact if_neg c'))
  have c' : seed % 8 = 2 := by simpa using c
  cases ht : l.2.told with
  | one k =>
    have e0 : spM 2 (fun bs => cutG bs none (some (-1))) seed l = l := by unfold spM; rw [ht]
    refine ⟨_, rfl, rfl, _, rfl, ?_⟩
    rw [ht]
    refine ite2 (fun c2 => absurd c2 (show ¬ decide (V.str "outside" = V.str "open") = true by decide +kernel)) (fun _ => ?_)
    exact skip e0
  | many bs =>
    have htd := I.told
    rw [ht] at htd
    obtain ⟨b, rfl, hb0⟩ := htd
    have hb := same_del _ _ _ _ hb0
    have hbl := hB.many bs ht
    have e0 : spM 2 (fun bs => cutG bs none (some (-1))) seed l = (l.1, ⟨l.2.who, l.2.place, .many ((fun bs => cutG bs none (some (-1))) bs)⟩) := by unfold spM; rw [ht]; exact if_pos c'
    refine ⟨_, rfl, rfl, _, rfl, ?_⟩
    rw [ht]
    refine ite2 (fun _ => ?_) (fun c2 => absurd (show decide (V.str "open" = V.str "open") = true by decide +kernel) c2)
    refine ⟨_, rfl, _, rfl, _, rfl, b, _, rfl, SqL.of hb, fun t ht2 => ?_⟩
    have ev : cutV (bs.map V.int) none (some (-1)) = (cutG bs none (some (-1))).map V.int := by rw [cutV_G, cutG_map]
    have s3 : Same H1 H1 := Same.refl _
    rw [ev]
    have s4 := same_new ht2 (.lst (((fun bs => cutG bs none (some (-1))) bs).map V.int))
    have I4 := I.same (s3.trans s4)
    unfold stS
    rw [ht]
    refine kR (l.1, ⟨l.2.who, l.2.place, .many ((fun bs => cutG bs none (some (-1))) bs)⟩) pa wv (.ref t) _ o0 o4 o11 ⟨I4.sm, I4.pk, I4.who, ⟨t, rfl, del_new (s3 _ _ hd1) ht2⟩⟩ ⟨hB.len, hB.pk, hB.who, (fun k hk => by cases hk), fun bs2 hb2 => ?_⟩ (by rw [e0] at q; exact q)
    cases hb2
    show ((fun bs => cutG bs none (some (-1))) bs).length ≤ 97
    exact Nat.le_trans (cutG_len bs none (some (-1))) (by omega)
theorem spo5 (hd : H d = some od) (r : RestS P w K mg base f cdv A outer s H Q E seed many d 6 29999 96 (fun l => sp7 seed many (sp6 seed many (sp5 seed (spM 4 List.reverse seed (spM 3 (· ++ [0]) seed (spM 2 (fun bs => cutG bs none (some (-1))) seed l))))))) : RestS P w K mg base f cdv A outer s H Q E seed many d 5 29998 96 (fun l => sp7 seed many (sp6 seed many (sp5 seed (spM 4 List.reverse seed (spM 3 (· ++ [0]) seed (spM 2 (fun bs => cutG bs none (some (-1))) seed (sp1 seed l))))))) := by
  obtain ⟨tR, hR, kR⟩ := r
  refine ⟨_, (pss_cons (ps_if (PW.pt (pw_and (pt_cmpR op_eq (pv 9) pe_int (nomark _)) (pw_and1 (pt_cmpR op_eq (pv 5) pe_str (nomark _)))))
      (pss_cons (ps_set (i := 8) scSp.nd rfl (Or.inl rfl) (pe_tup (pa_cons (pe_ix ix_list (pe_lst (pa_cons pe_str (pa_cons pe_str pa_nil))) (pe_op op_mod (pe_op op_fdiv (pv 1) pe_int) pe_int) (fun _ _ => rfl)) (pa_cons (pe_ix ix_tup (pv 8) pe_int (fun _ _ => rfl)) pa_nil))))
      (pss_one (ps_set (i := 3) scSp.nd rfl (Or.inl rfl) (pe_op op_cat (pv 3) (pe_lst (pa_cons (pv 8) pa_nil)))))) pss_nil) hR), ?_⟩
  intro l pa wv tv H1 o0 o4 o11 I hB q
  dsimp only at q
  have hd1 := I.sm _ _ hd
  have hB' : LnB 29999 96 (sp1 seed l) := sp1_b hB
  have skip : sp1 seed l = l → tR { nx := fun _ H' => Q .non H', rt := Q } (stS o0 seed many pa o4 l wv tv o11) H1 := fun e => kR l pa wv tv H1 o0 o4 o11 I (hB.mono (by decide) (Nat.le_refl _)) (by rw [e] at q; exact q)
  refine ⟨_, rfl, rfl, _, rfl, ?_⟩
  refine ite2 (fun c => ?_) (fun c => ?_)
  rotate_left
  · have c' : ¬ seed % 8 = 1 := by simpa using c
    exact iteF (skip (by unfold sp1; cases l.2.told with | many k => rfl | one bs => exact if_neg c'))
  have c' : seed % 8 = 1 := by simpa using c
  cases ht : l.2.told with
  | many bs =>
    have e0 : sp1 seed l = l := by unfold sp1; rw [ht]
    refine ⟨_, rfl, rfl, _, rfl, ?_⟩
    rw [ht]
    refine ite2 (fun c2 => absurd c2 (show ¬ decide (V.str "open" = V.str "outside") = true by decide +kernel)) (fun _ => ?_)
    exact skip e0
  | one k =>
    have htd := I.told
    rw [ht] at htd
    obtain ⟨kq, rfl, hk0⟩ := htd
    have hk := same_del _ _ _ _ hk0
    have e0 : sp1 seed l = (l.1 ++ [(nameP seed, k.2)], ⟨l.2.who, l.2.place, .one (nameP seed, k.2)⟩) := by unfold sp1; rw [ht]; exact if_pos c'
    rw [e0] at hB' q
    refine ⟨_, rfl, rfl, _, rfl, ?_⟩
    rw [ht]
    refine ite2 (fun _ => ?_) (fun c2 => absurd (show decide (V.str "outside" = V.str "outside") = true by decide +kernel) c2)
    refine ⟨(by show 2 ≤ sizeLine; decide), fun l0 hl0 => ?_⟩
    have s0 := same_new hl0 (.lst [.str "ashenashenashen", .str "zinc"])
    refine ⟨_, rfl, _, _, rfl, rfl, ⟨by decide, by decide⟩, _, _, rfl, rfl, (by show (0 : Int) < 2; decide), l0, _, _, _, rfl, rfl, SqL.of upd_same, name_at seed, _, rfl, kq, _, _, _, rfl, rfl, SqT.of (s0 _ _ hk), rfl, (by show 2 ≤ sizeLine; decide), fun t ht2 => ?_⟩
    have s1 := s0.trans (same_new ht2 (.tup [.str (nameP seed), .int k.2]))
    refine ⟨_, rfl, _, rfl, (by show 1 ≤ sizeLine; decide), fun l1 hl1 => ?_⟩
    have s2 := same_new hl1 (.lst [.ref t])
    obtain ⟨xs, hx, hxp⟩ := I.pk
    have lx := Paired.length hxp
    have hlen := hB.len
    refine ⟨pa, l1, xs, _, rfl, rfl, (s1.trans s2) _ _ (same_del _ _ _ _ hx), upd_same, by rw [sizeLine_eq]; show xs.length + 1 ≤ _; omega, fun p hp => ?_⟩
    have s3 := same_new hp (.lst (xs ++ [.ref t]))
    have I3 := I.same ((s1.trans s2).trans s3)
    have htA : PkAt (del (upd (upd (upd (upd H1 l0 (.lst [.str "ashenashenashen", .str "zinc"])) t (.tup [.str (nameP seed), .int k.2])) l1 (.lst [.ref t])) p (.lst (xs ++ [.ref t]))) [d]) (.ref t) (nameP seed, k.2) := ⟨t, rfl, Same.del (s2.trans s3) [d] _ _ (del_new (s0 _ _ hd1) ht2)⟩
    unfold stS
    rw [ht]
    exact kR (l.1 ++ [(nameP seed, k.2)], ⟨l.2.who, l.2.place, .one (nameP seed, k.2)⟩) p wv (.ref t) _ o0 o4 o11 ⟨I3.sm, ⟨xs ++ [.ref t], del_new ((s1.trans s2) _ _ hd1) hp, Paired.snoc (Paired.mapP hxp fun _ _ y => PkAt.same (Same.del ((s1.trans s2).trans s3) _) y) htA⟩, I3.who, htA⟩ hB' q
theorem spo4 (T : Txt K mg) (hu : (A.deeper (envOfC "_law_spoilt" (defScope sSpoilt) s.heap.objs.size f cdv)).units + 64 < cLine) (hd : H d = some od) (r : RestS P w K mg base f cdv A outer s H Q E seed many d 5 29998 96 (fun l => sp7 seed many (sp6 seed many (sp5 seed (spM 4 List.reverse seed (spM 3 (· ++ [0]) seed (spM 2 (fun bs => cutG bs none (some (-1))) seed (sp1 seed l)))))))) : RestS P w K mg base f cdv A outer s H Q E seed many d 4 20000 96 (fun l => sp7 seed many (sp6 seed many (sp5 seed (spM 4 List.reverse seed (spM 3 (· ++ [0]) seed (spM 2 (fun bs => cutG bs none (some (-1))) seed (sp1 seed (sp0 seed l)))))))) := by
  obtain ⟨tR, hR, kR⟩ := r
  refine ⟨_, (pss_cons (ps_if (PW.pt (pw_and (pt_cmpR op_eq (pv 9) pe_int (nomark _)) (pw_and1 (pt_cmpR (op_neD hu) (pv 3) (pe_lst pa_nil) (nomark _)))))
      (pss_cons (ps_set (i := 11) scSp.nd rfl (Or.inl rfl) (pe_op op_mod (pe_op op_fdiv (pv 1) pe_int) (pe_callB call_len_seq rfl T.len PySem.boot_len (pa_cons (pv 3) pa_nil))))
      (pss_one (ps_set (i := 3) scSp.nd rfl (Or.inl rfl) (pe_op op_cat (pe_slice sl_list (pv 3) po_none (po_some (pv 11))) (pe_slice sl_list (pv 3) (po_some (pe_op op_add (pv 11) pe_int)) po_none))))) pss_nil) hR), ?_⟩
  intro l pa wv tv H1 o0 o4 o11 I hB q
  dsimp only at q
  have hd1 := I.sm _ _ hd
  have hB' : LnB 20000 96 (sp0 seed l) := sp0_b hB
  obtain ⟨xs, hx, hxp⟩ := I.pk
  have hx1 := same_del _ _ _ _ hx
  have lx := Paired.length hxp
  have hlen := hB.len
  have skip : sp0 seed l = l → ∀ H2, Same H1 H2 → tR { nx := fun _ H' => Q .non H', rt := Q } (stS o0 seed many pa o4 l wv tv o11) H2 := fun e H2 s2 => kR l pa wv tv H2 o0 o4 o11 (I.same s2) (hB.mono (by decide) (Nat.le_refl _)) (by rw [e] at q; exact q)
  refine ⟨_, rfl, rfl, _, rfl, ?_⟩
  refine ite2 (fun c => ?_) (fun c => ?_)
  rotate_left
  · have c' : ¬ seed % 8 = 0 := by simpa using c
    exact iteF (skip (by unfold sp0; rw [if_neg (fun z => c' z.1)]) _ (Same.refl _))
  have c' : seed % 8 = 0 := by simpa using c
  refine ⟨_, rfl, (by show 0 ≤ sizeLine; decide), fun z hz => ?_⟩
  have s1 := same_new hz (.lst [])
  have hok : okD 2 (.list (l.1.map pkD)) = true := by
    rw [okD, List.all_eq_true]
    intro e he
    obtain ⟨k, hk, rfl⟩ := List.mem_map.mp he
    exact pk_ok (hB.pk k hk)
  refine ⟨.list (l.1.map pkD), .list [], PksAt.rep (PksAt.same ((same_del _ _).trans s1) ⟨xs, hx, hxp⟩), .lst upd_same .nil, okD_shaped hok (by decide), rfl, _, rfl, ?_⟩
  rw [eqv_nil]
  by_cases hne : l.1 = []
  · rw [hne]
    exact iteF (skip (by unfold sp0; rw [if_neg (fun z => z.2 hne)]) _ s1)
  have hem : (l.1.map pkD).isEmpty = false := by
    cases hl : l.1 with
    | nil => exact absurd hl hne
    | cons a b => rfl
  rw [hem]
  refine iteT ?_
  have e0 : sp0 seed l = (cutG l.1 none (some (seed / 8 % (l.1.length : Int))) ++ cutG l.1 (some (seed / 8 % (l.1.length : Int) + 1)) none, l.2) := by unfold sp0; rw [if_pos ⟨c', hne⟩]
  rw [e0] at hB' q
  have hpos : (0 : Int) < (xs.length : Int) := by
    rw [lx]
    cases hl : l.1 with
    | nil => exact absurd hl hne
    | cons a b => rw [List.length_cons]; omega
  refine ⟨_, rfl, _, _, rfl, rfl, ⟨by decide, by decide⟩, _, rfl, pa, _, rfl, .inl (SqL.of (s1 _ _ hx1)), _, _, rfl, rfl, hpos, ?_⟩
  refine ⟨_, rfl, _, rfl, _, rfl, pa, _, rfl, SqL.of (s1 _ _ hx1), fun l1 hl1 => ?_⟩
  have s2 := same_new hl1 (.lst (cutV xs none (some (seed / 8 % (xs.length : Int)))))
  refine ⟨_, rfl, _, rfl, _, _, rfl, rfl, _, rfl, pa, _, rfl, SqL.of (s2 _ _ (s1 _ _ hx1)), fun l2 hl2 => ?_⟩
  have s3 := same_new hl2 (.lst (cutV xs (some (seed / 8 % (xs.length : Int) + 1)) none))
  have c1 := cutV_length xs none (some (seed / 8 % (xs.length : Int)))
  have c2 := cutV_length xs (some (seed / 8 % (xs.length : Int) + 1)) none
  refine ⟨l1, l2, _, _, rfl, rfl, s3 _ _ upd_same, upd_same, by rw [sizeLine_eq]; omega, fun p hp => ?_⟩
  have s4 := same_new hp (.lst (cutV xs none (some (seed / 8 % (xs.length : Int))) ++ cutV xs (some (seed / 8 % (xs.length : Int) + 1)) none))
  have s14 := (s1.trans (s2.trans s3)).trans s4
  have I4 := I.same s14
  have hxp4 := Paired.mapP hxp fun _ _ y => PkAt.same (Same.del s14 [d]) y
  refine kR (cutG l.1 none (some (seed / 8 % (l.1.length : Int))) ++ cutG l.1 (some (seed / 8 % (l.1.length : Int) + 1)) none, l.2) p wv tv _ o0 o4 _ ⟨I4.sm, ⟨_, del_new ((s1.trans (s2.trans s3)) _ _ hd1) hp, ?_⟩, I4.who, I4.told⟩ (hB'.mono (by decide) (Nat.le_refl _)) q
  have := paired_app (cutG_pair hxp4 none (some (seed / 8 % (xs.length : Int)))) (cutG_pair hxp4 (some (seed / 8 % (xs.length : Int) + 1)) none)
  rw [lx] at this ⊢
  exact this
theorem ok_spoilt (F : Fun K "_law_spoilt" "_law_spoilt" sSpoilt f fd) (T : Txt K mg) : FnOk P w K mg base CX0 1 f fd ["_law_line", "_law_seed", "_law_many"] spSpoilt := by
  refine F.ok scSp (fun vs H Q E h => ?_) (fun cdv A outer s H vs Q E hr h => ?_)
  · obtain ⟨v, seed, many, l, d, o, rfl, _⟩ := h
    rfl
  obtain ⟨v, seed, many, l, d, o, rfl, hd, hl, hB, q⟩ := h
  obtain ⟨tR, hR, kR⟩ := spo4 (P := P) (w := w) (base := base) (f := f) (cdv := cdv) (A := A) (outer := outer) (s := s) (Q := Q) (E := E) (seed := seed) (many := many) T hr.units hd (spo5 hd (spo6 T hd (spo7 T hd (spo8 T hd (spo9 hd (spo10 (spo11 hr.units hd (spo12 hd))))))))
  refine ⟨_, (pss_cons (ps_asg (pv 0) (pg_tup rfl (pgs_cons (pg_name (i := 3) scSp.nd rfl (Or.inl rfl)) (pgs_cons (pg_name (i := 4) scSp.nd rfl (Or.inl rfl)) pgs_nil))))
    (pss_cons (ps_asg (pv 4) (pg_tup rfl (pgs_cons (pg_name (i := 5) scSp.nd rfl (Or.inl rfl)) (pgs_cons (pg_name (i := 6) scSp.nd rfl (Or.inl rfl)) (pgs_cons (pg_name (i := 7) scSp.nd rfl (Or.inl rfl)) (pgs_cons (pg_name (i := 8) scSp.nd rfl (Or.inl rfl)) pgs_nil))))))
    (pss_cons (ps_set (i := 9) scSp.nd rfl (Or.inl rfl) (pe_op op_mod (pv 1) pe_int))
    (pss_cons (ps_set (i := 10) scSp.nd rfl (Or.inl rfl) (pe_ix ix_list (pe_lst (pa_cons (pe_un un_neg pe_int) (pa_cons (pv 2) (pa_cons (pe_op op_pow pe_int pe_int) pa_nil)))) (pe_op op_mod (pe_op op_fdiv (pv 1) pe_int) pe_int) (fun _ _ => rfl))) hR)))), ?_⟩
  obtain ⟨lq, pa, rv, rfl, h1, h2, ⟨rq, wv, tv, rfl, h3, h4, h5⟩⟩ := id hl
  refine ⟨_, rfl, lq, _, rfl, SqT.of (same_del _ _ _ _ h1), rfl, _, _, rfl, _, _, rfl, rfl, ?_⟩
  refine ⟨_, rfl, rq, _, rfl, SqT.of (same_del _ _ _ _ h3), rfl, _, _, rfl, _, _, rfl, _, _, rfl, _, _, rfl, rfl, ?_⟩
  refine ⟨_, rfl, _, _, rfl, rfl, (by show (0 : Int) < 8; decide), ?_⟩
  refine ⟨_, rfl, _, rfl, _, _, rfl, rfl, ⟨by decide, by decide, by decide⟩, (by show 3 ≤ sizeLine; decide), fun l0 hl0 => ?_⟩
  have s0 := same_new hl0 (.lst [.int (-1), .int many, .int (10 ^ (30 : Int).toNat)])
  refine ⟨_, rfl, _, _, rfl, rfl, ⟨by decide, by decide⟩, _, _, rfl, rfl, (by show (0 : Int) < 3; decide), l0, _, _, _, rfl, rfl, SqL.of upd_same, odd_at seed many, ?_⟩
  have sd := Same.del s0 [d]
  exact kR l pa wv tv _ _ _ _ ⟨s0, PksAt.same sd h2, WhoAt.same sd h4, ToldAt.same sd h5⟩ (hB.mono (by decide) (by decide)) q
end
end FB
namespace FB
open PySem L2 PyProof.Rows
seal PSs PS PE PT PA
theorem LU.b {es : List En} {sn : List Nd} {l : Ln} (h : LU es sn l) : LnB 19990 63 l := ⟨h.len, h.ok.pk, h.ok.who, h.ok.one, h.few⟩
theorem spoilt_ok {seed many : Int} {l : Ln} (h : LnB 19990 63 l) : LnOk (spoiltP seed many l) := by
  have h1 := sp1_b (seed := seed) (sp0_b (seed := seed) h)
  have h2 := spM_b (way := 2) (seed := seed) (g := fun bs => cutG bs none (some (-1))) (fun bs => Nat.le_succ_of_le (cutG_len bs none (some (-1)))) h1
  have h3 := spM_b (way := 3) (seed := seed) (g := (· ++ [0])) (fun bs => by rw [List.length_append, List.length_singleton]; exact Nat.le_refl _) h2
  have h4 := spM_b (way := 4) (seed := seed) (g := List.reverse) (fun bs => by rw [List.length_reverse]; omega) h3
  have h5 := sp6_b (seed := seed) (many := many) (sp5_b (seed := seed) h4)
  have h6 : LnB _ _ (sp7 seed many _) := spM_b (way := 7) (seed := seed) (g := g7 (oddP seed many)) (g7_len _) h5
  exact h6.ok (by decide) (by decide)
theorem some_ok {es : List En} {sn : List Nd} (B : BdOk es sn) (ns : List Int) : ∀ l ∈ someP es sn ns, LnOk l := by
  have hlu := lines_lu B (cutG ns (some 4) none) (cutG ns (some 4) none).length
  unfold someP
  dsimp only
  generalize linesP es sn (cutG ns (some 4) none) (cutG ns (some 4) none).length = ls at *
  intro l hl
  split at hl
  · cases hx : nthZ ls (spotP ls (ns.getD 1 0) (ns.getD 2 0) (ns.length : Int)) with
    | none => rw [hx] at hl; exact (hlu l hl).ok
    | some l' =>
      rw [hx] at hl
      rcases List.mem_or_eq_of_mem_set hl with y | y
      · exact (hlu l y).ok
      · rw [y]; exact spoilt_ok (hlu l' (nthZ_mem hx)).b
  · exact (hlu l hl).ok
theorem some_len (es : List En) (sn : List Nd) (ns : List Int) : (someP es sn ns).length ≤ ns.length := by
  have h1 := lines_len es sn (cutG ns (some 4) none) (cutG ns (some 4) none).length
  have h2 := cutG_len ns (some 4) none
  unfold someP
  dsimp only
  generalize linesP es sn (cutG ns (some 4) none) (cutG ns (some 4) none).length = ls at *
  split
  · split
    · omega
    · rw [List.length_set]; omega
  · omega
def ifBody : Stmt → List Stmt
  | .If _ b _ _ => b
  | _ => []
theorem in4 (z : Int) : inV (.int z) [.int 2, .int 3, .int 4, .int 7] = decide (z ∈ ([2, 3, 4, 7] : List Int)) := by
  unfold inV
  rw [Bool.eq_iff_iff, decide_eq_true_eq, List.any_eq_true]
  constructor
  · rintro ⟨y, hy, e⟩
    simp only [List.mem_cons, List.not_mem_nil, or_false] at hy
    rcases hy with rfl | rfl | rfl | rfl <;> (have e' := eq_of_beq (α := Int) e; subst e'; decide)
  · intro h
    simp only [List.mem_cons, List.not_mem_nil, or_false] at h
    rcases h with rfl | rfl | rfl | rfl <;> decide +kernel
theorem pair_set {α β : Type} {F : α → β → Prop} {as : List α} {bs : List β} (h : Paired F as bs) {a : α} {b : β} (hab : F a b) : ∀ i, Paired F (as.set i a) (bs.set i b) := by
  induction h with
  | nil => intro i; exact .nil
  | cons h t ih =>
    intro i
    cases i with
    | zero => exact .cons hab t
    | succ i => exact .cons h (ih i)
def spSome (K : PySem.W.Frag) : Sp := fun vs H Q _ => ∃ (sh st sc : Addr) (es : List En) (sn : List Nd) (ns : List Int), vs = [.ref sh, .ref st, .ref sc] ∧ ShAt H sh es ∧ NdsAt H st sn ∧ BdOk es sn ∧ SqL K H sc (ns.map V.int) ∧ ns.length ≤ 63 ∧
  ∀ p H', Same H H' → LnsAt H' p (someP es sn ns) → Q (.ref p) H'
abbrev nmSm : List Str := ["_law_shelf", "_law_start", "_law_script", "_law_lines", "_law_seed", "_law_spot", "_law_opened"]
theorem nd_kl : (["_law_k", "_law_lines"] : List Str).Nodup := by decide +kernel
section
variable {P : Program} {w : World} {K : PySem.W.Frag} {mg : Str → Option Value} {base : Heap} {f : Addr} {fd : FuncData}
theorem scSm : FnScope nmSm ["_law_shelf", "_law_start", "_law_script"] (defScope sSome) := ⟨rfl, rfl, rfl, by decide +kernel, rfl, by decide +kernel, by decide +kernel⟩
theorem ok_some {g1 g2 g3 : Addr} {gd1 gd2 gd3 : FuncData} (F : Fun K "_law_some_spoilt" "_law_some_spoilt" sSome f fd) (T : Txt K mg)
    (G1 : FnOk P w K mg base CX0 4 g1 gd1 ["_law_shelf", "_law_start", "_law_cells"] (spLinesBy K)) (b1 : Binds K gd1 ["_law_shelf", "_law_start", "_law_cells"] []) (k1 : PySem.W.keepIn K (.ref g1) = true) (m1 : mg "_law_lines_by" = some (.ref g1))
    (G2 : FnOk P w K mg base CX0 1 g2 gd2 ["_law_script", "_law_k"] (spAtF K)) (b2 : Binds K gd2 ["_law_script", "_law_k"] []) (k2 : PySem.W.keepIn K (.ref g2) = true) (m2 : mg "_law_at" = some (.ref g2))
    (G3 : FnOk P w K mg base CX0 1 g3 gd3 ["_law_line", "_law_seed", "_law_many"] spSpoilt) (b3 : Binds K gd3 ["_law_line", "_law_seed", "_law_many"] []) (k3 : PySem.W.keepIn K (.ref g3) = true) (m3 : mg "_law_spoilt" = some (.ref g3)) :
    FnOk P w K mg base CX0 5 f fd ["_law_shelf", "_law_start", "_law_script"] (spSome K) := by
  refine F.ok scSm (fun vs H Q E h => ?_) (fun cdv A outer s H vs Q E hr h => ?_)
  · obtain ⟨sh, st, sc, es, sn, ns, rfl, _⟩ := h
    rfl
  obtain ⟨sh, st, sc, es, sn, ns, rfl, hsh, hst, B, hsc, hnl, q⟩ := h
  have hr1 : Room 1 _ := hr.mono (by decide)
  -- the last row of the block
  have rT : ∃ tR : TS, PSs (cxOf CX0 P w K mg base nmSm "_law_some_spoilt" (defScope sSome) f cdv A outer s H E).nox ((ifBody ((defBody sSome).getD 2 (.Pass ⟨0, 0, 0, 0⟩))).drop 3) tR ∧
      ∀ (D : Ends) (p : Addr) (xs : List V) (ls : List Ln) (sp : Int) (l : Ln) (H1 : Hp) (o6 : Option V), Same H H1 → H1 p = some (.lst xs) → Paired (LnAt (del H1 [p])) xs ls → nthZ ls sp = some l → LnB 19990 63 l →
        (∀ (v : V) (H2 : Hp), Same H1 H2 → LnAt (del H2 [p]) v (spoiltP (ns.getD 1 0 / 3 + ns.getD 2 0) (ls.length : Int) l) → D.nx [some (.ref sh), some (.ref st), some (.ref sc), some (.ref p), some (.int (ns.getD 1 0)), some (.int sp), o6] (upd H2 p (.lst (xs.set sp.toNat v)))) →
        tR D [some (.ref sh), some (.ref st), some (.ref sc), some (.ref p), some (.int (ns.getD 1 0)), some (.int sp), o6] H1 := by
    refine ⟨_, (pss_one (ps_asg (pe_call G3 hr1 rfl m3 k3 b3 .nil pass0 (pa_cons (pe_ix ix_list (pv 3) (pv 5) (fun _ _ => rfl)) (pa_cons (pe_op op_add (pe_op op_fdiv (pv 4) pe_int) (pe_call G2 hr1 rfl m2 k2 b2 .nil pass0 (pa_cons (pv 2) (pa_cons pe_int pa_nil)))) (pa_cons (pe_callB call_len_seq rfl T.len PySem.boot_len (pa_cons (pv 3) pa_nil)) pa_nil)))) (pg_sub (pv 3) (pv 5) set_list))), ?_⟩
    intro D p xs ls sp l H1 o6 s1 hp hxs hl hB nx
    obtain ⟨v, hv, hvl⟩ := nthZ_pair hxs hl
    have lx := Paired.length hxs
    have hin : 0 ≤ sp ∧ sp < (ls.length : Int) := by
      by_cases z : sp < 0 ∨ (ls.length : Int) ≤ sp
      · rw [nthZ_none.mpr z] at hl; cases hl
      · omega
    refine ⟨_, rfl, _, rfl, p, _, _, _, rfl, rfl, SqL.of hp, nthZ_at hv, _, rfl, _, _, rfl, rfl, ⟨by decide, by decide⟩, _, rfl, sc, ns, 2, rfl, s1.seq hsc, _, _, rfl, rfl, _, rfl, p, _, rfl, .inl (SqL.of hp), v, _, _, l, p, _, rfl, hp, hvl, hB, fun v' H2 s2 hv' => ?_⟩
    rw [lx] at hv'
    exact ⟨_, rfl, _, rfl, p, xs, sp, sp.toNat, rfl, rfl, s2 _ _ hp, (by unfold ixN; rw [if_pos hin.1, if_pos (by omega)]), nx v' H2 s2 hv'⟩
  obtain ⟨tT, hT, kT⟩ := rT
  refine ⟨_, (pss_cons (ps_set (i := 3) scSm.nd rfl (Or.inr rfl) (pe_call G1 hr rfl m1 k1 b1 .nil pass0 (pa_cons (pv 0) (pa_cons (pv 1) (pa_cons (pe_slice sl_list (pv 2) (po_some pe_int) po_none) pa_nil)))))
    (pss_cons (ps_set (i := 4) scSm.nd rfl (Or.inl rfl) (pe_call G2 hr1 rfl m2 k2 b2 .nil pass0 (pa_cons (pv 2) (pa_cons pe_int pa_nil))))
    (pss_cons (ps_if (PW.pt (pw_and (pt_cmpR (op_neD hr.units) (pv 3) (pe_lst pa_nil) (nomark _)) (pw_and1 (pt_cmpR op_gt (pe_op op_mod (pv 4) pe_int) pe_int (nomark _)))))
      (pss_cons (ps_set (i := 5) scSm.nd rfl (Or.inl rfl) (pe_op op_mod (pe_op op_add (pe_op op_fdiv (pv 4) pe_int) (pe_callB call_len_seq rfl T.len PySem.boot_len (pa_cons (pv 2) pa_nil))) (pe_callB call_len_seq rfl T.len PySem.boot_len (pa_cons (pv 3) pa_nil))))
      (pss_cons (ps_setC (i := 6) (N' := ["_law_k", "_law_lines"]) (n := 1) (js := [3]) rfl
          (CompS.one (c := s.heap.objs.size + 1) (y := "_law_lines") rfl rfl (by decide +kernel) rfl (by decide +kernel) (by decide +kernel) rfl rfl rfl rfl rfl) (gk_name (by decide)) scSm.nd rfl rfl
          (pi_range1 rfl T.range (pa_cons (pe_callB call_len_seq rfl T.len PySem.boot_len (pa_cons (pv 3) pa_nil)) pa_nil))
          (fun C s2 H2 fp => pg_name (i := 0) nd_kl rfl (Or.inl rfl))
          (fun C s2 H2 fp => pts_one (pt_cmpR op_eq (pe_ix (r := rIxT K) ix_tup (pe_ix (r := rIxT K) ix_tup (pe_ix (r := rIxL K) ix_list (pv 1) (pv 0) (fun _ _ => rfl)) pe_int (fun _ _ => rfl)) pe_int (fun _ _ => rfl)) pe_str (nomark _)))
          (fun C s2 H2 fp => pv 0))
      (pss_cons (ps_if (PW.pt (pw_and (pt_cmpR op_in_seq (pe_op op_mod (pe_op op_add (pe_op op_fdiv (pv 4) pe_int) (pe_call G2 hr1 rfl m2 k2 b2 .nil pass0 (pa_cons (pv 2) (pa_cons pe_int pa_nil)))) pe_int) (pe_lst (pa_cons pe_int (pa_cons pe_int (pa_cons pe_int (pa_cons pe_int pa_nil))))) (by with_unfolding_all rfl)) (pw_and1 (pt_cmpR (op_neD hr.units) (pv 6) (pe_lst pa_nil) (nomark _)))))
          (pss_one (ps_set (i := 5) scSm.nd rfl (Or.inl rfl) (pe_ix ix_list (pv 6) (pe_op op_mod (pv 5) (pe_callB call_len_seq rfl T.len PySem.boot_len (pa_cons (pv 6) pa_nil))) (fun _ _ => rfl)))) pss_nil) hT))) pss_nil)
    (pss_one (ps_ret (pv 3)))))), ?_⟩
  refine ⟨_, rfl, _, rfl, _, rfl, 4, rfl, sc, _, rfl, hsc, fun c hc => ?_⟩
  have s0 := same_new hc (.lst (cutV (ns.map V.int) (some 4) none))
  have ec : cutV (ns.map V.int) (some 4) none = (cutG ns (some 4) none).map V.int := by rw [cutV_G, cutG_map]
  have hcl := cutG_len ns (some 4) none
  refine ⟨sh, st, c, es, sn, cutG ns (some 4) none, rfl, ShAt.same s0 hsh, NdsAt.same s0 hst, B, (by rw [ec]; exact SqL.of upd_same), by omega, fun p xs H1 s1 hpn hp hxs => ?_⟩
  have hlu := lines_lu B (cutG ns (some 4) none) (cutG ns (some 4) none).length
  have hll := lines_len es sn (cutG ns (some 4) none) (cutG ns (some 4) none).length
  have eS : someP es sn ns = if ¬ linesP es sn (cutG ns (some 4) none) (cutG ns (some 4) none).length = [] ∧ 0 < ns.getD 1 0 % 3 then (match nthZ (linesP es sn (cutG ns (some 4) none) (cutG ns (some 4) none).length) (spotP (linesP es sn (cutG ns (some 4) none) (cutG ns (some 4) none).length) (ns.getD 1 0) (ns.getD 2 0) (ns.length : Int)) with
    | none => linesP es sn (cutG ns (some 4) none) (cutG ns (some 4) none).length
    | some l => (linesP es sn (cutG ns (some 4) none) (cutG ns (some 4) none).length).set (spotP (linesP es sn (cutG ns (some 4) none) (cutG ns (some 4) none).length) (ns.getD 1 0) (ns.getD 2 0) (ns.length : Int)).toNat (spoiltP (ns.getD 1 0 / 3 + ns.getD 2 0) ((linesP es sn (cutG ns (some 4) none) (cutG ns (some 4) none).length).length : Int) l)) else linesP es sn (cutG ns (some 4) none) (cutG ns (some 4) none).length := rfl
  generalize linesP es sn (cutG ns (some 4) none) (cutG ns (some 4) none).length = ls at *
  have s01 := s0.trans s1
  have lx := Paired.length hxs
  have hsc1 : SqL K H1 sc (ns.map V.int) := s01.seq hsc
  have hlns : ∀ H2, Same H1 H2 → LnsAt H2 p ls := fun H2 s2 => ⟨xs, s2 _ _ hp, Paired.mapP hxs fun _ _ y => LnAt.same ((same_del _ _).trans s2) y⟩
  refine ⟨_, rfl, sc, ns, 1, rfl, hsc1, ?_⟩
  generalize hz1 : ns.getD 1 0 = z1 at *
  refine ⟨_, rfl, (by show 0 ≤ sizeLine; decide), fun e he => ?_⟩
  have s2 := same_new he (.lst [])
  refine ⟨.list (ls.map lnD), .list [], (hlns _ s2).rep, .lst upd_same .nil, okD_shaped (lns_ok fun l hl => (hlu l hl).ok) (by decide), rfl, _, rfl, ?_⟩
  rw [eqv_nil]
  by_cases hne : ls = []
  · have e1 : someP es sn ns = ls := by rw [eS, if_neg (fun z => z.1 hne)]
    have := q p _ (s01.trans s2) (by rw [e1]; exact hlns _ s2)
    rw [hne]
    exact iteF (iteF ⟨_, rfl, this⟩)
  have hem : (ls.map lnD).isEmpty = false := by
    cases hl : ls with
    | nil => exact absurd hl hne
    | cons a b => rfl
  rw [hem]
  refine iteT ⟨_, rfl, _, _, rfl, rfl, (by show (0 : Int) < 3; decide), _, _, rfl, rfl, _, rfl, ?_⟩
  refine ite2 (fun c1 => ?_) (fun c1 => ?_)
  rotate_left
  · have c1' : ¬ 0 < z1 % 3 := fun z => c1 (decide_eq_true z)
    have e1 : someP es sn ns = ls := by rw [eS, if_neg (fun z => c1' z.2)]
    exact ⟨_, rfl, q p _ (s01.trans s2) (by rw [e1]; exact hlns _ s2)⟩
  have c1' : 0 < z1 % 3 := of_decide_eq_true c1
  have hpos : (0 : Int) < (xs.length : Int) := by
    rw [lx]
    cases hl : ls with
    | nil => exact absurd hl hne
    | cons a b => rw [List.length_cons]; omega
  have lm : (ns.map V.int).length = ns.length := List.length_map _
  generalize hHa : upd H1 e (.lst []) = Ha at *
  have hpa := s2 _ _ hp
  have hxa : Paired (LnAt (del Ha [p])) xs ls := Paired.mapP hxs fun _ _ y => LnAt.same (Same.del s2 _) y
  have hsca : SqL K Ha sc (ns.map V.int) := s2.seq hsc1
  have s0a := s01.trans s2
  -- spot
  refine ⟨_, rfl, _, _, rfl, rfl, ⟨by decide, by decide⟩, _, rfl, sc, _, rfl, .inl hsca, _, _, rfl, rfl, _, rfl, p, _, rfl, .inl (SqL.of hpa), _, _, rfl, rfl, hpos, ?_⟩
  -- what comes last
  have fin : ∀ (sp : Int) (H5 : Hp) (o6 : Option V) (D : Ends), sp = spotP ls z1 (ns.getD 2 0) (ns.length : Int) → Same Ha H5 → (∀ σ H', D.nx σ H' = (∃ v, σ[3]? = some (some v) ∧ Q v H')) → tT D [some (.ref sh), some (.ref st), some (.ref sc), some (.ref p), some (.int z1), some (.int sp), o6] H5 := fun sp H5 o6 D esp s5 hD => by
    obtain ⟨h0, h1⟩ := spot_in (ls := ls) z1 (ns.getD 2 0) (ns.length : Int) hne
    obtain ⟨l, hl⟩ := nthZ_some h0 h1
    have e1 : someP es sn ns = ls.set sp.toNat (spoiltP (z1 / 3 + ns.getD 2 0) (ls.length : Int) l) := by rw [eS, if_pos ⟨hne, c1'⟩, hl, esp]
    have s05 := s0a.trans s5
    have hx5 : Paired (LnAt (del H5 [p])) xs ls := Paired.mapP hxa fun _ _ y => LnAt.same (Same.del s5 _) y
    have := kT D p xs ls sp l H5 o6 s05 (s5 _ _ hpa) hx5 (by rw [esp]; exact hl) (hlu l (nthZ_mem hl)).b
    refine this fun v H6 s6 hv => ?_
    rw [hD]
    refine ⟨_, rfl, q p _ (Same.upd (s05.trans s6) (s0.free hpn)) ?_⟩
    rw [e1]
    refine ⟨_, upd_same, Paired.mapP (F := LnAt (del H6 [p])) (pair_set (Paired.mapP hx5 fun _ _ y => LnAt.same (Same.del s6 _) y) hv _) fun _ _ y => LnAt.same ?_ y⟩
    have ed : del (upd H6 p (.lst (xs.set sp.toNat v))) [p] = del H6 [p] := del_upd (by simp)
    rw [← ed]
    exact same_del _ _
  -- opened
  have hla : Paired (LnAt Ha) xs ls := Paired.mapP hxa fun _ _ y => LnAt.same (same_del _ _) y
  refine ⟨_, rfl, p, _, rfl, .inl (SqL.of hpa), _, rfl, by omega, by omega, ?_⟩
  refine comp_range (fun D j ys H4 => ys = (openR ls j).map V.int ∧ H4 = upd Ha D (.lst ys) ∧ Ha D = none) (fun D hD => ⟨rfl, rfl, hD⟩) (fun D j ys H4 hj ⟨g1, g2, g3⟩ => ?_) (fun D j ys H4 hj ⟨g1, g2, g3⟩ => ?_) (fun D ys H4 ⟨g1, g2, g3⟩ => ?_)
  · subst g1 g2
    refine ⟨upd_same, ?_⟩
    rw [List.length_map]
    have := openR_len ls j
    rw [Int.toNat_natCast] at hj
    exact small1000 (by omega)
  · subst g1 g2
    have hjl : j < ls.length := by rw [Int.toNat_natCast] at hj; omega
    have ej : (0 + (j : Int)) = ((j : Nat) : Int) := by omega
    have hlj : nthZ ls (j : Int) = some ls[j] := by rw [nthZ_nat]; exact List.getElem?_eq_getElem hjl
    obtain ⟨lv, hlv, hln⟩ := nthZ_pair hla hlj
    have hhas : openB ls j = decide (wordOf ls[j].2.told = "open") := by unfold openB; rw [List.getElem?_eq_getElem hjl]; simp
    generalize ls[j] = l at *
    have sD := same_new g3 (.lst ((openR ls j).map V.int))
    obtain ⟨lq, pa, rv, rfl, h1, _, ⟨rq, wv, tv, rfl, h2, _⟩⟩ := LnAt.same sD hln
    rw [ej]
    unfold gName
    refine ⟨_, rfl, _, rfl, p, _, _, _, rfl, rfl, SqL.of (sD _ _ hpa), nthZ_at hlv, lq, _, _, _, rfl, rfl, SqT.of h1, rfl, rq, _, _, _, rfl, rfl, SqT.of h2, rfl, rfl, _, rfl, ?_⟩
    rw [dec_str_iff, ← hhas]
    refine ite2 (fun cc => ?_) (fun cc => ?_)
    · refine ⟨_, rfl, upd_same, ?_, by rw [upd_upd], g3⟩
      rw [openR_succ, if_pos cc, List.map_append]
      rfl
    · refine ⟨?_, rfl, g3⟩
      rw [openR_succ, if_neg cc]
  · rw [Int.toNat_natCast, lx] at g1
    subst g1 g2
    have sD := same_new g3 (.lst ((openR ls ls.length).map V.int))
    have hscD : SqL K _ sc (ns.map V.int) := sD.seq hsca
    have hDD : upd Ha D (.lst ((openR ls ls.length).map V.int)) D = some (.lst ((openR ls ls.length).map V.int)) := upd_same
    generalize hHb : upd Ha D (.lst ((openR ls ls.length).map V.int)) = Hb at *
    -- the test
    refine ⟨_, rfl, _, _, rfl, rfl, ⟨by decide, by decide⟩, _, rfl, sc, ns, 2, rfl, hscD, _, _, rfl, rfl, _, _, rfl, rfl, (by show (0 : Int) < 8; decide), (by show 4 ≤ sizeLine; decide), fun l4 hl4 => ?_⟩
    have s4 := same_new hl4 (.lst [.int 2, .int 3, .int 4, .int 7])
    generalize hz2 : ns.getD 2 0 = z2 at *
    refine ⟨l4, _, rfl, .inl (SqL.of upd_same), rfl, rfl, _, rfl, ?_⟩
    rw [if_neg Bool.false_ne_true, in4]
    have esp0 : (z1 / 3 + ((ns.map V.int).length : Int)) % (xs.length : Int) = (z1 / 3 + (ns.length : Int)) % (ls.length : Int) := by rw [lm, lx]
    have spF : (decide ((z1 / 3 + z2) % 8 ∈ [2, 3, 4, 7]) && !(openR ls ls.length).isEmpty) = false → (z1 / 3 + ((ns.map V.int).length : Int)) % (xs.length : Int) = spotP ls z1 z2 (ns.length : Int) := fun z => by
      unfold spotP
      dsimp only
      rw [z, if_neg Bool.false_ne_true, esp0]
    refine ite2 (fun c2 => ?_) (fun c2 => ?_)
    rotate_left
    · exact iteF (fin _ _ _ _ (spF (by rw [Bool.eq_false_iff.mpr c2]; rfl)) (sD.trans s4) fun _ _ => rfl)
    refine ⟨_, rfl, (by show 0 ≤ sizeLine; decide), fun e5 he5 => ?_⟩
    have s5 := same_new he5 (.lst [])
    have s45 := s4.trans s5
    refine ⟨.list ((openR ls ls.length).map PyData.int), .list [], many_rep (s45 _ _ hDD), .lst upd_same .nil, okD_shaped (ints_ok 0 _) (by decide), rfl, _, rfl, ?_⟩
    rw [eqv_nil]
    by_cases hop : openR ls ls.length = []
    · rw [hop]
      exact iteF (fin _ _ _ _ (spF (by rw [hop, c2]; rfl)) (sD.trans s45) fun _ _ => rfl)
    have hem2 : ((openR ls ls.length).map PyData.int).isEmpty = false := by
      cases hl : openR ls ls.length with
      | nil => exact absurd hl hop
      | cons a b => rfl
    have hem3 : (openR ls ls.length).isEmpty = false := by
      cases hl : openR ls ls.length with
      | nil => exact absurd hl hop
      | cons a b => rfl
    rw [hem2]
    have hpo : (0 : Int) < (((openR ls ls.length).map V.int).length : Int) := by
      rw [List.length_map]
      cases hl : openR ls ls.length with
      | nil => exact absurd hl hop
      | cons a b => rw [List.length_cons]; omega
    obtain ⟨x, hx⟩ := nthZ_some (xs := openR ls ls.length) (i := (z1 / 3 + ((ns.map V.int).length : Int)) % (xs.length : Int) % (((openR ls ls.length).map V.int).length : Int)) (Int.emod_nonneg _ (by omega)) (by have := Int.emod_lt_of_pos ((z1 / 3 + ((ns.map V.int).length : Int)) % (xs.length : Int)) hpo; have e9 : (((openR ls ls.length).map V.int).length : Int) = ((openR ls ls.length).length : Int) := (by rw [List.length_map]); rw [e9] at this ⊢; exact this)
    have hat : atI ((openR ls ls.length).map V.int) ((z1 / 3 + ((ns.map V.int).length : Int)) % (xs.length : Int) % (((openR ls ls.length).map V.int).length : Int)) = some (.int x) := by
      refine nthZ_at ?_
      rw [nthZ_map, hx]
      rfl
    refine iteT ⟨_, rfl, _, rfl, _, rfl, D, _, rfl, .inl (SqL.of (s45 _ _ hDD)), _, _, rfl, rfl, hpo, D, _, _, _, rfl, rfl, SqL.of (s45 _ _ hDD), hat, ?_⟩
    refine fin x _ _ _ ?_ (sD.trans s45) fun _ _ => rfl
    unfold spotP
    dsimp only
    rw [c2, hem3]
    rw [esp0, List.length_map] at hx
    rw [if_pos (show (true && !false) = true from rfl), hx]
    rfl
end
end FB
namespace FB
open PySem L2 PyProof.Rows
seal PSs PS PE PT PA
def spAsked (K : PySem.W.Frag) : Sp := fun vs H Q _ => ∃ (a : Addr) (ns : List Int), vs = [.ref a] ∧ SqL K H a (ns.map V.int) ∧ ns.length ≤ 63 ∧
  ∀ t sh st (es : List En) (sn : List Nd) H', Same H H' → H' t = some (.tup [.ref sh, .ref st]) → ShAt H' sh es → (es.map keyOf).Nodup → (∀ e ∈ es, EnOk e) → es.length ≤ 59 → (∀ e ∈ es, e.1 ∈ four) → NdsAt H' st sn → (∀ n ∈ sn, PartOk n.1) → sn.length ≤ 63 → Q (.ref t) H'
theorem cut_ints (ns : List Int) (lo hi : Option Int) : ∃ ms : List Int, cutV (ns.map V.int) lo hi = ms.map V.int ∧ ms.length ≤ ns.length := by
  refine ⟨(ns.drop (HT.sIx (ns.map V.int).length 0 lo)).take (HT.sIx (ns.map V.int).length (ns.map V.int).length hi - HT.sIx (ns.map V.int).length 0 lo), ?_, ?_⟩
  · unfold cutV
    rw [List.map_take, List.map_drop]
  · rw [List.length_take, List.length_drop]
    omega
theorem cut_from (ns : List Int) (k : Nat) : ∃ ms : List Int, cutV (ns.map V.int) (some (k : Int)) none = ms.map V.int ∧ ms.length ≤ ns.length - k := by
  have e : HT.sIx (ns.map V.int).length 0 (some (k : Int)) = min k (ns.map V.int).length := HT.sIx_nat _ _ k
  refine ⟨(ns.drop (HT.sIx (ns.map V.int).length 0 (some (k : Int)))).take (HT.sIx (ns.map V.int).length (ns.map V.int).length none - HT.sIx (ns.map V.int).length 0 (some (k : Int))), ?_, ?_⟩
  · unfold cutV
    rw [List.map_take, List.map_drop]
  · rw [List.length_take, List.length_drop, e, List.length_map]
    omega
section
variable {P : Program} {w : World} {K : PySem.W.Frag} {mg : Str → Option Value} {base : Heap} {f : Addr} {fd : FuncData}
theorem scAsk : FnScope ["_law_script", "_law_shelf"] ["_law_script"] (defScope sAsked) := ⟨rfl, rfl, rfl, by decide +kernel, rfl, by decide +kernel, by decide +kernel⟩
theorem ok_asked {g g2 g3 : Addr} {gd gd2 gd3 : FuncData} (F : Fun K "_law_asked_by" "_law_asked_by" sAsked f fd) (G : FnOk P w K mg base CX0 3 g gd ["_law_cells"] (spShelf K)) (bG : Binds K gd ["_law_cells"] []) (kG : PySem.W.keepIn K (.ref g) = true) (mG : mg "_law_shelf_by" = some (.ref g))
    (G2 : FnOk P w K mg base CX0 3 g2 gd2 ["_law_cells"] (spStartBy K)) (bG2 : Binds K gd2 ["_law_cells"] []) (kG2 : PySem.W.keepIn K (.ref g2) = true) (mG2 : mg "_law_start_by" = some (.ref g2))
    (G3 : FnOk P w K mg base CX0 1 g3 gd3 ["_law_script", "_law_k"] (spAt K)) (bG3 : Binds K gd3 ["_law_script", "_law_k"] []) (kG3 : PySem.W.keepIn K (.ref g3) = true) (mG3 : mg "_law_at" = some (.ref g3)) :
    FnOk P w K mg base CX0 4 f fd ["_law_script"] (spAsked K) := by
  refine F.ok scAsk (fun vs H Q E h => ?_) (fun cdv A outer s H vs Q E hr h => ?_)
  · obtain ⟨a, ns, rfl, _⟩ := h
    rfl
  obtain ⟨a, ns, rfl, hS, hl, q⟩ := h
  have hr1 : Room 1 _ := hr.mono (by decide)
  refine ⟨_, (pss_cons (ps_set (i := 1) scAsk.nd rfl (Or.inl rfl) (pe_call G hr rfl mG kG bG .nil pass0 (pa_cons (pe_slice sl_list (pv 0) (po_some pe_int) po_none) pa_nil)))
    (pss_one (ps_ret (pe_tup (pa_cons (pv 1) (pa_cons (pe_call G2 hr rfl mG2 kG2 bG2 .nil pass0 (pa_cons (pe_slice sl_list (pv 0) (po_some pe_int) (po_some (pe_op op_add pe_int (pe_op op_mod (pe_call G3 hr1 rfl mG3 kG3 bG3 .nil pass0 (pa_cons (pv 0) (pa_cons pe_int pa_nil))) pe_int)))) pa_nil)) pa_nil)))))), ?_⟩
  obtain ⟨m1, e1, l1⟩ := cut_from ns 4
  refine ⟨_, rfl, 4, rfl, a, _, rfl, hS, fun p1 hp1 => ?_⟩
  rw [show cutV (ns.map V.int) (some 4) none = m1.map V.int from e1]
  have s1 := same_new hp1 (.lst (m1.map V.int))
  refine ⟨p1, m1, rfl, SqL.of upd_same, by omega, fun sh es xs H2 s2 hsh h2 hes hnd hok hle h4n => ?_⟩
  have s12 := s1.trans s2
  refine ⟨_, rfl, _, rfl, 1, rfl, _, rfl, a, ns, 0, rfl, s12.seq hS, Int.le_refl 0, fun z => ⟨_, _, rfl, rfl, (by show (0 : Int) < 4; decide), _, _, rfl, rfl, _, rfl, a, _, rfl, s12.seq hS, fun p2 hp2 => ?_⟩⟩
  obtain ⟨m2, e2, l2⟩ := cut_ints ns (some 1) (some (1 + z % 4))
  rw [e2]
  have s3 := same_new hp2 (.lst (m2.map V.int))
  refine ⟨p2, m2, rfl, SqL.of upd_same, by omega, fun st sn H4 s4 h4 hpo hsl => ?_⟩
  refine ⟨(by show 2 ≤ sizeLine; decide), fun t ht => ?_⟩
  have s5 := same_new ht (.tup [.ref sh, .ref st])
  have s35 := (s3.trans s4).trans s5
  exact q t sh st es sn _ (s12.trans s35) upd_same (ShAt.same s35 ⟨xs, h2, Paired.mapP hes fun _ _ y => EnAt.same (same_del _ _) y⟩) hnd hok (by omega) h4n (NdsAt.same s5 h4) hpo (by omega)
end
end FB
namespace FB
open PySem L2 PyProof.Rows
seal PSs PS PE PT PA
theorem pass0E {X : Cx} : Passes (CXE X.prog X.w) X (fun _ _ _ => False) := fun _ _ _ _ _ _ _ h => by
  obtain ⟨x, cls, H', oe, vs, T, oT, ts, rfl, ho, hg, u, hok, hx, hnx, ex, hc, hd, h1, nTx, hT, hnT, eT, dT, h3, q⟩ := h
  exact q.elim
def spLaw (K : PySem.W.Frag) : Sp := fun vs H Q _ => ∃ (a : Addr) (ns : List Int), vs = [.ref a] ∧ SqL K H a (ns.map V.int) ∧ ns.length ≤ 63 ∧ ∀ H', Q (.bl true) H'
structure Gd (P : Program) (w : World) (K : PySem.W.Frag) (mg : Str → Option Value) (base : Heap) (CX : CXT) (k : Nat) (x : Str) (ps : List Str) (sp : Sp) : Prop where
  ex : ∃ g gd, FnOk P w K mg base CX k g gd ps sp ∧ Binds K gd ps [] ∧ PySem.W.keepIn K (.ref g) = true ∧ mg x = some (.ref g)
end FB
namespace FB
open PySem L2 PyProof.Rows
seal PSs PS PE PT PA
def spWhole : Sp := fun vs H Q _ => ∃ (i : Int), vs = [.int i] ∧ Q (.bl true) H
section
variable {P : Program} {w : World} {K : PySem.W.Frag} {mg : Str → Option Value} {base : Heap} {f : Addr} {fd : FuncData}
theorem scWh : FnScope ["_law_found"] ["_law_found"] (defScope sWhole) := ⟨rfl, rfl, rfl, by decide +kernel, rfl, by decide +kernel, by decide +kernel⟩
theorem ok_whole (F : Fun K "_law_whole" "_law_whole" sWhole f fd) (T : Txt K mg) : FnOk P w K mg base CX0 1 f fd ["_law_found"] spWhole := by
  refine F.ok scWh (fun vs H Q E h => ?_) (fun cdv A outer s H vs Q E hr h => ?_)
  · obtain ⟨i, rfl, _⟩ := h
    rfl
  obtain ⟨i, rfl, q⟩ := h
  refine ⟨_, pss_one (ps_ret (pe_and (pe_callB call_isinst rfl T.isin boot_isinstance (pa_cons (pv 0) (pa_cons (pe_ty rfl T.int boot_int) pa_nil))) (pe_one (pe_not (pe_callB call_isinst rfl T.isin boot_isinstance (pa_cons (pv 0) (pa_cons (pe_ty rfl T.bool boot_bool) pa_nil))))))), ?_⟩
  refine ⟨_, rfl, _, _, _, _, rfl, .int i, kit_ii K, _, rfl, iteT ⟨_, rfl, _, _, _, _, rfl, .int i, kit_ib K, _, rfl, q⟩⟩
end
end FB
namespace FB
open PySem L2 PyProof.Rows
seal PSs PS PE PT PA
def MkAt (H : Hp) (d : Addr) (ps : List Pk) : Prop := ∃ kvs : List (NKey × V), H d = some (.dN kvs) ∧ ∀ k : Pk, (valV kvs (some (dkey k))).isSome = decide (k ∈ ps)
theorem MkAt.same {H H' : Hp} (e : Same H H') {d : Addr} {ps : List Pk} (h : MkAt H d ps) : MkAt H' d ps := let ⟨kvs, h1, h2⟩ := h; ⟨kvs, e _ _ h1, h2⟩
theorem MkAt.get {H : Hp} {d : Addr} {ps : List Pk} (h : MkAt H d ps) {v : V} {k : Pk} (hk : PkAt H v k) : ∃ o : Option V, DGetN H d v o ∧ o.isSome = decide (k ∈ ps) := by
  obtain ⟨kvs, h1, h2⟩ := h
  obtain ⟨q, rfl, hq⟩ := hk
  exact ⟨_, ⟨kvs, some (dkey k), .inl h1, ⟨q, rfl, hq⟩, rfl⟩, h2 k⟩
def spMarked : Sp := fun vs H Q _ => ∃ (a : Addr) (ps : List Pk), vs = [.ref a] ∧ PksAt H a ps ∧ ps.length ≤ 30000 ∧ ∀ d H', Same H H' → MkAt H' d ps → Q (.ref d) H'
def spHasAll : Sp := fun vs H Q _ => ∃ (d a : Addr) (ms ps : List Pk), vs = [.ref d, .ref a] ∧ MkAt H d ms ∧ PksAt H a ps ∧ Q (.bl (ps.all fun p => decide (p ∈ ms))) H
def spBars : Sp := fun vs H Q _ => ∃ (a b : Addr) (ls : List Ln) (ps : List Pk), vs = [.ref a, .ref b] ∧ LnsAt H a ls ∧ PksAt H b ps ∧ ps.length ≤ 30000 ∧ ∀ H', Same H H' → Q (.bl (ls.any fun l => l.1.all fun p => decide (p ∈ ps))) H'
section
variable {P : Program} {w : World} {K : PySem.W.Frag} {mg : Str → Option Value} {base : Heap} {f : Addr} {fd : FuncData}
theorem scMk : FnScope ["picks", "among", "pick"] ["picks"] (defScope sMarked) := ⟨rfl, rfl, rfl, by decide +kernel, rfl, by decide +kernel, by decide +kernel⟩
theorem ok_marked (F : Fun K "marked" "marked" sMarked f fd) : FnOk P w K mg base CX0 1 f fd ["picks"] spMarked := by
  refine F.ok scMk (fun vs H Q E h => ?_) (fun cdv A outer s H vs Q E hr h => ?_)
  · obtain ⟨a, ps, rfl, _⟩ := h
    rfl
  obtain ⟨a, ps, rfl, ⟨xs, hx, hp⟩, hl, q⟩ := h
  have hu := hu_of hr
  refine ⟨_, (pss_cons (ps_set (i := 1) scMk.nd rfl (Or.inl rfl) pe_dnewN)
    (pss_cons (ps_for PassesOwn.never rfl (pi_list (pv 0)) (pg_name (i := 2) scMk.nd rfl (Or.inl rfl)) (pss_one (ps_dputN hu (pv 1) (pv 2) pe_bl rfl)))
    (pss_one (ps_ret (pv 1))))), ?_⟩
  have lx := Paired.length hp
  refine fun d hd => ?_
  refine ⟨_, rfl, a, rfl, ⟨xs, SqL.of ((same_new hd _) _ _ hx)⟩, for_list (K := K) (a := a) (xs := xs) (fun i σ H2 => ∃ o2 kvs, σ = [some (.ref a), some (.ref d), o2] ∧ Same H H2 ∧ H2 d = some (.dN kvs) ∧ kvs.length ≤ i ∧ ∀ k : Pk, (valV kvs (some (dkey k))).isSome = decide (k ∈ ps.take i))
    ⟨none, [], rfl, same_new hd _, upd_same, Nat.le_refl _, fun k => by simp [valV]⟩ (fun i σ H2 _ ⟨_, _, _, s, _⟩ => SqL.of (s _ _ hx)) ?_ ?_⟩
  · rintro i x σ H2 hi ⟨o2, kvs, rfl, s2, h2, hk, hm⟩
    obtain ⟨k, hki, kq, rfl, hkq⟩ := Paired.getR hp hi
    have hil : i < xs.length := (List.getElem?_eq_some_iff.mp hi).1
    have ht : ps.take (i + 1) = ps.take i ++ [k] := by rw [List.take_succ, hki]; rfl
    refine ⟨_, rfl, _, rfl, d, _, rfl, ⟨kvs, some (dkey k), h2, ⟨kq, rfl, s2 _ _ hkq⟩, by rw [sizeLine_eq]; omega, rfl⟩, _, _, rfl, Same.upd s2 hd, upd_same, by have := length_putK kvs (some (dkey k)) (V.bl true); omega, fun j => ?_⟩
    rw [valV_put, ht]
    by_cases e : j = k
    · subst e; simp
    · rw [if_neg (fun z => e (dkey_inj (Option.some.inj z))), hm j]
      simp [e]
  · rintro σ H2 ⟨o2, kvs, rfl, s2, h2, hk, hm⟩
    rw [lx, List.take_length] at hm
    exact ⟨_, rfl, q d H2 s2 ⟨kvs, h2, hm⟩⟩
theorem scHa : FnScope ["among", "picks", "pick"] ["among", "picks"] (defScope sHasAll) := ⟨rfl, rfl, rfl, by decide +kernel, rfl, by decide +kernel, by decide +kernel⟩
theorem ok_hasAll (F : Fun K "has_all" "has_all" sHasAll f fd) : FnOk P w K mg base CX0 1 f fd ["among", "picks"] spHasAll := by
  refine F.ok scHa (fun vs H Q E h => ?_) (fun cdv A outer s H vs Q E hr h => ?_)
  · obtain ⟨d, a, ms, ps, rfl, _⟩ := h
    rfl
  obtain ⟨d, a, ms, ps, rfl, hm, ⟨xs, hx, hp⟩, q⟩ := h
  have hu := hu_of hr
  refine ⟨_, (pss_cons (ps_for PassesOwn.never rfl (pi_list (pv 1)) (pg_name (i := 2) scHa.nd rfl (Or.inl rfl)) (pss_one (ps_if (pt_cmp (pc_dnotinN hu (pv 2) (pv 0))) (pss_one (ps_ret pe_bl)) pss_nil)))
    (pss_one (ps_ret pe_bl))), ?_⟩
  have lx := Paired.length hp
  refine ⟨_, rfl, a, rfl, ⟨xs, SqL.of hx⟩, for_list (K := K) (a := a) (xs := xs) (fun i σ H2 => ∃ o2, σ = [some (.ref d), some (.ref a), o2] ∧ H2 = H ∧ ∀ p ∈ ps.take i, p ∈ ms)
    ⟨none, rfl, rfl, by simp⟩ (fun i σ H2 _ ⟨_, _, e, _⟩ => e ▸ SqL.of hx) ?_ ?_⟩
  · rintro i x σ H2 hi ⟨o2, rfl, rfl, hin⟩
    obtain ⟨k, hki, hk⟩ := Paired.getR hp hi
    obtain ⟨o, g, go⟩ := hm.get hk
    have ht : ps.take (i + 1) = ps.take i ++ [k] := by rw [List.take_succ, hki]; rfl
    refine ⟨_, rfl, _, rfl, d, o, rfl, g, _, rfl, ?_⟩
    by_cases e : k ∈ ms
    · rw [decide_eq_true e] at go
      rw [if_pos rfl, go]
      refine iteF ⟨_, rfl, rfl, fun p hp' => ?_⟩
      rw [ht] at hp'
      rcases List.mem_append.mp hp' with z | z
      · exact hin p z
      · rw [List.mem_singleton.mp z]; exact e
    · rw [decide_eq_false e] at go
      rw [if_pos rfl, go]
      refine iteT ?_
      have : (ps.all fun p => decide (p ∈ ms)) = false := by
        rw [List.all_eq_false]
        exact ⟨k, List.mem_of_getElem? hki, by simpa using e⟩
      rw [this] at q
      exact q
  · rintro σ H2 ⟨o2, rfl, rfl, hin⟩
    rw [lx, List.take_length] at hin
    have : (ps.all fun p => decide (p ∈ ms)) = true := List.all_eq_true.mpr fun p hp' => decide_eq_true (hin p hp')
    rw [this] at q
    exact q
theorem scBr : FnScope ["lines", "picks", "among", "line"] ["lines", "picks"] (defScope sBars) := ⟨rfl, rfl, rfl, by decide +kernel, rfl, by decide +kernel, by decide +kernel⟩
theorem ok_bars {g g2 : Addr} {gd gd2 : FuncData} (F : Fun K "bars" "bars" sBars f fd) (G : FnOk P w K mg base CX0 1 g gd ["picks"] spMarked) (bG : Binds K gd ["picks"] []) (kG : PySem.W.keepIn K (.ref g) = true) (mG : mg "marked" = some (.ref g))
    (G2 : FnOk P w K mg base CX0 1 g2 gd2 ["among", "picks"] spHasAll) (bG2 : Binds K gd2 ["among", "picks"] []) (kG2 : PySem.W.keepIn K (.ref g2) = true) (mG2 : mg "has_all" = some (.ref g2)) : FnOk P w K mg base CX0 2 f fd ["lines", "picks"] spBars := by
  refine F.ok scBr (fun vs H Q E h => ?_) (fun cdv A outer s H vs Q E hr h => ?_)
  · obtain ⟨a, b, ls, ps, rfl, _⟩ := h
    rfl
  obtain ⟨a, b, ls, ps, rfl, ⟨xs, hx, hp⟩, hps, hl, q⟩ := h
  refine ⟨_, (pss_cons (ps_set (i := 2) scBr.nd rfl (Or.inl rfl) (pe_call G hr rfl mG kG bG .nil pass0 (pa_cons (pv 1) pa_nil)))
    (pss_cons (ps_for PassesOwn.never rfl (pi_list (pv 0)) (pg_name (i := 3) scBr.nd rfl (Or.inl rfl)) (pss_one (ps_if (pt_val (pe_call G2 hr rfl mG2 kG2 bG2 .nil pass0 (pa_cons (pv 2) (pa_cons (pe_ix ix_tup (pv 3) pe_int (fun _ _ => rfl)) pa_nil)))) (pss_one (ps_ret pe_bl)) pss_nil)))
    (pss_one (ps_ret pe_bl)))), ?_⟩
  have lx := Paired.length hp
  refine ⟨_, rfl, b, ps, rfl, hps, hl, fun d H1 s1 hm => ?_⟩
  refine ⟨_, rfl, a, rfl, ⟨xs, SqL.of (s1 _ _ hx)⟩, for_list (K := K) (a := a) (xs := xs) (fun i σ H2 => ∃ o2, σ = [some (.ref a), some (.ref b), some (.ref d), o2] ∧ H2 = H1 ∧ ∀ l ∈ ls.take i, (l.1.all fun p => decide (p ∈ ps)) = false)
    ⟨none, rfl, rfl, by simp⟩ (fun i σ H2 _ ⟨_, _, e, _⟩ => e ▸ SqL.of (s1 _ _ hx)) ?_ ?_⟩
  · rintro i x σ H2 hi ⟨o2, rfl, rfl, hin⟩
    obtain ⟨l, hli, hl'⟩ := Paired.getR hp hi
    obtain ⟨lq, la, rv, rfl, h3, h4, h5⟩ := LnAt.same s1 hl'
    have ht : ls.take (i + 1) = ls.take i ++ [l] := by rw [List.take_succ, hli]; rfl
    refine ⟨_, rfl, _, rfl, lq, _, _, _, rfl, rfl, SqT.of h3, rfl, d, la, ps, l.1, rfl, hm, h4, _, rfl, ?_⟩
    refine ite2 (fun e => ?_) (fun e => ?_)
    · have : (ls.any fun l => l.1.all fun p => decide (p ∈ ps)) = true := List.any_eq_true.mpr ⟨l, List.mem_of_getElem? hli, e⟩
      have z := q H2 s1
      rw [this] at z
      exact z
    · refine ⟨_, rfl, rfl, fun l' hl'' => ?_⟩
      rw [ht] at hl''
      rcases List.mem_append.mp hl'' with z | z
      · exact hin l' z
      · rw [List.mem_singleton.mp z]; exact Bool.eq_false_iff.mpr e
  · rintro σ H2 ⟨o2, rfl, rfl, hin⟩
    rw [lx, List.take_length] at hin
    have : (ls.any fun l => l.1.all fun p => decide (p ∈ ps)) = false := by
      rw [List.any_eq_false]
      exact fun l hl' e => by rw [hin l hl'] at e; cases e
    have z := q H2 s1
    rw [this] at z
    exact z
end
end FB
namespace FB
open PySem L2 PyProof.Rows
seal PSs PS PE PT PA
def toldN (es : List En) (sn : List Nd) (ps : List Pk) (r : Rs) : Option Nd := if whoB es ps r.who = true then nthZ (needsFor es sn r.who) r.place else none
def NdO (H : Hp) (v : V) : Option Nd → Prop
  | none => v = .non
  | some n => NdAt H v n
def spTold (C : Addr) : Sp := fun vs H Q _ => ∃ (b d st : Addr) (rv : V) (es : List En) (sn : List Nd) (ps : List Pk) (r : Rs), vs = [.ref b, .ref d, rv] ∧ BoardAt C H b st es ∧ (es.map keyOf).Nodup ∧ NdsAt H st sn ∧ MkAt H d ps ∧ RsAt H rv r ∧
  ∀ v, NdO H v (toldN es sn ps r) → Q v H
section
variable {P : Program} {w : World} {K : PySem.W.Frag} {mg : Str → Option Value} {base : Heap} {f : Addr} {fd : FuncData}
theorem scTd : FnScope ["board", "among", "reason", "who", "place"] ["board", "among", "reason"] (defScope sTold) := ⟨rfl, rfl, rfl, by decide +kernel, rfl, by decide +kernel, by decide +kernel⟩
theorem ok_told {C : Addr} (F : Fun K "need_told" "need_told" sTold f fd) (T : TB K mg C) (mL : mg "len" = none) : FnOk P w K mg base CX0 1 f fd ["board", "among", "reason"] (spTold C) := by
  refine F.ok scTd (fun vs H Q E h => ?_) (fun cdv A outer s H vs Q E hr h => ?_)
  · obtain ⟨b, d, st, rv, es, sn, ps, r, rfl, _⟩ := h
    rfl
  obtain ⟨b, d, st, rv, es, sn, ps, r, rfl, hB, hnd, hst, hm, ⟨rq, wv, tv, rfl, hrq, hw, ht⟩, q⟩ := h
  have hu := hu_of hr
  obtain ⟨dx, dn, dv, hb, h0, hlook⟩ := hB.start
  have tl : ∃ tR : TS, PSs (cxOf CX0 P w K mg base ["board", "among", "reason", "who", "place"] "need_told" (defScope sTold) f cdv A outer s H E).nox ((defBody sTold).drop 3) tR ∧
      (∀ (na : Addr) (zs : List V) (ns : List Nd), DGetN H dn wv (some (.ref na)) → H na = some (.lst zs) → Paired (NdAt H) zs ns → (∀ v, NdO H v (nthZ ns r.place) → Q v H) →
        tR { nx := fun _ H' => Q .non H', rt := Q } [some (.ref b), some (.ref d), some (.ref rq), some wv, some (.int r.place)] H) ∧
      (DGetN H dn wv none → Q .non H → tR { nx := fun _ H' => Q .non H', rt := Q } [some (.ref b), some (.ref d), some (.ref rq), some wv, some (.int r.place)] H) := by
    refine ⟨_, (pss_cons (ps_if (pt_cmp (pc_dnotinN hu (pv 3) (pe_fld (pv 0) rfl))) (pss_one (ps_ret pe_non)) pss_nil)
      (pss_cons (ps_if (PW.pt (pw_or (pt_cmpR op_lt (pv 4) pe_int (nomark _)) (pw_or1 (pt_cmpR op_ge (pv 4) (pe_callB call_len_seq rfl mL PySem.boot_len (pa_cons (pe_dgetN hu (pe_fld (pv 0) rfl) (pv 3) (fun _ _ => rfl)) pa_nil)) (nomark _))))) (pss_one (ps_ret pe_non)) pss_nil)
      (pss_one (ps_ret (pe_ix ix_list (pe_dgetN hu (pe_fld (pv 0) rfl) (pv 3) (fun _ _ => rfl)) (pv 4) (fun _ _ => rfl)))))), ?_, fun hg q => ⟨_, rfl, _, rfl, b, C, dx, _, _, rfl, hb, T.cl, T.nN, bflds_needs _ _, dn, _, rfl, hg, _, rfl, iteT q⟩⟩
    intro na zs ns hg hna hz q
    have lz := Paired.length hz
    refine ⟨_, rfl, _, rfl, b, C, dx, _, _, rfl, hb, T.cl, T.nN, bflds_needs _ _, dn, _, rfl, hg, _, rfl, iteF ?_⟩
    refine ⟨_, rfl, _, _, rfl, rfl, _, rfl, ?_⟩
    refine ite2 (fun e => ?_) (fun e => ?_)
    · have e' : r.place < 0 := of_decide_eq_true e
      rw [nthZ_none.mpr (.inl e')] at q
      exact iteT (q .non rfl)
    · have e' : ¬ r.place < 0 := fun z => e (decide_eq_true z)
      refine ⟨_, rfl, _, rfl, b, C, dx, _, _, rfl, hb, T.cl, T.nN, bflds_needs _ _, _, rfl, dn, _, rfl, hg, na, _, rfl, .inl (SqL.of hna), _, _, rfl, rfl, _, rfl, ?_⟩
      refine ite2 (fun e2 => ?_) (fun e2 => ?_)
      · have e2' : (zs.length : Int) ≤ r.place := of_decide_eq_true e2
        rw [nthZ_none.mpr (.inr (by omega))] at q
        exact q .non rfl
      · have e2' : ¬ (zs.length : Int) ≤ r.place := fun z => e2 (decide_eq_true z)
        obtain ⟨n, hn⟩ := nthZ_some (xs := ns) (i := r.place) (by omega) (by omega)
        obtain ⟨v, hv, hvn⟩ := nthZ_pair hz hn
        rw [hn] at q
        exact ⟨_, rfl, b, C, dx, _, _, rfl, hb, T.cl, T.nN, bflds_needs _ _, _, rfl, dn, _, rfl, hg, _, rfl, na, _, _, _, rfl, rfl, SqL.of hna, nthZ_at hv, q v hvn⟩
  obtain ⟨tR, hR, kR, kN⟩ := tl
  refine ⟨_, (pss_cons (ps_set (i := 3) scTd.nd rfl (Or.inl rfl) (pe_ix ix_tup (pv 2) pe_int (fun _ _ => rfl)))
    (pss_cons (ps_set (i := 4) scTd.nd rfl (Or.inl rfl) (pe_ix ix_tup (pv 2) pe_int (fun _ _ => rfl)))
    (pss_cons (ps_if (PW.pt (pw_and (pt_cmp (pc_notN (pv 3))) (pw_and1 (pt_cmp (pc_dnotinN hu (pv 3) (pv 1)))))) (pss_one (ps_ret pe_non)) pss_nil) hR))), ?_⟩
  refine ⟨_, rfl, rq, _, _, _, rfl, rfl, SqT.of hrq, rfl, _, rfl, rq, _, _, _, rfl, rfl, SqT.of hrq, rfl, ?_⟩
  cases ew : r.who with
  | none =>
    rw [ew] at hw
    cases (show wv = .non from hw)
    obtain ⟨zs, hz, hzp⟩ := hst
    refine ⟨_, rfl, _, rfl, iteF ?_⟩
    refine kR st zs sn h0 hz hzp fun v hv => q v ?_
    unfold toldN
    rw [ew]
    exact hv
  | some k =>
    rw [ew] at hw
    have hk : PkAt H wv k := hw
    obtain ⟨o, g, go⟩ := hm.get hk
    obtain ⟨kq, rfl, hkq⟩ := id hk
    refine ⟨_, rfl, _, rfl, iteT ⟨_, rfl, _, rfl, d, o, rfl, g, _, rfl, ?_⟩⟩
    by_cases e : k ∈ ps
    · rw [decide_eq_true e] at go
      rw [if_pos rfl, go]
      refine iteF ?_
      rcases hlook _ k hk with ⟨z1, z2⟩ | ⟨z1, en, he, hke, na, zs, z2, z3, z4⟩
      · refine kN z2 (q .non ?_)
        unfold toldN
        rw [ew]
        have : ¬ whoB es ps (some k) = true := by show ¬ (decide (k ∈ ps) && decide (k ∈ es.map keyOf)) = true; rw [decide_eq_false z1]; simp
        rw [if_neg this]
        rfl
      · refine kR na zs en.2.2 z2 z3 z4 fun v hv => q v ?_
        unfold toldN
        rw [ew]
        have : whoB es ps (some k) = true := by show (decide (k ∈ ps) && decide (k ∈ es.map keyOf)) = true; rw [decide_eq_true e, decide_eq_true z1]; rfl
        rw [if_pos this]
        show NdO H v (nthZ (needsOf es k) r.place)
        rw [← hke, needs_found hnd he]
        exact hv
    · rw [decide_eq_false e] at go
      rw [if_pos rfl, go]
      refine iteT (q .non ?_)
      unfold toldN
      rw [ew]
      have : ¬ whoB es ps (some k) = true := by show ¬ (decide (k ∈ ps) && decide (k ∈ es.map keyOf)) = true; rw [decide_eq_false e]; simp
      rw [if_neg this]
      rfl
end
end FB
namespace FB
open PySem L2 PyProof.Rows
seal PSs PS PE PT PA
theorem pk_shaped {k : Pk} (h : PartOk k.1) : SeqAt.shaped (pkD k) = true := okD_shaped (pk_ok h) (by decide)
abbrev nmLv : List Str := ["board", "among", "need", "below", "lines", "place", "versions", "version", "at", "others"]
theorem nd_ot : (["pick", "version", "need"] : List Str).Nodup := by decide +kernel
def spLeaves (C : Addr) : Sp := fun vs H Q _ => ∃ (b d st ba la : Addr) (nv : V) (es : List En) (ps : List Pk) (n : Nd) (bs : List Int) (ls : List Ln) (place : Int), vs = [.ref b, .ref d, nv, .ref ba, .ref la, .int place] ∧ BoardAt C H b st es ∧ es.length < 64 ∧
  MkAt H d ps ∧ NdAt H nv n ∧ PartOk n.1 ∧ H ba = some (.lst (bs.map V.int)) ∧ LnsAt H la ls ∧ (∀ l ∈ ls, LnOk l) ∧ place ≤ ls.length ∧ ∀ H', Same H H' → Q (.bl (leftB es ls place ps n bs)) H'
section
variable {P : Program} {w : World} {K : PySem.W.Frag} {mg : Str → Option Value} {base : Heap} {f : Addr} {fd : FuncData}
theorem scLv : FnScope nmLv ["board", "among", "need", "below", "lines", "place"] (defScope sLeaves) := ⟨rfl, rfl, rfl, by decide +kernel, rfl, by decide +kernel, by decide +kernel⟩
theorem ok_leaves {C fM g : Addr} {fdM gd : FuncData} (F : Fun K "leaves_no_version" "leaves_no_version" sLeaves f fd) (T : TB K mg C) (mL : mg "len" = none) (mZ : mg "zip" = none) (GM : FnOk P w K mg base CX0 2 fM fdM ["self", "need"] (spMeeting C)) (bM : Binds K fdM ["self", "need"] []) (mM : Meth K C "meeting" fM)
    (G : FnOk P w K mg base CX0 1 g gd ["among", "picks"] spHasAll) (bG : Binds K gd ["among", "picks"] []) (kG : PySem.W.keepIn K (.ref g) = true) (mG : mg "has_all" = some (.ref g)) :
    FnOk P w K mg base CX0 3 f fd ["board", "among", "need", "below", "lines", "place"] (spLeaves C) := by
  refine F.ok scLv (fun vs H Q E h => ?_) (fun cdv A outer s H vs Q E hr h => ?_)
  · obtain ⟨b, d, st, ba, la, nv, es, ps, n, bs, ls, place, rfl, _⟩ := h
    rfl
  obtain ⟨b, d, st, ba, la, nv, es, ps, n, bs, ls, place, rfl, hB, hel, hm, ⟨nq, rfl, hnq⟩, hnp, hba, ⟨ys, hy, hyp⟩, hlo, hpl, q⟩ := h
  have hr1 : Room 1 _ := hr.mono (by decide)
  refine ⟨_, (pss_cons (ps_set (i := 6) scLv.nd rfl (Or.inl rfl) (pe_meth (pv 0) T.cl mM GM hr bM .nil pass0 (pa_cons (pv 2) pa_nil)))
    (pss_cons (ps_if (pt_cmpR op_ne (pe_callB call_len_seq rfl mL PySem.boot_len (pa_cons (pv 3) pa_nil)) (pe_callB call_len_seq rfl mL PySem.boot_len (pa_cons (pv 6) pa_nil)) (nomark _)) (pss_one (ps_ret pe_bl)) pss_nil)
    (pss_cons (ps_for PassesOwn.never rfl (pi_zip rfl mZ (pv 6) (pv 3)) (pg_tup rfl (pgs_cons (pg_name (i := 7) scLv.nd rfl (Or.inr rfl)) (pgs_cons (pg_name (i := 8) scLv.nd rfl (Or.inl rfl)) pgs_nil)))
      (pss_cons (ps_if (PW.pt (pw_or (pt_cmpR op_lt (pv 8) pe_int (nomark _)) (pw_or1 (pt_cmpR op_ge (pv 8) (pv 5) (nomark _))))) (pss_one (ps_ret pe_bl)) pss_nil)
      (pss_cons (ps_setC (i := 9) (N' := ["pick", "version", "need"]) (n := 1) (js := [7, 2]) rfl
          (CompS.two (c := s.heap.objs.size + 2) (c' := s.heap.objs.size + 1) (y := "version") (y' := "need") rfl rfl rfl (by decide +kernel) (by decide +kernel) rfl (by decide +kernel) (by decide +kernel) rfl rfl rfl rfl rfl rfl rfl rfl rfl) (gk_name (by decide)) scLv.nd rfl rfl
          (pi_list (pe_ix ix_tup (pe_ix ix_list (pv 4) (pv 8) (fun _ _ => rfl)) pe_int (fun _ _ => rfl)))
          (fun C s2 H2 fp => pg_name (i := 0) nd_ot rfl (Or.inl rfl))
          (fun C s2 H2 fp => pts_one (pt_cmpR (op_neD hr.units) (pv 0) (pe_tup (pa_cons (pe_ix (r := rIxT K) ix_tup (pv 2) pe_int (fun _ _ => rfl)) (pa_cons (pv 1) pa_nil))) (nomark _)))
          (fun C s2 H2 fp => pv 0))
      (pss_one (ps_if (pt_not (pt_val (pe_call G hr1 rfl mG kG bG .nil pass0 (pa_cons (pv 1) (pa_cons (pv 9) pa_nil))))) (pss_one (ps_ret pe_bl)) pss_nil)))))
    (pss_one (ps_ret pe_bl))))), ?_⟩
  obtain ⟨dx', dn, dv, nks, vk, b1, b2, b3, b4, b5⟩ := id hB.ex
  refine ⟨_, rfl, b, dx', _, rfl, b1, bflds_no _ _ (by decide +kernel) (by decide +kernel), _, rfl, b, st, es, .ref nq, n, rfl, hB, ⟨nq, rfl, hnq⟩, hel, fun va ms H1 s1 _ hva hpm hpw => ?_⟩
  have hms := newP_one hpm hpw
  refine ⟨_, rfl, ba, _, rfl, .inl (SqL.of (s1 _ _ hba)), _, rfl, va, _, rfl, .inl (SqL.of hva), rfl, _, rfl, ?_⟩
  refine ite2 (fun e => ?_) (fun e => ?_)
  · have e0 : ¬ bs.length = ms.length := fun z => by
      rw [List.length_map, List.length_map, z, decide_eq_true rfl] at e; cases e
    have e1 : leftB es ls place ps n bs = false := by unfold leftB; rw [← hms, decide_eq_false e0]; rfl
    have z := q H1 s1
    rw [e1] at z
    exact z
  have hle : bs.length = ms.length := by
    by_cases z : ((bs.map V.int).length : Int) = ((ms.map V.int).length : Int)
    · rw [List.length_map, List.length_map] at z; omega
    · exfalso; apply e
      rw [decide_eq_false (fun y => z (V.int.inj y))]; rfl
  have hne : ∀ {b v : Int} {j : Nat}, bs[j]? = some b → ms[j]? = some v → barB ls place ps n.1 b v = false → leftB es ls place ps n bs = false := fun {b v j} hb hv hf => by
    unfold leftB
    rw [← hms, Bool.and_eq_false_iff]
    right
    rw [List.all_eq_false]
    exact ⟨(b, v), List.mem_of_getElem? (i := j) (List.getElem?_zip_eq_some.mpr ⟨hb, hv⟩), by rw [hf]; exact Bool.false_ne_true⟩
  refine ⟨_, rfl, _, rfl, va, ba, _, _, rfl, rfl, hva, s1 _ _ hba, for_zip (K := K) (a := va) (b := ba) (xs := ms.map V.int) (ys := bs.map V.int)
    (fun i σ H2 => ∃ o7 o8 o9, σ = [some (.ref b), some (.ref d), some (.ref nq), some (.ref ba), some (.ref la), some (.int place), some (.ref va), o7, o8, o9] ∧ Same H1 H2 ∧ ∀ (j : Nat) (x y : Int), j < i → bs[j]? = some x → ms[j]? = some y → barB ls place ps n.1 x y = true)
    ⟨none, none, none, rfl, Same.refl _, fun j x y hj => absurd hj (Nat.not_lt_zero _)⟩ (by rw [List.length_map, List.length_map, hle]) (fun i σ H2 _ ⟨_, _, _, _, s, _⟩ => ⟨SqL.of (s _ _ hva), SqL.of (s _ _ (s1 _ _ hba))⟩) ?_ ?_⟩
  · rintro i x y σ H2 t hxi hyi ⟨o7, o8, o9, rfl, s2, hin⟩ htn
    rw [List.getElem?_map] at hxi hyi
    obtain ⟨v, hv, rfl⟩ := Option.map_eq_some_iff.mp hxi
    obtain ⟨z, hz, rfl⟩ := Option.map_eq_some_iff.mp hyi
    have s3 := same_new htn (.tup [.int v, .int z])
    have s23 := s2.trans s3
    have s13 := s1.trans s23
    refine ⟨t, _, rfl, SqT.of upd_same, rfl, _, _, rfl, _, _, rfl, rfl, ?_⟩
    refine ⟨_, rfl, _, _, rfl, rfl, _, rfl, ?_⟩
    refine ite2 (fun e => ?_) (fun e => ?_)
    · have e' : z < 0 := of_decide_eq_true e
      have z0 := q _ s13
      rw [hne hz hv (by unfold barB; rw [decide_eq_false (by omega)]; rfl)] at z0
      exact iteT z0
    have e' : ¬ z < 0 := fun y => e (decide_eq_true y)
    refine ⟨_, rfl, _, rfl, _, _, rfl, rfl, _, rfl, ?_⟩
    refine ite2 (fun e2 => ?_) (fun e2 => ?_)
    · have e2' : place ≤ z := of_decide_eq_true e2
      have z0 := q _ s13
      rw [hne hz hv (by unfold barB; rw [decide_eq_false (p := z < place) (by omega), Bool.false_and, Bool.and_false])] at z0
      exact z0
    have e2' : ¬ place ≤ z := fun y => e2 (decide_eq_true y)
    obtain ⟨l, hl⟩ := nthZ_some (xs := ls) (i := z) (by omega) (by omega)
    obtain ⟨lv, hlv, hln⟩ := nthZ_pair hyp hl
    obtain ⟨lq, pa, rv, rfl, h1, ⟨zs, h2, h3⟩, _⟩ := LnAt.same s13 hln
    have hlok := hlo l (nthZ_mem hl)
    generalize hH3 : upd H2 t (.tup [.int v, .int z]) = H3 at *
    refine ⟨_, rfl, _, rfl, la, _, _, _, rfl, rfl, SqL.of (s13 _ _ hy), nthZ_at hlv, lq, _, _, _, rfl, rfl, SqT.of h1, rfl, pa, rfl, ⟨zs, SqL.of h2⟩, ?_⟩
    have lz := Paired.length h3
    refine comp_list (xs := zs) (fun D i ys H4 => Paired (PkAt H3) ys ((l.1.take i).filter fun p => !decide (p = (n.1, v))) ∧ H4 D = some (.lst ys) ∧ Same H3 H4 ∧ H3 D = none) (fun D hD => ⟨by simpa using Paired.nil, upd_same, same_new hD _, hD⟩)
      (fun D i ys H4 hi ⟨g1, g2, g3, g4⟩ => ⟨SqL.of (g3 _ _ h2), g2, ?_⟩) (fun D i x ys H4 hi ⟨g1, g2, g3, g4⟩ => ?_) (fun D ys H4 ⟨g1, g2, g3, g4⟩ => ?_)
    · rw [Paired.length g1]
      have a1 := List.length_filter_le (fun p => !decide (p = (n.1, v))) (l.1.take i)
      rw [List.length_take] at a1
      have := hlok.len
      rw [sizeLine_eq]
      omega
    · obtain ⟨k, hki, hk⟩ := Paired.getR h3 hi
      have ht : l.1.take (i + 1) = l.1.take i ++ [k] := by rw [List.take_succ, hki]; rfl
      obtain ⟨kq, rfl, hkq⟩ := id hk
      unfold gName
      refine ⟨_, rfl, _, rfl, nq, _, _, _, rfl, rfl, SqT.of (g3 _ _ (s13 _ _ hnq)), rfl, _, rfl, (by show 2 ≤ sizeLine; decide), fun t2 ht2 => ?_⟩
      have s5 := same_new ht2 (.tup [.str n.1, .int v])
      refine ⟨pkD k, pkD (n.1, v), PkAt.rep ⟨kq, rfl, s5 _ _ (g3 _ _ hkq)⟩, PkAt.rep (k := (n.1, v)) ⟨t2, rfl, upd_same⟩, pk_shaped (hlok.pk k (List.mem_of_getElem? hki)), pk_shaped (k := (n.1, v)) hnp, _, rfl, ?_⟩
      rw [eqv_pk]
      have nD : D ≠ t2 := ne_of_none g2 ht2
      have g5 := s5 _ _ g2
      refine ite2 (fun c => ?_) (fun c => ?_)
      · refine ⟨_, rfl, g5, ?_, upd_same, Same.upd (g3.trans s5) g4, g4⟩
        rw [ht, List.filter_append, List.filter_cons, if_pos c]
        exact Paired.snoc g1 hk
      · refine ⟨?_, g5, g3.trans s5, g4⟩
        rw [ht, List.filter_append, List.filter_cons, if_neg c, List.filter_nil, List.append_nil]
        exact g1
    · rw [lz, List.take_length] at g1
      have s4 := s13.trans g3
      refine ⟨_, rfl, _, rfl, d, D, ps, _, rfl, hm.same s4, ⟨ys, g2, Paired.mapP g1 fun _ _ z => PkAt.same g3 z⟩, _, rfl, ?_⟩
      have hb : barB ls place ps n.1 z v = ((l.1.filter fun p => !decide (p = (n.1, v))).all fun p => decide (p ∈ ps)) := by
        unfold barB
        rw [hl, decide_eq_true (by omega), decide_eq_true (p := z < place) (by omega), Bool.true_and, Bool.true_and, List.all_filter]
        show (l.1.all fun p => decide (p ∈ ps) || decide (p = (n.1, v))) = _
        congr 1
        funext p
        cases decide (p = (n.1, v)) <;> simp
      refine ite2 (fun c => ?_) (fun c => ?_)
      · rw [← hb] at c
        have z0 := q _ s4
        rw [hne hz hv (by simpa using c)] at z0
        exact z0
      · rw [← hb] at c
        refine ⟨_, _, _, rfl, s23.trans g3, fun j x y hj hx hy' => ?_⟩
        rcases Nat.lt_succ_iff_lt_or_eq.mp hj with w | w
        · exact hin j x y w hx hy'
        · subst w
          rw [hz] at hx
          rw [hv] at hy'
          cases hx
          cases hy'
          simpa using c
  · rintro σ H2 ⟨o7, o8, o9, rfl, s2, hin⟩
    rw [List.length_map] at hin
    have e1 : leftB es ls place ps n bs = true := by
      unfold leftB
      rw [← hms, decide_eq_true hle, Bool.true_and, List.all_eq_true]
      rintro ⟨x, y⟩ hxy
      obtain ⟨j, hj⟩ := List.getElem?_of_mem hxy
      obtain ⟨hx, hy'⟩ := List.getElem?_zip_eq_some.mp hj
      exact hin j x y (List.getElem?_eq_some_iff.mp hy').1 hx hy'
    have z := q H2 (s1.trans s2)
    rw [e1] at z
    exact z
end
end FB
namespace FB
open PySem L2 PyProof.Rows
seal PSs PS PE PT PA
def spFollows (C : Addr) : Sp := fun vs H Q _ => ∃ (b st la : Addr) (es : List En) (sn : List Nd) (ls : List Ln) (place : Nat) (l : Ln), vs = [.ref b, .ref la, .int place] ∧ BoardAt C H b st es ∧ es.length < 64 ∧ (es.map keyOf).Nodup ∧ (∀ e ∈ es, EnOk e) ∧ NdsAt H st sn ∧ (∀ n ∈ sn, PartOk n.1) ∧
  LnsAt H la ls ∧ (∀ l ∈ ls, LnOk l) ∧ ls[place]? = some l ∧ ∀ H', Same H H' → Q (.bl (lineB es sn ls place l)) H'
section
variable {P : Program} {w : World} {K : PySem.W.Frag} {mg : Str → Option Value} {base : Heap} {f : Addr} {fd : FuncData}
theorem scFw : FnScope ["board", "lines", "place", "reason", "among", "need"] ["board", "lines", "place"] (defScope sFollows) := ⟨rfl, rfl, rfl, by decide +kernel, rfl, by decide +kernel, by decide +kernel⟩
theorem ok_follows {C g1 g2 g3 g4 : Addr} {gd1 gd2 gd3 gd4 : FuncData} (F : Fun K "follows" "follows" sFollows f fd) (G1 : FnOk P w K mg base CX0 1 g1 gd1 ["picks"] spMarked) (b1 : Binds K gd1 ["picks"] []) (k1 : PySem.W.keepIn K (.ref g1) = true) (m1 : mg "marked" = some (.ref g1))
    (G2 : FnOk P w K mg base CX0 1 g2 gd2 ["board", "among", "reason"] (spTold C)) (b2 : Binds K gd2 ["board", "among", "reason"] []) (k2 : PySem.W.keepIn K (.ref g2) = true) (m2 : mg "need_told" = some (.ref g2))
    (G3 : FnOk P w K mg base CX0 1 g3 gd3 ["need", "pick"] spClashes) (b3 : Binds K gd3 ["need", "pick"] []) (k3 : PySem.W.keepIn K (.ref g3) = true) (m3 : mg "clashes" = some (.ref g3))
    (G4 : FnOk P w K mg base CX0 3 g4 gd4 ["board", "among", "need", "below", "lines", "place"] (spLeaves C)) (b4 : Binds K gd4 ["board", "among", "need", "below", "lines", "place"] []) (k4 : PySem.W.keepIn K (.ref g4) = true) (m4 : mg "leaves_no_version" = some (.ref g4)) :
    FnOk P w K mg base CX0 4 f fd ["board", "lines", "place"] (spFollows C) := by
  refine F.ok scFw (fun vs H Q E h => ?_) (fun cdv A outer s H vs Q E hr h => ?_)
  · obtain ⟨b, st, la, es, sn, ls, place, l, rfl, _⟩ := h
    rfl
  obtain ⟨b, st, la, es, sn, ls, place, l, rfl, hB, hel, hnd, hok, hst, hsp, ⟨ys, hy, hyp⟩, hlo, hpl, q⟩ := h
  have hu := hu_of hr
  have hr1 : Room 1 _ := hr.mono (by decide)
  refine ⟨_, (pss_cons (ps_set (i := 3) scFw.nd rfl (Or.inl rfl) (pe_ix ix_tup (pe_ix ix_list (pv 1) (pv 2) (fun _ _ => rfl)) pe_int (fun _ _ => rfl)))
    (pss_cons (ps_set (i := 4) scFw.nd rfl (Or.inl rfl) (pe_call G1 hr1 rfl m1 k1 b1 .nil pass0 (pa_cons (pe_ix ix_tup (pe_ix ix_list (pv 1) (pv 2) (fun _ _ => rfl)) pe_int (fun _ _ => rfl)) pa_nil)))
    (pss_cons (ps_set (i := 5) scFw.nd rfl (Or.inl rfl) (pe_call G2 hr1 rfl m2 k2 b2 .nil pass0 (pa_cons (pv 0) (pa_cons (pv 4) (pa_cons (pv 3) pa_nil)))))
    (pss_cons (ps_if (pt_cmp (pc_isN (pv 5))) (pss_one (ps_ret pe_bl)) pss_nil)
    (pss_cons (ps_if (pt_cmpR op_eq (pe_ix ix_tup (pv 3) pe_int (fun _ _ => rfl)) pe_str (nomark _))
      (pss_one (ps_ret (pe_and (pe_cmp (pc_dinN hu (pe_ix ix_tup (pv 3) pe_int (fun _ _ => rfl)) (pv 4))) (pe_one (pe_call G3 hr1 rfl m3 k3 b3 .nil pass0 (pa_cons (pv 5) (pa_cons (pe_ix ix_tup (pv 3) pe_int (fun _ _ => rfl)) pa_nil))))))) pss_nil)
    (pss_one (ps_ret (pe_call G4 hr rfl m4 k4 b4 .nil pass0 (pa_cons (pv 0) (pa_cons (pv 4) (pa_cons (pv 5) (pa_cons (pe_ix ix_tup (pv 3) pe_int (fun _ _ => rfl)) (pa_cons (pv 1) (pa_cons (pv 2) pa_nil)))))))))))))), ?_⟩
  have hlz : nthZ ls (place : Int) = some l := by rw [nthZ_nat]; exact hpl
  have hplt : place < ls.length := (List.getElem?_eq_some_iff.mp hpl).1
  obtain ⟨lv, hlv, hln⟩ := nthZ_pair hyp hlz
  have hlat := nthZ_at hlv
  have hlok := hlo l (nthZ_mem hlz)
  obtain ⟨lq, pa, rv, rfl, h1, h2, hrs⟩ := id hln
  obtain ⟨rq, wv, tv, rfl, hrq, hw, htd⟩ := id hrs
  refine ⟨_, rfl, _, rfl, la, _, _, _, rfl, rfl, SqL.of hy, hlat, lq, _, _, _, rfl, rfl, SqT.of h1, rfl, ?_⟩
  refine ⟨_, rfl, _, rfl, la, _, _, _, rfl, rfl, SqL.of hy, hlat, lq, _, _, _, rfl, rfl, SqT.of h1, rfl, pa, l.1, rfl, h2, Nat.le_trans hlok.len (by decide), fun d H1 s1 hm => ?_⟩
  refine ⟨_, rfl, _, rfl, _, rfl, b, d, st, .ref rq, es, sn, l.1, l.2, rfl, hB.same s1, hnd, NdsAt.same s1 hst, hm, RsAt.same s1 hrs, fun v hv => ?_⟩
  have hq1 := q H1 s1
  cases hn : toldN es sn l.1 l.2 with
  | none =>
    rw [hn] at hv
    cases (show v = .non from hv)
    have e : lineB es sn ls place l = false := by
      unfold lineB
      unfold toldN at hn
      by_cases z : whoB es l.1 l.2.who = true
      · rw [if_pos z] at hn
        rw [hn, Bool.and_false]
      · rw [Bool.eq_false_iff.mpr z, Bool.false_and]
    rw [e] at hq1
    exact ⟨_, rfl, _, rfl, iteT hq1⟩
  | some n =>
    rw [hn] at hv
    have hna : NdAt H1 v n := hv
    obtain ⟨nq, rfl, hnq⟩ := id hna
    obtain ⟨hw1, hw2⟩ : whoB es l.1 l.2.who = true ∧ nthZ (needsFor es sn l.2.who) l.2.place = some n := by
      unfold toldN at hn
      by_cases z : whoB es l.1 l.2.who = true
      · rw [if_pos z] at hn; exact ⟨z, hn⟩
      · rw [if_neg z] at hn; cases hn
    have e : lineB es sn ls place l = toldB es ls place l.1 n l.2.told := by
      unfold lineB
      rw [hw1, hw2, Bool.true_and]
    have hnp := needs_parts hok hsp _ n (nthZ_mem hw2)
    refine ⟨_, rfl, _, rfl, iteF ?_⟩
    refine ⟨_, rfl, rq, _, _, _, rfl, rfl, SqT.of (s1 _ _ hrq), rfl, rfl, _, rfl, ?_⟩
    cases ht : l.2.told with
    | one k =>
      rw [ht] at htd e
      have hk : PkAt H1 tv k := PkAt.same s1 htd
      obtain ⟨o, g, go⟩ := hm.get hk
      have e2 : lineB es sn ls place l = (decide (k ∈ l.1) && clB n k) := e
      refine ite2 (fun _ => ?_) (fun c => absurd (show decide (V.str "outside" = V.str "outside") = true by decide +kernel) c)
      refine ⟨_, rfl, rq, _, _, _, rfl, rfl, SqT.of (s1 _ _ hrq), rfl, _, rfl, d, o, rfl, g, _, rfl, ?_⟩
      rw [if_neg Bool.false_ne_true, go]
      by_cases c : k ∈ l.1
      · rw [decide_eq_true c, Bool.true_and] at e2
        rw [decide_eq_true c]
        refine iteT ⟨_, rfl, _, rfl, rq, _, _, _, rfl, rfl, SqT.of (s1 _ _ hrq), rfl, .ref nq, tv, n, k, rfl, hna, hk, ?_⟩
        rw [e2] at hq1
        exact hq1
      · rw [decide_eq_false c, Bool.false_and] at e2
        rw [decide_eq_false c]
        rw [e2] at hq1
        exact iteF hq1
    | many bs =>
      rw [ht] at htd e
      obtain ⟨ba, rfl, hba⟩ := htd
      refine ite2 (fun c => absurd c (show ¬ decide (V.str "open" = V.str "outside") = true by decide +kernel)) (fun _ => ?_)
      refine ⟨_, rfl, _, rfl, _, rfl, _, rfl, rq, _, _, _, rfl, rfl, SqT.of (s1 _ _ hrq), rfl, _, rfl, _, rfl, b, d, st, ba, la, .ref nq, es, l.1, n, bs, ls, place, rfl, hB.same s1, hel, hm, hna, hnp, s1 _ _ hba, ⟨ys, s1 _ _ hy, Paired.mapP hyp fun _ _ z => LnAt.same s1 z⟩, hlo, by omega, fun H2 s2 => ?_⟩
      have := q H2 (s1.trans s2)
      rw [e] at this
      exact this
end
end FB
namespace FB
open PySem L2 PyProof.Rows
seal PSs PS PE PT PA
def goodB (es : List En) (sn : List Nd) (ls : List Ln) (i : Nat) : Bool := match ls[i]? with
  | none => true
  | some l => lineB es sn ls i l
def spBad (CT : Addr) : Sp := fun vs H Q E => ∃ (a st la : Addr) (es : List En) (sn : List Nd) (ls : List Ln), vs = [.ref a, .ref st, .ref la] ∧ ShAt H a es ∧ (∀ e ∈ es, EnOk e) ∧ es.length < 64 ∧ NdsAt H st sn ∧ (∀ n ∈ sn, PartOk n.1) ∧ LnsAt H la ls ∧ (∀ l ∈ ls, LnOk l) ∧ ls.length ≤ 1000 ∧
  ((es.map keyOf).Nodup → (∀ (i : Nat) H', Same H H' → i < ls.length → goodB es sn ls i = false → (∀ j < i, goodB es sn ls j = true) → Q (.int i) H') ∧ ((∀ i, goodB es sn ls i = true) → ∀ H', Same H H' → Q .non H')) ∧
  (¬ (es.map keyOf).Nodup → ∀ H', Same H H' → E (.ref CT) none H')
section
variable {P : Program} {w : World} {K : PySem.W.Frag} {mg : Str → Option Value} {base : Heap} {f : Addr} {fd : FuncData}
theorem scBad : FnScope ["shelf", "start", "lines", "board", "place"] ["shelf", "start", "lines"] (defScope sBad) := ⟨rfl, rfl, rfl, by decide +kernel, rfl, by decide +kernel, by decide +kernel⟩
theorem ok_bad {C CT fI g : Addr} {fdI gd : FuncData} (F : Fun K "first_bad" "first_bad" sBad f fd) (T : TB K mg C) (mL : mg "len" = none) (mR : mg "range" = none) (M : Mk K C fI) (GI : FnOk P w K mg base (CXE P w) 1 fI fdI ["self", "shelf", "start"] (spInit C CT)) (bI : Binds K fdI ["self", "shelf", "start"] [])
    (G : FnOk P w K mg base CX0 4 g gd ["board", "lines", "place"] (spFollows C)) (bG : Binds K gd ["board", "lines", "place"] []) (kG : PySem.W.keepIn K (.ref g) = true) (mG : mg "follows" = some (.ref g)) :
    FnOk P w K mg base (CXE P w) 5 f fd ["shelf", "start", "lines"] (spBad CT) := by
  refine F.okX scBad (fun vs H Q E h => ?_) (fun cdv A outer s H vs Q E hr h => ?_)
  · obtain ⟨a, st, la, es, sn, ls, rfl, _⟩ := h
    rfl
  obtain ⟨a, st, la, es, sn, ls, rfl, hsh, hok, hl, hst, hsp, hls, hlo, hll, q1, q2⟩ := h
  have hr2 : Room 2 _ := hr.mono (by decide)
  refine ⟨_, (pss_cons (ps_set (i := 3) scBad.nd rfl (Or.inl rfl) (pe_make (E := E) M GI hr2 rfl T.mC bI .nil (passX fun _ _ _ _ z => z) (pa_cons (pv 0) (pa_cons (pv 1) pa_nil))))
    (pss_cons (ps_for (flies_own rfl rfl) rfl (pi_range1 rfl mR (pa_cons (pe_callB call_len_seq rfl mL PySem.boot_len (pa_cons (pv 2) pa_nil)) pa_nil)) (pg_name (i := 4) scBad.nd rfl (Or.inl rfl))
      (pss_one (ps_if (pt_not (pt_val (pe_call G hr rfl mG kG bG .nil pass0 (pa_cons (pv 3) (pa_cons (pv 2) (pa_cons (pv 4) pa_nil)))))) (pss_one (ps_ret (pv 4))) pss_nil)))
    (pss_one (ps_ret pe_non)))), ?_⟩
  refine ⟨_, rfl, _, rfl, fun x dx hx hdx ndx => ?_⟩
  have s2 : Same H (del (upd (upd H dx (.own x)) x (.ins C dx [])) [x]) := fun b o e => by
    have nb := ne_of_none e hx
    rw [del_out (by simpa using nb), upd_ne nb, upd_ne (ne_of_none e hdx)]
    exact e
  have s3 : Same H (upd (upd H dx (.own x)) x (.ins C dx [])) := s2.trans (same_del _ _)
  refine ⟨x, dx, a, st, es, rfl, upd_same, ShAt.same s3 hsh, hok, hl, fun hnd H1 sm hB => ⟨rfl, ?_⟩, fun hnd H' sm => q2 hnd H' (s2.trans sm)⟩
  have s4 : Same H H1 := s2.trans sm
  obtain ⟨q3, q4⟩ := q1 hnd
  obtain ⟨ys, hy, hyp⟩ := id hls
  have ly := Paired.length hyp
  refine ⟨_, rfl, la, _, rfl, .inl (SqL.of (s4 _ _ hy)), _, rfl, by omega, by omega, ?_⟩
  refine for_range (fun j σ H2 => ∃ o4, σ = [some (.ref a), some (.ref st), some (.ref la), some (.ref x), o4] ∧ Same H1 H2 ∧ ∀ i < j, goodB es sn ls i = true) ⟨none, rfl, Same.refl _, fun i hi => absurd hi (Nat.not_lt_zero _)⟩ ?_ ?_
  · rintro j σ H2 hj ⟨o4, rfl, s5, hin⟩
    have hjl : j < ls.length := by rw [Int.toNat_natCast, ly] at hj; exact hj
    have hlj : ls[j]? = some ls[j] := List.getElem?_eq_getElem hjl
    have ej : (0 + (j : Int)) = ((j : Nat) : Int) := by omega
    have s15 := s4.trans s5
    have eg : goodB es sn ls j = lineB es sn ls j ls[j] := by unfold goodB; rw [hlj]
    rw [ej]
    refine ⟨_, rfl, _, rfl, _, rfl, x, st, la, es, sn, ls, j, ls[j], rfl, hB.same s5, hl, hnd, hok, NdsAt.same s15 hst, hsp, LnsAt.same s15 hls, hlo, hlj, fun H3 s6 => ⟨_, rfl, ?_⟩⟩
    refine ite2 (fun c => ?_) (fun c => ?_)
    · refine ⟨_, rfl, q3 j H3 (s15.trans s6) hjl ?_ hin⟩
      rw [eg]
      simpa using c
    · refine ⟨_, rfl, s5.trans s6, fun i hi => ?_⟩
      rcases Nat.lt_succ_iff_lt_or_eq.mp hi with z | z
      · exact hin i z
      · subst z; rw [eg]; simpa using c
  · rintro σ H2 ⟨o4, rfl, s5, hin⟩
    rw [Int.toNat_natCast, ly] at hin
    refine q4 (fun i => ?_) H2 (s4.trans s5)
    by_cases z : i < ls.length
    · exact hin i z
    · unfold goodB
      rw [List.getElem?_eq_none (by omega)]
end
end FB
namespace FB
open PySem L2 PyProof.Rows
seal PSs PS PE PT PA
theorem kit_bb (K : PySem.W.Frag) : PySem.W.kitOne K (.type "bool") (.type "bool") = some true := by kernel_rfl
theorem nd_op : (["_law_one", "_law_picks"] : List Str).Nodup := by decide +kernel
abbrev nm5 : List Str := ["_law_script", "_law_shelf", "_law_start", "_law_lines", "_law_due", "_law_k", "_law_handed", "_law_found", "_law_picks", "_law_entry", "_law_odd", "_law_barred", "_law_line", "_law_rest", "_law_told"]
theorem sc5 : FnScope nm5 ["_law_script"] (defScope sLaw) := ⟨rfl, rfl, rfl, by decide +kernel, rfl, by decide +kernel, by decide +kernel⟩
def odd3 : List Pk := [("zinc", 0), ("ashenashenashen", 0), ("ashenashenashen", -1)]
theorem odd3_ok : ∀ k ∈ odd3, PartOk k.1 := fun k hk => by
  unfold odd3 at hk
  simp only [List.mem_cons, List.not_mem_nil, or_false] at hk
  rcases hk with rfl | rfl | rfl
  · exact partZ
  · exact partA
  · exact partA
def barsB (ls : List Ln) (ps : List Pk) : Bool := ls.any fun l => l.1.all fun p => decide (p ∈ ps)
def RestB (P : Program) (w : World) (K : PySem.W.Frag) (mg : Str → Option Value) (base : Heap) (f : Addr) (cdv : Value) (A : Around) (outer : List Env) (s : Shared) (H : Hp) (Q : VK) (E : XK) : Prop :=
  ∃ tR : TS, PSs (cxOf CX0 P w K mg base nm5 "law" (defScope sLaw) f cdv A outer s H E).nox ((defBody sLaw).drop 15) tR ∧
      ∀ (la hd pk : Addr) (ls : List Ln) (ps : List Pk) (H1 : Hp) (o0 o1 o2 o4 o5 o7 o9 o10 : Option V), LnsAt H1 la ls → LnsAt H1 hd ls → (∀ l ∈ ls, LnOk l) → PksAt H1 pk ps → (∀ k ∈ ps, PartOk k.1) → ps.length ≤ 1000 →
        tR { nx := fun _ H' => Q .non H', rt := Q } [o0, o1, o2, some (.ref la), o4, o5, some (.ref hd), o7, some (.ref pk), o9, o10, none, none, none, none] H1
section
variable {P : Program} {w : World} {K : PySem.W.Frag} {mg : Str → Option Value} {base : Heap} {f : Addr} {fd : FuncData} {cdv : Value} {A : Around} {outer : List Env} {s : Shared} {H : Hp} {Q : VK} {E : XK}
theorem law15 (T : Txt K mg) (gBr : Gd P w K mg base CX0 5 "bars" ["lines", "picks"] spBars) (hr : Room 5 (A.deeper (envOfC "law" (defScope sLaw) s.heap.objs.size f cdv))) (q : ∀ H', Q (.bl true) H') : RestB P w K mg base f cdv A outer s H Q E := by
  obtain ⟨br, brd, Br, bB, kB, mB⟩ := gBr.ex
  refine ⟨_, (pss_cons (ps_set (i := 11) sc5.nd rfl (Or.inl rfl) pe_bl)
    (pss_cons (ps_for PassesOwn.never rfl (pi_list (pv 3)) (pg_name (i := 12) sc5.nd rfl (Or.inl rfl))
      (pss_cons (ps_setC (i := 13) (N' := ["_law_one", "_law_picks"]) (n := 1) (js := [8]) rfl
          (CompS.one (c := s.heap.objs.size + 1) (y := "_law_picks") rfl rfl (by decide +kernel) rfl (by decide +kernel) (by decide +kernel) rfl rfl rfl rfl rfl) (gk_name (by decide)) sc5.nd rfl rfl
          (pi_list (pe_ix ix_tup (pv 12) pe_int (fun _ _ => rfl)))
          (fun C s2 H2 fp => pg_name (i := 0) nd_op rfl (Or.inl rfl))
          (fun C s2 H2 fp => pts_one (pt_cmpR (op_notInD hr.units) (pv 0) (pv 1) (by with_unfolding_all rfl)))
          (fun C s2 H2 fp => pv 0))
      (pss_one (ps_set (i := 11) sc5.nd rfl (Or.inl rfl) (pe_or (pv 11) (pe_one (pe_cmpR (op_eqD hr.units) (pv 13) (pe_lst pa_nil) (nomark _))))))))
    (pss_cons (ps_set (i := 14) sc5.nd rfl (Or.inl rfl) (pe_call Br hr rfl mB kB bB .nil pass0 (pa_cons (pv 6) (pa_cons (pe_callTy call_list_of rfl T.list boot_list (pa_cons (pv 8) pa_nil)) pa_nil))))
    (pss_one (ps_ret (pe_and (pe_callB call_isinst rfl T.isin boot_isinstance (pa_cons (pv 14) (pa_cons (pe_ty rfl T.bool boot_bool) pa_nil))) (pe_one (pe_cmpR op_eq (pv 14) (pv 11) (nomark _))))))))), ?_⟩
  intro la hd pk ls ps H1 o0 o1 o2 o4 o5 o7 o9 o10 hla hhd hlo hpk hpo hpl
  obtain ⟨xs, hx, hxp⟩ := id hla
  obtain ⟨zs, hz, hzp⟩ := id hpk
  have lx := Paired.length hxp
  have lz := Paired.length hzp
  refine ⟨_, rfl, la, rfl, ⟨_, SqL.of hx⟩, ?_⟩
  refine for_list (K := K) (a := la) (xs := xs) (fun i σ H2 => ∃ o12 o13, σ = [o0, o1, o2, some (.ref la), o4, o5, some (.ref hd), o7, some (.ref pk), o9, o10, some (.bl (barsB (ls.take i) ps)), o12, o13, none] ∧ Same H1 H2)
    ⟨none, none, rfl, Same.refl _⟩ (fun i σ H2 _ ⟨_, _, _, s2⟩ => SqL.of (s2 _ _ hx)) ?_ ?_
  · rintro i x σ H2 hi ⟨o12, o13, rfl, s2⟩
    obtain ⟨l, hli, hl⟩ := Paired.getR hxp hi
    have hlok := hlo l (List.mem_of_getElem? hli)
    obtain ⟨lq, pa, rv, rfl, h1, ⟨ys, h2, h3⟩, _⟩ := LnAt.same s2 hl
    have ly := Paired.length h3
    have et : barsB (ls.take (i + 1)) ps = (barsB (ls.take i) ps || l.1.all fun p => decide (p ∈ ps)) := by
      unfold barsB
      rw [List.take_succ, hli, List.any_append]
      simp
    refine ⟨_, rfl, lq, _, _, _, rfl, rfl, SqT.of h1, rfl, pa, rfl, ⟨_, SqL.of h2⟩, ?_⟩
    refine comp_list (xs := ys) (fun D j us H4 => Paired (PkAt H2) us ((l.1.take j).filter fun p => !decide (p ∈ ps)) ∧ H4 = upd H2 D (.lst us) ∧ H2 D = none) (fun D hD => ⟨by simpa using Paired.nil, rfl, hD⟩)
      (fun D j us H4 hj ⟨g1, g2, g3⟩ => ?_) (fun D j x us H4 hj ⟨g1, g2, g3⟩ => ?_) (fun D us H4 ⟨g1, g2, g3⟩ => ?_)
    · subst g2
      refine ⟨SqL.of (same_new g3 _ _ _ h2), upd_same, ?_⟩
      rw [Paired.length g1]
      exact Nat.lt_of_le_of_lt (Nat.le_trans (List.length_filter_le _ _) (Nat.le_trans (List.length_take_le' _ _) hlok.len)) (by rw [sizeLine_eq]; decide)
    · subst g2
      obtain ⟨k, hki, hk⟩ := Paired.getR h3 hj
      have ht : l.1.take (j + 1) = l.1.take j ++ [k] := by rw [List.take_succ, hki]; rfl
      have hkp := hlok.pk k (List.mem_of_getElem? hki)
      have sD := same_new g3 (.lst us)
      unfold gName
      refine ⟨_, rfl, _, rfl, pkD k, ps.map pkD, (PkAt.same sD hk).rep, (PksAt.same (s2.trans sD) hpk).rep, (pk_lay hkp).1, pks_lay hpo, (pk_lay hkp).2, _, rfl, ?_⟩
      rw [if_pos rfl, any_pk]
      refine ite2 (fun cc => ?_) (fun cc => ?_)
      · refine ⟨_, rfl, upd_same, ?_, by rw [upd_upd], g3⟩
        rw [ht, List.filter_append, List.filter_cons, if_pos cc]
        exact Paired.snoc g1 hk
      · refine ⟨?_, rfl, g3⟩
        rw [ht, List.filter_append, List.filter_cons, if_neg cc, List.filter_nil, List.append_nil]
        exact g1
    · subst g2
      rw [ly, List.take_length] at g1
      have sD := same_new g3 (.lst us)
      refine ⟨_, rfl, _, rfl, ?_⟩
      cases hb : barsB (ls.take i) ps with
      | true => exact iteT ⟨_, _, by rw [et, hb]; rfl, s2.trans sD⟩
      | false =>
        refine iteF ⟨_, rfl, (by show 0 ≤ sizeLine; decide), fun e he => ?_⟩
        have s4 := same_new he (.lst [])
        have hok : okD 2 (.list ((l.1.filter fun p => !decide (p ∈ ps)).map pkD)) = true := by
          rw [okD, List.all_eq_true]
          intro d hd
          obtain ⟨k, hk, rfl⟩ := List.mem_map.mp hd
          exact pk_ok (hlok.pk k (List.mem_filter.mp hk).1)
        refine ⟨.list ((l.1.filter fun p => !decide (p ∈ ps)).map pkD), .list [], PksAt.rep ⟨us, s4 _ _ upd_same, Paired.mapP g1 fun _ _ y => PkAt.same (sD.trans s4) y⟩, .lst upd_same .nil, okD_shaped hok (by decide), rfl, ?_⟩
        rw [eqv_nil]
        have ee : ((l.1.filter fun p => !decide (p ∈ ps)).map pkD).isEmpty = l.1.all fun p => decide (p ∈ ps) := by
          rw [Bool.eq_iff_iff, List.isEmpty_iff, List.map_eq_nil_iff, List.filter_eq_nil_iff, List.all_eq_true]
          simp
        rw [ee]
        exact ⟨_, _, by rw [et, hb, Bool.false_or]; rfl, (s2.trans sD).trans s4⟩
  · rintro σ H2 ⟨o12, o13, rfl, s2⟩
    rw [lx, List.take_length]
    refine ⟨_, rfl, _, rfl, pk, _, rfl, .inl (SqL.of (s2 _ _ hz)), fun c hc => ?_⟩
    have s3 := same_new hc (.lst zs)
    refine ⟨hd, c, ls, ps, rfl, LnsAt.same (s2.trans s3) hhd, ⟨zs, upd_same, Paired.mapP hzp fun _ _ y => PkAt.same (s2.trans s3) y⟩, by omega, fun H4 s4 => ?_⟩
    refine ⟨_, rfl, _, _, _, _, rfl, .bl _, kit_bb K, _, rfl, iteT ⟨_, rfl, _, rfl, rfl, ?_⟩⟩
    have e : decide (V.bl (ls.any fun l => l.1.all fun p => decide (p ∈ ps)) = V.bl (barsB ls ps)) = true := decide_eq_true rfl
    rw [e]
    exact q H4
def Rest11 (P : Program) (w : World) (K : PySem.W.Frag) (mg : Str → Option Value) (base : Heap) (f : Addr) (cdv : Value) (A : Around) (outer : List Env) (s : Shared) (H : Hp) (Q : VK) (E : XK) : Prop :=
  ∃ tR : TS, PSs (cxOf CX0 P w K mg base nm5 "law" (defScope sLaw) f cdv A outer s H E).nox ((defBody sLaw).drop 11) tR ∧
      ∀ (sc sh la hd : Addr) (es : List En) (ls : List Ln) (ms : List Int) (H1 : Hp) (o2 o4 o5 o7 : Option V), SqL K H1 sc (ms.map V.int) → ShAt H1 sh es → (∀ e ∈ es, EnOk e) → es.length ≤ 63 → LnsAt H1 la ls → LnsAt H1 hd ls → (∀ l ∈ ls, LnOk l) →
        tR { nx := fun _ H' => Q .non H', rt := Q } [some (.ref sc), some (.ref sh), o2, some (.ref la), o4, o5, some (.ref hd), o7, none, none, none, none, none, none, none] H1
theorem law11 (T : Txt K mg) (gAt : Gd P w K mg base CX0 5 "_law_at" ["_law_script", "_law_k"] (spAtF K)) (hr : Room 5 (A.deeper (envOfC "law" (defScope sLaw) s.heap.objs.size f cdv))) (r : RestB P w K mg base f cdv A outer s H Q E) : Rest11 P w K mg base f cdv A outer s H Q E := by
  obtain ⟨tR, hR, kR⟩ := r
  obtain ⟨ag, ad, At, bA, kA, mA⟩ := gAt.ex
  refine ⟨_, (pss_cons (ps_set (i := 8) sc5.nd rfl (Or.inr rfl) (pe_lst pa_nil))
    (pss_cons (ps_for PassesOwn.never rfl (pi_list (pe_slice sl_list (pv 1) po_none (po_some (pe_op op_mod (pe_call At hr rfl mA kA bA .nil pass0 (pa_cons (pv 0) (pa_cons pe_int pa_nil))) pe_int)))) (pg_name (i := 9) sc5.nd rfl (Or.inl rfl))
      (pss_one (ps_expr (pe_bm PySem.F.plainAttrs_list PySem.F.slot_list_append PySem.F.type_list_append mt_append (pv 8) (pa_cons (pe_tup (pa_cons (pe_ix ix_tup (pv 9) pe_int (fun _ _ => rfl)) (pa_cons (pe_ix ix_tup (pv 9) pe_int (fun _ _ => rfl)) pa_nil))) pa_nil)))))
    (pss_cons (ps_set (i := 10) sc5.nd rfl (Or.inl rfl) (pe_lst (pa_cons (pe_tup (pa_cons pe_str (pa_cons pe_int pa_nil))) (pa_cons (pe_tup (pa_cons pe_str (pa_cons pe_int pa_nil))) (pa_cons (pe_tup (pa_cons pe_str (pa_cons (pe_un un_neg pe_int) pa_nil))) pa_nil)))))
    (pss_cons (ps_set (i := 8) sc5.nd rfl (Or.inr rfl) (pe_op op_cat (pv 8) (pe_slice sl_list (pv 10) po_none (po_some (pe_op op_mod (pe_op op_fdiv (pe_call At hr rfl mA kA bA .nil pass0 (pa_cons (pv 0) (pa_cons pe_int pa_nil))) pe_int) pe_int))))) hR)))), ?_⟩
  intro sc sh la hd es ls ms H1 o2 o4 o5 o7 hsc hsh hok hel hla hhd hlo
  refine ⟨(by show 0 ≤ sizeLine; decide), fun p hp => ?_⟩
  have s0 := same_new hp (.lst [])
  obtain ⟨zs, hz, hzp⟩ := id hsh
  refine ⟨_, rfl, _, rfl, sc, ms, 1, rfl, s0.seq hsc, _, _, rfl, rfl, (by show (0 : Int) < 5; decide), _, rfl, sh, _, rfl, SqL.of (s0 _ _ hz), fun a ha => ?_⟩
  have s1 := same_new ha (.lst (cutV zs none (some (ms.getD 1 0 % 5))))
  have npa : p ≠ a := ne_of_none (H := upd H1 p (.lst [])) upd_same ha
  have hcp := cutG_pair hzp none (some (ms.getD 1 0 % 5))
  have hcl := cutG_len es none (some (ms.getD 1 0 % 5))
  have hce : ∀ e ∈ cutG es none (some (ms.getD 1 0 % 5)), EnOk e := fun e he => hok e (cutG_mem he)
  rw [cutV_G] at s1
  rw [cutV_G]
  generalize cutG zs none (some (ms.getD 1 0 % 5)) = cs at *
  generalize cutG es none (some (ms.getD 1 0 % 5)) = ds at *
  have lc := Paired.length hcp
  refine ⟨a, rfl, ⟨_, SqL.of upd_same⟩, ?_⟩
  refine for_list (K := K) (a := a) (xs := cs) (fun i σ H2 => ∃ ys o9, σ = [some (.ref sc), some (.ref sh), o2, some (.ref la), o4, o5, some (.ref hd), o7, some (.ref p), o9, none, none, none, none, none] ∧ Same H1 H2 ∧ H2 p = some (.lst ys) ∧ H2 a = some (.lst cs) ∧ Paired (PkAt (del H2 [p])) ys ((ds.take i).map keyOf))
    ⟨[], none, rfl, s0.trans s1, s1 _ _ upd_same, upd_same, .nil⟩ (fun i σ H2 _ ⟨_, _, _, _, _, h, _⟩ => SqL.of h) ?_ ?_
  · rintro i x σ H2 hi ⟨ys, o9, rfl, s2, h2p, h2a, hys⟩
    obtain ⟨e, hei, eq, ea, ezs, rfl, he1, _⟩ := Paired.getR hcp hi
    have ht : ds.take (i + 1) = ds.take i ++ [e] := by rw [List.take_succ, hei]; rfl
    have hS : SqT K H2 eq [.str e.1, .int e.2.1, .ref ea] := SqT.of (s2 _ _ he1)
    have ly := Paired.length hys
    rw [List.length_map, List.length_take] at ly
    refine ⟨_, rfl, .inl ⟨rfl, _, SqL.of h2p⟩, _, rfl, eq, _, _, _, rfl, rfl, hS, rfl, _, rfl, eq, _, _, _, rfl, rfl, hS, rfl, (by show 2 ≤ sizeLine; decide), fun t ht2 => ?_⟩
    have s3 := same_new ht2 (.tup [.str e.1, .int e.2.1])
    have ntp : t ≠ p := Ne.symm (ne_of_none h2p ht2)
    refine ⟨p, ys, _, rfl, rfl, s3 _ _ h2p, small1000 (by omega), ys ++ [.ref t], _, rfl, Same.upd (s2.trans s3) hp, upd_same, ?_, ?_⟩
    · rw [upd_ne (Ne.symm npa)]; exact s3 _ _ h2a
    · rw [ht, List.map_append, del_upd (by simp)]
      refine Paired.snoc (Paired.mapP hys fun _ _ y => PkAt.same (Same.del s3 _) y) ⟨t, rfl, ?_⟩
      rw [del_out (by simpa using ntp)]
      exact upd_same
  · rintro σ H2 ⟨ys, o9, rfl, s2, h2p, h2a, hys⟩
    rw [lc, List.take_length] at hys
    refine ⟨(by show 2 ≤ sizeLine; decide), fun t1 ht1 => ⟨(by show 2 ≤ sizeLine; decide), fun t2 ht2 => ⟨1, rfl, (by show 2 ≤ sizeLine; decide), fun t3 ht3 => ⟨(by show 3 ≤ sizeLine; decide), fun l3 hl3 => ?_⟩⟩⟩⟩
    have a1 := same_new ht1 (.tup [.str "zinc", .int 0])
    have a2 := same_new ht2 (.tup [.str "ashenashenashen", .int 0])
    have a3 := same_new ht3 (.tup [.str "ashenashenashen", .int (-1)])
    have a4 := same_new hl3 (.lst [.ref t1, .ref t2, .ref t3])
    have s3 := ((a1.trans a2).trans a3).trans a4
    have h1 := ((a2.trans a3).trans a4) _ _ (upd_same (H := H2) (a := t1) (o := .tup [.str "zinc", .int 0]))
    have h2 := (a3.trans a4) _ _ (upd_same (H := upd H2 t1 (.tup [.str "zinc", .int 0])) (a := t2) (o := .tup [.str "ashenashenashen", .int 0]))
    have h3 := a4 _ _ (upd_same (H := upd (upd H2 t1 (.tup [.str "zinc", .int 0])) t2 (.tup [.str "ashenashenashen", .int 0])) (a := t3) (o := .tup [.str "ashenashenashen", .int (-1)]))
    have h4 := upd_same (H := upd (upd (upd H2 t1 (.tup [.str "zinc", .int 0])) t2 (.tup [.str "ashenashenashen", .int 0])) t3 (.tup [.str "ashenashenashen", .int (-1)])) (a := l3) (o := .lst [.ref t1, .ref t2, .ref t3])
    generalize upd (upd (upd (upd H2 t1 (.tup [.str "zinc", .int 0])) t2 (.tup [.str "ashenashenashen", .int 0])) t3 (.tup [.str "ashenashenashen", .int (-1)])) l3 (.lst [.ref t1, .ref t2, .ref t3]) = H3 at *
    have hod : Paired (PkAt H3) [.ref t1, .ref t2, .ref t3] odd3 := .cons ⟨t1, rfl, h1⟩ (.cons ⟨t2, rfl, h2⟩ (.cons ⟨t3, rfl, h3⟩ .nil))
    have s23 := s2.trans s3
    refine ⟨_, rfl, _, rfl, _, rfl, sc, ms, 0, rfl, s23.seq hsc, _, _, rfl, rfl, ⟨by decide, by decide⟩, _, _, rfl, rfl, (by show (0 : Int) < 4; decide), _, rfl, l3, _, rfl, SqL.of h4, fun l5 hl5 => ?_⟩
    have hcp2 := cutG_pair hod none (some (ms.getD 0 0 / 4 % 4))
    have hco : ∀ k ∈ cutG odd3 none (some (ms.getD 0 0 / 4 % 4)), PartOk k.1 := fun k hk => odd3_ok k (cutG_mem hk)
    have hol : (cutG odd3 none (some (ms.getD 0 0 / 4 % 4))).length ≤ 3 := cutG_len odd3 none _
    rw [cutV_G]
    have s5 := same_new hl5 (.lst (cutG [V.ref t1, .ref t2, .ref t3] none (some (ms.getD 0 0 / 4 % 4))))
    generalize cutG [V.ref t1, .ref t2, .ref t3] none (some (ms.getD 0 0 / 4 % 4)) = us at *
    generalize cutG odd3 none (some (ms.getD 0 0 / 4 % 4)) = ks at *
    have ly := Paired.length hys
    rw [List.length_map] at ly
    have lu := Paired.length hcp2
    refine ⟨p, l5, ys, us, rfl, rfl, s5 _ _ (s3 _ _ h2p), upd_same, by rw [sizeLine_eq]; omega, fun p2 hp2 => ?_⟩
    have s6 := same_new hp2 (.lst (ys ++ us))
    have sA := (s3.trans s5).trans s6
    refine kR la hd p2 ls (ds.map keyOf ++ ks) _ _ _ _ _ _ _ _ _ (LnsAt.same (s2.trans sA) hla) (LnsAt.same (s2.trans sA) hhd) hlo ⟨ys ++ us, upd_same, paired_app (Paired.mapP hys fun _ _ y => PkAt.same ((same_del _ _).trans sA) y) (Paired.mapP hcp2 fun _ _ y => PkAt.same (s5.trans s6) y)⟩ (fun k hk => ?_) (by rw [List.length_append, List.length_map]; omega)
    rcases List.mem_append.mp hk with y | y
    · obtain ⟨e, he, rfl⟩ := List.mem_map.mp y
      exact (hce e he).pt
    · exact hco k y
end
end FB
namespace FB
open PySem L2 PyProof.Rows
seal PSs PS PE PT PA
def DueI (es : List En) (sn : List Nd) (ls : List Ln) (i : Nat) (v : V) : Prop :=
  (v = .non ∧ ∀ j < i, goodB es sn ls j = true) ∨ ∃ j : Nat, v = .int j ∧ j < i ∧ goodB es sn ls j = false ∧ ∀ j' < j, goodB es sn ls j' = true
def Agree (x y : V) : Prop := (x = .non ∧ y = .non) ∨ ∃ j : Nat, x = .int j ∧ y = .int j
theorem due_none {es : List En} {sn : List Nd} {ls : List Ln} {v : V} (h : DueI es sn ls ls.length v) (hg : ∀ i, goodB es sn ls i = true) : v = .non := by
  rcases h with ⟨h, _⟩ | ⟨j, _, _, hf, _⟩
  · exact h
  · rw [hg j] at hf; cases hf
theorem due_some {es : List En} {sn : List Nd} {ls : List Ln} {v : V} {i : Nat} (h : DueI es sn ls ls.length v) (hi : i < ls.length) (hg : goodB es sn ls i = false) (hb : ∀ j < i, goodB es sn ls j = true) : v = .int i := by
  rcases h with ⟨_, h⟩ | ⟨j, rfl, hj, hf, hj2⟩
  · rw [h i hi] at hg; cases hg
  · rcases Nat.lt_trichotomy i j with z | z | z
    · rw [hj2 i z] at hg; cases hg
    · rw [z]
    · rw [hb j z] at hf; cases hf
def Rest8 (P : Program) (w : World) (K : PySem.W.Frag) (mg : Str → Option Value) (base : Heap) (f : Addr) (cdv : Value) (A : Around) (outer : List Env) (s : Shared) (H : Hp) (Q : VK) (E : XK) : Prop :=
  ∃ tR : TS, PSs (cxOf CX0 P w K mg base nm5 "law" (defScope sLaw) f cdv A outer s H E).nox ((defBody sLaw).drop 8) tR ∧
      ∀ (sc sh la hd : Addr) (es : List En) (ls : List Ln) (ms : List Int) (dv fv : V) (H1 : Hp) (o2 o5 : Option V), SqL K H1 sc (ms.map V.int) → ShAt H1 sh es → (∀ e ∈ es, EnOk e) → es.length ≤ 63 → LnsAt H1 la ls → LnsAt H1 hd ls → (∀ l ∈ ls, LnOk l) → ls.length ≤ 63 → Agree dv fv →
        tR { nx := fun _ H' => Q .non H', rt := Q } [some (.ref sc), some (.ref sh), o2, some (.ref la), some dv, o5, some (.ref hd), some fv, none, none, none, none, none, none, none] H1
section
variable {P : Program} {w : World} {K : PySem.W.Frag} {mg : Str → Option Value} {base : Heap} {f : Addr} {fd : FuncData}
theorem law8 {cdv : Value} {A : Around} {outer : List Env} {s : Shared} {H : Hp} {Q : VK} {E : XK} (gSt : Gd P w K mg base CX0 5 "_law_stays_so" ["_law_handed", "_law_own"] spStays) (gWh : Gd P w K mg base CX0 5 "_law_whole" ["_law_found"] spWhole) (hr : Room 5 (A.deeper (envOfC "law" (defScope sLaw) s.heap.objs.size f cdv))) (r : Rest11 P w K mg base f cdv A outer s H Q E) : Rest8 P w K mg base f cdv A outer s H Q E := by
  obtain ⟨tR, hR, kR⟩ := r
  obtain ⟨tg, td, St, bT, kT, mT⟩ := gSt.ex
  obtain ⟨wg, wd, Wh, bW, kW, mW⟩ := gWh.ex
  refine ⟨_, (pss_cons (ps_if (pt_not (pt_val (pe_call St hr rfl mT kT bT .nil pass0 (pa_cons (pv 6) (pa_cons (pv 3) pa_nil))))) (pss_one (ps_ret pe_bl)) pss_nil)
    (pss_cons (ps_if (PW.pt (pw_and (pt_cmp (pc_isN (pv 4))) (pw_and1 (pt_cmp (pc_notN (pv 7)))))) (pss_one (ps_ret pe_bl)) pss_nil)
    (pss_cons (ps_if (PW.pt (pw_and (pt_cmp (pc_notN (pv 4))) (pw_and1 (PW.pt (pw_or (pt_not (pt_val (pe_call Wh hr rfl mW kW bW .nil pass0 (pa_cons (pv 7) pa_nil)))) (pw_or1 (pt_cmpR op_ne (pv 7) (pv 4) (nomark _)))))))) (pss_one (ps_ret pe_bl)) pss_nil) hR))), ?_⟩
  intro sc sh la hd es ls ms dv fv H1 o2 o5 hsc hsh hok hel hla hhd hlo hll hag
  refine ⟨_, rfl, _, rfl, .ref hd, .ref la, _, rfl, hhd.rep, hla.rep, lns_ok hlo, lns_wgt hlo hll, fun H2 s2 => ⟨_, rfl, iteF ?_⟩⟩
  rcases hag with ⟨rfl, rfl⟩ | ⟨j, rfl, rfl⟩
  · exact ⟨_, rfl, _, rfl, iteT ⟨_, rfl, _, rfl, iteF ⟨_, rfl, _, rfl, iteF (iteF (kR sc sh la hd es ls ms H2 _ _ _ _ (s2.seq hsc) (ShAt.same s2 hsh) hok hel (LnsAt.same s2 hla) (LnsAt.same s2 hhd) hlo))⟩⟩⟩
  · refine ⟨_, rfl, _, rfl, iteF (iteF ⟨_, rfl, _, rfl, iteT ⟨_, rfl, (j : Int), rfl, _, rfl, iteF ⟨_, rfl, _, rfl, rfl, _, rfl, ?_⟩⟩⟩)⟩
    have e : (!decide (V.int (j : Int) = V.int (j : Int))) = false := by rw [decide_eq_true rfl]; rfl
    rw [e]
    exact iteF (kR sc sh la hd es ls ms H2 _ _ _ _ (s2.seq hsc) (ShAt.same s2 hsh) hok hel (LnsAt.same s2 hla) (LnsAt.same s2 hhd) hlo)
theorem ok_law {CT : Addr} (F : Fun K "law" "law" sLaw f fd) (T : Txt K mg) (gAt : Gd P w K mg base CX0 5 "_law_at" ["_law_script", "_law_k"] (spAtF K)) (gMx : Gd P w K mg base CX0 5 "_law_mixed" ["_law_script"] (spMixed K)) (gAsk : Gd P w K mg base CX0 5 "_law_asked_by" ["_law_script"] (spAsked K))
    (gSm : Gd P w K mg base CX0 5 "_law_some_spoilt" ["_law_shelf", "_law_start", "_law_script"] (spSome K)) (gHo : Gd P w K mg base CX0 5 "_law_holds" ["_law_shelf", "_law_start", "_law_lines", "_law_spot"] spHolds) (gCp : Gd P w K mg base CX0 5 "_law_copy_of" ["_law_shelf"] spCopy)
    (gBad : Gd P w K mg base (CXE P w) 5 "first_bad" ["shelf", "start", "lines"] (spBad CT)) (gSt : Gd P w K mg base CX0 5 "_law_stays_so" ["_law_handed", "_law_own"] spStays) (gWh : Gd P w K mg base CX0 5 "_law_whole" ["_law_found"] spWhole) (gBr : Gd P w K mg base CX0 5 "bars" ["lines", "picks"] spBars) :
    FnOk P w K mg base CX0 6 f fd ["_law_script"] (spLaw K) := by
  refine F.ok sc5 (fun vs H Q E h => ?_) (fun cdv A outer s H vs Q E hr h => ?_)
  · obtain ⟨a, ns, rfl, _⟩ := h
    rfl
  obtain ⟨a, ns, rfl, hS, hl, q⟩ := h
  obtain ⟨tR, hR, kR⟩ := law8 (P := P) (w := w) (base := base) (f := f) (cdv := cdv) (A := A) (outer := outer) (s := s) (H := H) (Q := Q) (E := E) gSt gWh hr (law11 T gAt hr (law15 T gBr hr q))
  obtain ⟨xg, xd, Mx, bX, kX, mX⟩ := gMx.ex
  obtain ⟨kg, kd, Ask, bK, kK, mK⟩ := gAsk.ex
  obtain ⟨sg, sd, Sm, bS, kS, mS⟩ := gSm.ex
  obtain ⟨hg, hd0, Ho, bH, kH, mH⟩ := gHo.ex
  obtain ⟨cg, cd, Cp, bC, kC, mC⟩ := gCp.ex
  obtain ⟨bg, bd, Bad, bB, kB, mB⟩ := gBad.ex
  refine ⟨_, (pss_cons (ps_set (i := 0) sc5.nd rfl (Or.inl rfl) (pe_slice sl_list (pv 0) po_none (po_some pe_int)))
    (pss_cons (ps_set (i := 0) sc5.nd rfl (Or.inl rfl) (pe_call Mx hr rfl mX kX bX .nil pass0 (pa_cons (pv 0) pa_nil)))
    (pss_cons (ps_asg (pe_call Ask hr rfl mK kK bK .nil pass0 (pa_cons (pe_slice sl_list (pv 0) po_none (po_some pe_int)) pa_nil)) (pg_tup rfl (pgs_cons (pg_name (i := 1) sc5.nd rfl (Or.inl rfl)) (pgs_cons (pg_name (i := 2) sc5.nd rfl (Or.inl rfl)) pgs_nil))))
    (pss_cons (ps_set (i := 3) sc5.nd rfl (Or.inl rfl) (pe_call Sm hr rfl mS kS bS .nil pass0 (pa_cons (pv 1) (pa_cons (pv 2) (pa_cons (pv 0) pa_nil)))))
    (pss_cons (ps_set (i := 4) sc5.nd rfl (Or.inl rfl) pe_non)
    (pss_cons (ps_for PassesOwn.never rfl (pi_range1 rfl T.range (pa_cons (pe_callB call_len_seq rfl T.len PySem.boot_len (pa_cons (pv 3) pa_nil)) pa_nil)) (pg_name (i := 5) sc5.nd rfl (Or.inl rfl))
      (pss_one (ps_if (PW.pt (pw_and (pt_cmp (pc_isN (pv 4))) (pw_and1 (pt_not (pt_val (pe_call Ho hr rfl mH kH bH .nil pass0 (pa_cons (pv 1) (pa_cons (pv 2) (pa_cons (pv 3) (pa_cons (pv 5) pa_nil)))))))))) (pss_one (ps_set (i := 4) sc5.nd rfl (Or.inl rfl) (pv 5))) pss_nil)))
    (pss_cons (ps_set (i := 6) sc5.nd rfl (Or.inl rfl) (pe_call Sm hr rfl mS kS bS .nil pass0 (pa_cons (pv 1) (pa_cons (pv 2) (pa_cons (pv 0) pa_nil)))))
    (pss_cons (ps_set (i := 7) sc5.nd rfl (Or.inl rfl) (pe_call (E := fun _ _ _ => False) Bad hr rfl mB kB bB .nil pass0E (pa_cons (pe_call Cp hr rfl mC kC bC .nil pass0 (pa_cons (pv 1) pa_nil)) (pa_cons (pe_callTy call_list_of rfl T.list boot_list (pa_cons (pv 2) pa_nil)) (pa_cons (pv 6) pa_nil))))) hR)))))))), ?_⟩
  obtain ⟨m1, e1, l1⟩ := cut_ints ns none (some 500)
  refine ⟨_, rfl, 500, rfl, a, _, rfl, hS, fun p1 hp1 => ?_⟩
  rw [e1]
  refine ⟨_, rfl, p1, m1, rfl, SqL.of upd_same, by omega, fun p2 m2 H2 s2 h2 l2 => ?_⟩
  obtain ⟨m3, e3, l3⟩ := cut_ints m2 none (some 30)
  refine ⟨_, rfl, 30, rfl, p2, _, rfl, SqL.of h2, fun p3 hp3 => ?_⟩
  rw [e3]
  have s3 := same_new hp3 (.lst (m3.map V.int))
  refine ⟨p3, m3, rfl, SqL.of upd_same, by omega, fun t sh st es sn H4 s4 h4 hsh hnd hok hel _ hst hsp hsl => ?_⟩
  refine ⟨t, _, rfl, SqT.of h4, rfl, _, _, rfl, _, _, rfl, rfl, ?_⟩
  have B : BdOk es sn := ⟨by omega, hsl, hok, hsp, hnd⟩
  have h42 := s4 _ _ (s3 _ _ h2)
  have hm2 : m2.length ≤ 63 := by omega
  have hlo := some_ok B m2
  have hll : (someP es sn m2).length ≤ 63 := Nat.le_trans (some_len es sn m2) hm2
  refine ⟨_, rfl, _, rfl, _, rfl, sh, st, p2, es, sn, m2, rfl, hsh, hst, B, SqL.of h42, hm2, fun la H5 s5 hla => ?_⟩
  obtain ⟨xs, hx, hxp⟩ := id hla
  have lx := Paired.length hxp
  have eS := congrArg (fun z : List Ln => z) (rfl : someP es sn m2 = someP es sn m2)
  refine ⟨_, rfl, la, _, rfl, .inl (SqL.of hx), _, rfl, by omega, by omega, ?_⟩
  refine for_range (fun i σ H6 => ∃ dv o5, σ = [some (.ref p2), some (.ref sh), some (.ref st), some (.ref la), some dv, o5, none, none, none, none, none, none, none, none, none] ∧ Same H5 H6 ∧ DueI es sn (someP es sn m2) i dv)
    ⟨.non, none, rfl, Same.refl _, .inl ⟨rfl, fun j hj => absurd hj (Nat.not_lt_zero _)⟩⟩ ?_ ?_
  · rintro i σ H6 hi ⟨dv, o5, rfl, s6, hdu⟩
    have hil : i < (someP es sn m2).length := by rw [Int.toNat_natCast, lx] at hi; exact hi
    have ei : (0 + (i : Int)) = ((i : Nat) : Int) := by omega
    rw [ei]
    have hli : (someP es sn m2)[i]? = some (someP es sn m2)[i] := List.getElem?_eq_getElem hil
    have eg : goodB es sn (someP es sn m2) i = lineB es sn (someP es sn m2) i (someP es sn m2)[i] := by unfold goodB; rw [hli]
    have s56 := s5.trans s6
    rcases hdu with ⟨rfl, hall⟩ | ⟨j, rfl, hj, hf, hb⟩
    · refine ⟨_, rfl, _, rfl, iteT ⟨_, rfl, _, rfl, _, rfl, _, rfl, sh, st, la, es, sn, someP es sn m2, i, _, rfl, ShAt.same s56 hsh, by omega, hnd, hok, NdsAt.same s56 hst, hsp, LnsAt.same s6 hla, hlo, hli, fun H7 s7 => ⟨_, rfl, ?_⟩⟩⟩
      rw [← eg]
      cases hg : goodB es sn (someP es sn m2) i with
      | true =>
        refine iteF ⟨_, _, rfl, s6.trans s7, .inl ⟨rfl, fun j hj => ?_⟩⟩
        rcases Nat.lt_succ_iff_lt_or_eq.mp hj with z | z
        · exact hall j z
        · subst z; exact hg
      | false => exact iteT ⟨_, rfl, _, _, rfl, s6.trans s7, .inr ⟨i, rfl, Nat.lt_succ_self _, hg, hall⟩⟩
    · exact ⟨_, rfl, _, rfl, iteF (iteF ⟨_, _, rfl, s6, .inr ⟨j, rfl, Nat.lt_succ_of_lt hj, hf, hb⟩⟩)⟩
  · rintro σ H6 ⟨dv, o5, rfl, s6, hdu⟩
    rw [Int.toNat_natCast, lx] at hdu
    have s56 := s5.trans s6
    refine ⟨_, rfl, _, rfl, _, rfl, sh, st, p2, es, sn, m2, rfl, ShAt.same s56 hsh, NdsAt.same s56 hst, B, SqL.of (s56 _ _ h42), hm2, fun hd H7 s7 hhd => ?_⟩
    have s57 := s56.trans s7
    refine ⟨_, rfl, sh, es, rfl, ShAt.same s57 hsh, by omega, fun c H8 s8 hc => ?_⟩
    have s58 := s57.trans s8
    obtain ⟨zs, hz, hzp⟩ := NdsAt.same s58 hst
    refine ⟨_, rfl, st, zs, rfl, .inl (SqL.of hz), fun l9 hl9 => ?_⟩
    have s9 := same_new hl9 (.lst zs)
    have s59 := s58.trans s9
    have s69 := (s7.trans s8).trans s9
    have go : ∀ (fv : V) (HA : Hp), Same (upd H8 l9 (.lst zs)) HA → Agree dv fv → tR { nx := fun _ H' => Q .non H', rt := Q } [some (.ref p2), some (.ref sh), some (.ref st), some (.ref la), some dv, o5, some (.ref hd), some fv, none, none, none, none, none, none, none] HA := fun fv HA sA hag =>
      kR p2 sh la hd es (someP es sn m2) m2 dv fv HA _ _ (SqL.of ((s59.trans sA) _ _ h42)) (ShAt.same (s59.trans sA) hsh) hok (by omega) (LnsAt.same (s6.trans (s69.trans sA)) hla) (LnsAt.same ((s8.trans s9).trans sA) hhd) hlo hll hag
    refine ⟨_, rfl, c, l9, hd, es, sn, someP es sn m2, rfl, ShAt.same s9 hc, hok, by omega, ⟨zs, upd_same, Paired.mapP hzp fun _ _ y => NdAt.same s9 y⟩, hsp, LnsAt.same (s8.trans s9) hhd, hlo, by omega, fun _ => ⟨fun i HA sA hi hg hb => ?_, fun hall HA sA => ?_⟩, fun hno => absurd hnd hno⟩
    · exact go _ HA sA (.inr ⟨i, due_some hdu hi hg hb, rfl⟩)
    · exact go _ HA sA (.inl ⟨due_none hdu hall, rfl⟩)
end
end FB
def PySem.W.Fast.tw3147499622919591796 : Unit := ()
def PySem.W.Fast.tw14131441411429162192 : Unit := ()
def PySem.W.Fast.tw13314403386372741758 : Unit := ()
def PySem.W.Fast.tw630250132880421561 : Unit := ()
def PySem.W.Fast.tw10186533704736967231 : Unit := ()
def PySem.W.Fast.tw1978893623856324906 : Unit := ()
def PySem.W.Fast.tw15739096375555142092 : Unit := ()
def PySem.W.Fast.tw9501852099923456052 : Unit := ()
namespace FB
open PySem L2
theorem all_mk {l : PySem.W.OpenLaw} {w : World} {K : PySem.W.Frag} {h : Heap} {mg : Str → Option Value} {fa C CT f1 f2 f3 f4 f5 f6 f7 f8 f9 f10 f11 f12 f13 f14 f15 f16 f17 f18 f19 f20 f21 f22 f23 f24 f25 f26 f27 fm1 fm2 : Addr} (X : K.In h) (G : h.Ns mainGlobals mg) (hfa : mg "law" = some (.ref fa))
    {od1 an1 od2 an2 od3 an3 od4 an4 od5 an5 od6 an6 od7 an7 od8 an8 od9 an9 od10 an10 od11 an11 od12 an12 od13 an13 od14 an14 od15 an15 od16 an16 od17 an17 od18 an18 od19 an19 od20 an20 od21 an21 od22 an22 od23 an23 od24 an24 od25 an25 od26 an26 od27 an27 odm1 anm1 odm2 anm2 : Option Addr} {sl1 sl2 sl3 sl4 sl5 sl6 sl7 sl8 sl9 sl10 sl11 sl12 sl13 sl14 sl15 sl16 sl17 sl18 sl19 sl20 sl21 sl22 sl23 sl24 sl25 sl26 sl27 slm1 slm2 : Array (Option Value)} {oc1 kV1 dc1 pm1 cd1 ct1 oc2 kV2 dc2 pm2 cd2 ct2 oc3 kV3 dc3 pm3 cd3 ct3 oc4 kV4 dc4 pm4 cd4 ct4 oc5 kV5 dc5 pm5 cd5 ct5 oc6 kV6 dc6 pm6 cd6 ct6 oc7 kV7 dc7 pm7 cd7 ct7 oc8 kV8 dc8 pm8 cd8 ct8 oc9 kV9 dc9 pm9 cd9 ct9 oc10 kV10 dc10 pm10 cd10 ct10 oc11 kV11 dc11 pm11 cd11 ct11 oc12 kV12 dc12 pm12 cd12 ct12 oc13 kV13 dc13 pm13 cd13 ct13 oc14 kV14 dc14 pm14 cd14 ct14 oc15 kV15 dc15 pm15 cd15 ct15 oc16 kV16 dc16 pm16 cd16 ct16 oc17 kV17 dc17 pm17 cd17 ct17 oc18 kV18 dc18 pm18 cd18 ct18 oc19 kV19 dc19 pm19 cd19 ct19 oc20 kV20 dc20 pm20 cd20 ct20 oc21 kV21 dc21 pm21 cd21 ct21 oc22 kV22 dc22 pm22 cd22 ct22 oc23 kV23 dc23 pm23 cd23 ct23 oc24 kV24 dc24 pm24 cd24 ct24 oc25 kV25 dc25 pm25 cd25 ct25 oc26 kV26 dc26 pm26 cd26 ct26 oc27 kV27 dc27 pm27 cd27 ct27 ocm1 kVm1 dcm1 pmm1 cdm1 ctm1 ocm2 kVm2 dcm2 pmm2 cdm2 ctm2 : Value}
    (a1 : PySem.W.nsIn K mainGlobals "clashes" = some (some (.ref f1))) (l1 : K.lookup f1 = some ⟨oc1, od1, .func (PySem.W.fnOf "clashes" "clashes" (defArgs sClashes) (defBody sClashes) (defScope sClashes) .none kV1 dc1 pm1 an1 cd1 ct1), sl1⟩) (c1 : PySem.W.codeIn K cd1 "clashes" = true) (k1 : PySem.W.keepIn K (.ref f1) = true)
    (a2 : PySem.W.nsIn K mainGlobals "first_bad" = some (some (.ref f2))) (l2 : K.lookup f2 = some ⟨oc2, od2, .func (PySem.W.fnOf "first_bad" "first_bad" (defArgs sBad) (defBody sBad) (defScope sBad) .none kV2 dc2 pm2 an2 cd2 ct2), sl2⟩) (c2 : PySem.W.codeIn K cd2 "first_bad" = true) (k2 : PySem.W.keepIn K (.ref f2) = true)
    (a3 : PySem.W.nsIn K mainGlobals "bars" = some (some (.ref f3))) (l3 : K.lookup f3 = some ⟨oc3, od3, .func (PySem.W.fnOf "bars" "bars" (defArgs sBars) (defBody sBars) (defScope sBars) .none kV3 dc3 pm3 an3 cd3 ct3), sl3⟩) (c3 : PySem.W.codeIn K cd3 "bars" = true) (k3 : PySem.W.keepIn K (.ref f3) = true)
    (a4 : PySem.W.nsIn K mainGlobals "marked" = some (some (.ref f4))) (l4 : K.lookup f4 = some ⟨oc4, od4, .func (PySem.W.fnOf "marked" "marked" (defArgs sMarked) (defBody sMarked) (defScope sMarked) .none kV4 dc4 pm4 an4 cd4 ct4), sl4⟩) (c4 : PySem.W.codeIn K cd4 "marked" = true) (k4 : PySem.W.keepIn K (.ref f4) = true)
    (a5 : PySem.W.nsIn K mainGlobals "has_all" = some (some (.ref f5))) (l5 : K.lookup f5 = some ⟨oc5, od5, .func (PySem.W.fnOf "has_all" "has_all" (defArgs sHasAll) (defBody sHasAll) (defScope sHasAll) .none kV5 dc5 pm5 an5 cd5 ct5), sl5⟩) (c5 : PySem.W.codeIn K cd5 "has_all" = true) (k5 : PySem.W.keepIn K (.ref f5) = true)
    (a6 : PySem.W.nsIn K mainGlobals "follows" = some (some (.ref f6))) (l6 : K.lookup f6 = some ⟨oc6, od6, .func (PySem.W.fnOf "follows" "follows" (defArgs sFollows) (defBody sFollows) (defScope sFollows) .none kV6 dc6 pm6 an6 cd6 ct6), sl6⟩) (c6 : PySem.W.codeIn K cd6 "follows" = true) (k6 : PySem.W.keepIn K (.ref f6) = true)
    (a7 : PySem.W.nsIn K mainGlobals "need_told" = some (some (.ref f7))) (l7 : K.lookup f7 = some ⟨oc7, od7, .func (PySem.W.fnOf "need_told" "need_told" (defArgs sTold) (defBody sTold) (defScope sTold) .none kV7 dc7 pm7 an7 cd7 ct7), sl7⟩) (c7 : PySem.W.codeIn K cd7 "need_told" = true) (k7 : PySem.W.keepIn K (.ref f7) = true)
    (a8 : PySem.W.nsIn K mainGlobals "leaves_no_version" = some (some (.ref f8))) (l8 : K.lookup f8 = some ⟨oc8, od8, .func (PySem.W.fnOf "leaves_no_version" "leaves_no_version" (defArgs sLeaves) (defBody sLeaves) (defScope sLeaves) .none kV8 dc8 pm8 an8 cd8 ct8), sl8⟩) (c8 : PySem.W.codeIn K cd8 "leaves_no_version" = true) (k8 : PySem.W.keepIn K (.ref f8) = true)
    (a9 : PySem.W.nsIn K mainGlobals "_law_whole" = some (some (.ref f9))) (l9 : K.lookup f9 = some ⟨oc9, od9, .func (PySem.W.fnOf "_law_whole" "_law_whole" (defArgs sWhole) (defBody sWhole) (defScope sWhole) .none kV9 dc9 pm9 an9 cd9 ct9), sl9⟩) (c9 : PySem.W.codeIn K cd9 "_law_whole" = true) (k9 : PySem.W.keepIn K (.ref f9) = true)
    (a10 : PySem.W.nsIn K mainGlobals "_law_at" = some (some (.ref f10))) (l10 : K.lookup f10 = some ⟨oc10, od10, .func (PySem.W.fnOf "_law_at" "_law_at" (defArgs sAt) (defBody sAt) (defScope sAt) .none kV10 dc10 pm10 an10 cd10 ct10), sl10⟩) (c10 : PySem.W.codeIn K cd10 "_law_at" = true) (k10 : PySem.W.keepIn K (.ref f10) = true)
    (a11 : PySem.W.nsIn K mainGlobals "_law_version_by" = some (some (.ref f11))) (l11 : K.lookup f11 = some ⟨oc11, od11, .func (PySem.W.fnOf "_law_version_by" "_law_version_by" (defArgs sVer) (defBody sVer) (defScope sVer) .none kV11 dc11 pm11 an11 cd11 ct11), sl11⟩) (c11 : PySem.W.codeIn K cd11 "_law_version_by" = true) (k11 : PySem.W.keepIn K (.ref f11) = true)
    (a12 : PySem.W.nsIn K mainGlobals "_law_need_by" = some (some (.ref f12))) (l12 : K.lookup f12 = some ⟨oc12, od12, .func (PySem.W.fnOf "_law_need_by" "_law_need_by" (defArgs sNeed) (defBody sNeed) (defScope sNeed) .none kV12 dc12 pm12 an12 cd12 ct12), sl12⟩) (c12 : PySem.W.codeIn K cd12 "_law_need_by" = true) (k12 : PySem.W.keepIn K (.ref f12) = true)
    (a13 : PySem.W.nsIn K mainGlobals "_law_shelf_by" = some (some (.ref f13))) (l13 : K.lookup f13 = some ⟨oc13, od13, .func (PySem.W.fnOf "_law_shelf_by" "_law_shelf_by" (defArgs sShelf) (defBody sShelf) (defScope sShelf) .none kV13 dc13 pm13 an13 cd13 ct13), sl13⟩) (c13 : PySem.W.codeIn K cd13 "_law_shelf_by" = true) (k13 : PySem.W.keepIn K (.ref f13) = true)
    (a14 : PySem.W.nsIn K mainGlobals "_law_start_by" = some (some (.ref f14))) (l14 : K.lookup f14 = some ⟨oc14, od14, .func (PySem.W.fnOf "_law_start_by" "_law_start_by" (defArgs sStartBy) (defBody sStartBy) (defScope sStartBy) .none kV14 dc14 pm14 an14 cd14 ct14), sl14⟩) (c14 : PySem.W.codeIn K cd14 "_law_start_by" = true) (k14 : PySem.W.keepIn K (.ref f14) = true)
    (a15 : PySem.W.nsIn K mainGlobals "_law_copy_of" = some (some (.ref f15))) (l15 : K.lookup f15 = some ⟨oc15, od15, .func (PySem.W.fnOf "_law_copy_of" "_law_copy_of" (defArgs sCopy) (defBody sCopy) (defScope sCopy) .none kV15 dc15 pm15 an15 cd15 ct15), sl15⟩) (c15 : PySem.W.codeIn K cd15 "_law_copy_of" = true) (k15 : PySem.W.keepIn K (.ref f15) = true)
    (a16 : PySem.W.nsIn K mainGlobals "_law_needs_in" = some (some (.ref f16))) (l16 : K.lookup f16 = some ⟨oc16, od16, .func (PySem.W.fnOf "_law_needs_in" "_law_needs_in" (defArgs sNeedsIn) (defBody sNeedsIn) (defScope sNeedsIn) .none kV16 dc16 pm16 an16 cd16 ct16), sl16⟩) (c16 : PySem.W.codeIn K cd16 "_law_needs_in" = true) (k16 : PySem.W.keepIn K (.ref f16) = true)
    (a17 : PySem.W.nsIn K mainGlobals "_law_meets" = some (some (.ref f17))) (l17 : K.lookup f17 = some ⟨oc17, od17, .func (PySem.W.fnOf "_law_meets" "_law_meets" (defArgs sLMeets) (defBody sLMeets) (defScope sLMeets) .none kV17 dc17 pm17 an17 cd17 ct17), sl17⟩) (c17 : PySem.W.codeIn K cd17 "_law_meets" = true) (k17 : PySem.W.keepIn K (.ref f17) = true)
    (a18 : PySem.W.nsIn K mainGlobals "_law_newest" = some (some (.ref f18))) (l18 : K.lookup f18 = some ⟨oc18, od18, .func (PySem.W.fnOf "_law_newest" "_law_newest" (defArgs sNewest) (defBody sNewest) (defScope sNewest) .none kV18 dc18 pm18 an18 cd18 ct18), sl18⟩) (c18 : PySem.W.codeIn K cd18 "_law_newest" = true) (k18 : PySem.W.keepIn K (.ref f18) = true)
    (a19 : PySem.W.nsIn K mainGlobals "_law_holds" = some (some (.ref f19))) (l19 : K.lookup f19 = some ⟨oc19, od19, .func (PySem.W.fnOf "_law_holds" "_law_holds" (defArgs sHolds) (defBody sHolds) (defScope sHolds) .none kV19 dc19 pm19 an19 cd19 ct19), sl19⟩) (c19 : PySem.W.codeIn K cd19 "_law_holds" = true) (k19 : PySem.W.keepIn K (.ref f19) = true)
    (a20 : PySem.W.nsIn K mainGlobals "_law_asked_by" = some (some (.ref f20))) (l20 : K.lookup f20 = some ⟨oc20, od20, .func (PySem.W.fnOf "_law_asked_by" "_law_asked_by" (defArgs sAsked) (defBody sAsked) (defScope sAsked) .none kV20 dc20 pm20 an20 cd20 ct20), sl20⟩) (c20 : PySem.W.codeIn K cd20 "_law_asked_by" = true) (k20 : PySem.W.keepIn K (.ref f20) = true)
    (a21 : PySem.W.nsIn K mainGlobals "_law_line_by" = some (some (.ref f21))) (l21 : K.lookup f21 = some ⟨oc21, od21, .func (PySem.W.fnOf "_law_line_by" "_law_line_by" (defArgs sLineBy) (defBody sLineBy) (defScope sLineBy) .none kV21 dc21 pm21 an21 cd21 ct21), sl21⟩) (c21 : PySem.W.codeIn K cd21 "_law_line_by" = true) (k21 : PySem.W.keepIn K (.ref f21) = true)
    (a22 : PySem.W.nsIn K mainGlobals "_law_lines_by" = some (some (.ref f22))) (l22 : K.lookup f22 = some ⟨oc22, od22, .func (PySem.W.fnOf "_law_lines_by" "_law_lines_by" (defArgs sLinesBy) (defBody sLinesBy) (defScope sLinesBy) .none kV22 dc22 pm22 an22 cd22 ct22), sl22⟩) (c22 : PySem.W.codeIn K cd22 "_law_lines_by" = true) (k22 : PySem.W.keepIn K (.ref f22) = true)
    (a23 : PySem.W.nsIn K mainGlobals "_law_stays_so" = some (some (.ref f23))) (l23 : K.lookup f23 = some ⟨oc23, od23, .func (PySem.W.fnOf "_law_stays_so" "_law_stays_so" (defArgs sStays) (defBody sStays) (defScope sStays) .none kV23 dc23 pm23 an23 cd23 ct23), sl23⟩) (c23 : PySem.W.codeIn K cd23 "_law_stays_so" = true) (k23 : PySem.W.keepIn K (.ref f23) = true)
    (a24 : PySem.W.nsIn K mainGlobals "_law_spoilt" = some (some (.ref f24))) (l24 : K.lookup f24 = some ⟨oc24, od24, .func (PySem.W.fnOf "_law_spoilt" "_law_spoilt" (defArgs sSpoilt) (defBody sSpoilt) (defScope sSpoilt) .none kV24 dc24 pm24 an24 cd24 ct24), sl24⟩) (c24 : PySem.W.codeIn K cd24 "_law_spoilt" = true) (k24 : PySem.W.keepIn K (.ref f24) = true)
    (a25 : PySem.W.nsIn K mainGlobals "_law_some_spoilt" = some (some (.ref f25))) (l25 : K.lookup f25 = some ⟨oc25, od25, .func (PySem.W.fnOf "_law_some_spoilt" "_law_some_spoilt" (defArgs sSome) (defBody sSome) (defScope sSome) .none kV25 dc25 pm25 an25 cd25 ct25), sl25⟩) (c25 : PySem.W.codeIn K cd25 "_law_some_spoilt" = true) (k25 : PySem.W.keepIn K (.ref f25) = true)
    (a26 : PySem.W.nsIn K mainGlobals "_law_mixed" = some (some (.ref f26))) (l26 : K.lookup f26 = some ⟨oc26, od26, .func (PySem.W.fnOf "_law_mixed" "_law_mixed" (defArgs sMixed) (defBody sMixed) (defScope sMixed) .none kV26 dc26 pm26 an26 cd26 ct26), sl26⟩) (c26 : PySem.W.codeIn K cd26 "_law_mixed" = true) (k26 : PySem.W.keepIn K (.ref f26) = true)
    (a27 : PySem.W.nsIn K mainGlobals "law" = some (some (.ref f27))) (l27 : K.lookup f27 = some ⟨oc27, od27, .func (PySem.W.fnOf "law" "law" (defArgs sLaw) (defBody sLaw) (defScope sLaw) .none kV27 dc27 pm27 an27 cd27 ct27), sl27⟩) (c27 : PySem.W.codeIn K cd27 "law" = true) (k27 : PySem.W.keepIn K (.ref f27) = true)
    (am1 : PySem.W.findIn K (.ref C) "__init__" = some (some (.ref fm1))) (im1 : PySem.W.isFn K (.ref fm1) = true) (lm1 : K.lookup fm1 = some ⟨ocm1, odm1, .func (PySem.W.fnOf "__init__" "Board.__init__" (defArgs sInit) (defBody sInit) (defScope sInit) .none kVm1 dcm1 pmm1 anm1 cdm1 ctm1), slm1⟩) (cm1 : PySem.W.codeIn K cdm1 "Board.__init__" = true) (km1 : PySem.W.keepIn K (.ref fm1) = true)
    (am2 : PySem.W.findIn K (.ref C) "meeting" = some (some (.ref fm2))) (im2 : PySem.W.isFn K (.ref fm2) = true) (lm2 : K.lookup fm2 = some ⟨ocm2, odm2, .func (PySem.W.fnOf "meeting" "Board.meeting" (defArgs sMeeting) (defBody sMeeting) (defScope sMeeting) .none kVm2 dcm2 pmm2 anm2 cdm2 ctm2), slm2⟩) (cm2 : PySem.W.codeIn K cdm2 "Board.meeting" = true) (km2 : PySem.W.keepIn K (.ref fm2) = true)
    (aC : PySem.W.nsIn K mainGlobals "Board" = some (some (.ref C))) (pgC : PySem.W.plainGet K C Str.empty = true) (hdC : PySem.W.hasDictIn K C = true) (poC : PySem.W.plainOver K C = true) (saC : PySem.W.findIn K (.ref C) "__setattr__" = some (some (.builtin "object.__setattr__"))) (mkC : PySem.W.makesIn K C = true) (kcC : PySem.W.keepIn K (.ref C) = true) (nCneeds : PySem.W.findIn K (.ref C) "needs" = some none) (nCversions : PySem.W.findIn K (.ref C) "versions" = some none)
    (aCT : PySem.W.nsIn K mainGlobals "TwiceThere" = some (some (.ref CT))) (xCT : PySem.W.excIn K CT [.type "ValueError", .type "Exception", .type "BaseException", .type "object"] "ValueError.__new__" = true)
    (z1 : PySem.W.nsIn K mainGlobals "len" = some none) (z2 : PySem.W.nsIn K mainGlobals "range" = some none) (z3 : PySem.W.nsIn K mainGlobals "list" = some none) (z4 : PySem.W.nsIn K mainGlobals "tuple" = some none) (z5 : PySem.W.nsIn K mainGlobals "str" = some none) (z6 : PySem.W.nsIn K mainGlobals "int" = some none) (z7 : PySem.W.nsIn K mainGlobals "bool" = some none) (z8 : PySem.W.nsIn K mainGlobals "isinstance" = some none) (z9 : PySem.W.nsIn K mainGlobals "sorted" = some none) (z10 : PySem.W.nsIn K mainGlobals "reversed" = some none) (z11 : PySem.W.nsIn K mainGlobals "zip" = some none) (z12 : PySem.W.nsIn K mainGlobals "max" = some none) :
    ∃ fd : FuncData, (∀ (s : Shared) (v : Value), BindsTo s fd ⟨[v], []⟩ [("_law_script", v)]) ∧ ∀ base : Heap, K.In base → base.Ns mainGlobals mg → FnOk l.prog w K mg base CX0 6 fa fd ["_law_script"] (spLaw K) := by
  have e := hfa.symm.trans (PySem.W.mg_of X G a27)
  cases e
  have T : Txt K mg := ⟨(PySem.W.mg_none_of X G z1), (PySem.W.mg_none_of X G z2), (PySem.W.mg_none_of X G z3), (PySem.W.mg_none_of X G z4), (PySem.W.mg_none_of X G z5), (PySem.W.mg_none_of X G z6), (PySem.W.mg_none_of X G z7), (PySem.W.mg_none_of X G z8), (PySem.W.mg_none_of X G z9), (PySem.W.mg_none_of X G z10)⟩
  have F1 := fun_mk (st := sClashes) l1 c1 k1
  have b1 := F1.binds (ps := ["need", "pick"]) fun _ _ _ _ _ _ us hl => match us, hl with | [_, _], _ => rfl
  have m1 := PySem.W.mg_of X G a1
  have F2 := fun_mk (st := sBad) l2 c2 k2
  have b2 := F2.binds (ps := ["shelf", "start", "lines"]) fun _ _ _ _ _ _ us hl => match us, hl with | [_, _, _], _ => rfl
  have m2 := PySem.W.mg_of X G a2
  have F3 := fun_mk (st := sBars) l3 c3 k3
  have b3 := F3.binds (ps := ["lines", "picks"]) fun _ _ _ _ _ _ us hl => match us, hl with | [_, _], _ => rfl
  have m3 := PySem.W.mg_of X G a3
  have F4 := fun_mk (st := sMarked) l4 c4 k4
  have b4 := F4.binds (ps := ["picks"]) fun _ _ _ _ _ _ us hl => match us, hl with | [_], _ => rfl
  have m4 := PySem.W.mg_of X G a4
  have F5 := fun_mk (st := sHasAll) l5 c5 k5
  have b5 := F5.binds (ps := ["among", "picks"]) fun _ _ _ _ _ _ us hl => match us, hl with | [_, _], _ => rfl
  have m5 := PySem.W.mg_of X G a5
  have F6 := fun_mk (st := sFollows) l6 c6 k6
  have b6 := F6.binds (ps := ["board", "lines", "place"]) fun _ _ _ _ _ _ us hl => match us, hl with | [_, _, _], _ => rfl
  have m6 := PySem.W.mg_of X G a6
  have F7 := fun_mk (st := sTold) l7 c7 k7
  have b7 := F7.binds (ps := ["board", "among", "reason"]) fun _ _ _ _ _ _ us hl => match us, hl with | [_, _, _], _ => rfl
  have m7 := PySem.W.mg_of X G a7
  have F8 := fun_mk (st := sLeaves) l8 c8 k8
  have b8 := F8.binds (ps := ["board", "among", "need", "below", "lines", "place"]) fun _ _ _ _ _ _ us hl => match us, hl with | [_, _, _, _, _, _], _ => rfl
  have m8 := PySem.W.mg_of X G a8
  have F9 := fun_mk (st := sWhole) l9 c9 k9
  have b9 := F9.binds (ps := ["_law_found"]) fun _ _ _ _ _ _ us hl => match us, hl with | [_], _ => rfl
  have m9 := PySem.W.mg_of X G a9
  have F10 := fun_mk (st := sAt) l10 c10 k10
  have b10 := F10.binds (ps := ["_law_script", "_law_k"]) fun _ _ _ _ _ _ us hl => match us, hl with | [_, _], _ => rfl
  have m10 := PySem.W.mg_of X G a10
  have F11 := fun_mk (st := sVer) l11 c11 k11
  have b11 := F11.binds (ps := ["_law_cell"]) fun _ _ _ _ _ _ us hl => match us, hl with | [_], _ => rfl
  have m11 := PySem.W.mg_of X G a11
  have F12 := fun_mk (st := sNeed) l12 c12 k12
  have b12 := F12.binds (ps := ["_law_cell"]) fun _ _ _ _ _ _ us hl => match us, hl with | [_], _ => rfl
  have m12 := PySem.W.mg_of X G a12
  have F13 := fun_mk (st := sShelf) l13 c13 k13
  have b13 := F13.binds (ps := ["_law_cells"]) fun _ _ _ _ _ _ us hl => match us, hl with | [_], _ => rfl
  have m13 := PySem.W.mg_of X G a13
  have F14 := fun_mk (st := sStartBy) l14 c14 k14
  have b14 := F14.binds (ps := ["_law_cells"]) fun _ _ _ _ _ _ us hl => match us, hl with | [_], _ => rfl
  have m14 := PySem.W.mg_of X G a14
  have F15 := fun_mk (st := sCopy) l15 c15 k15
  have b15 := F15.binds (ps := ["_law_shelf"]) fun _ _ _ _ _ _ us hl => match us, hl with | [_], _ => rfl
  have m15 := PySem.W.mg_of X G a15
  have F16 := fun_mk (st := sNeedsIn) l16 c16 k16
  have b16 := F16.binds (ps := ["_law_shelf", "_law_pick"]) fun _ _ _ _ _ _ us hl => match us, hl with | [_, _], _ => rfl
  have m16 := PySem.W.mg_of X G a16
  have F17 := fun_mk (st := sLMeets) l17 c17 k17
  have b17 := F17.binds (ps := ["_law_need", "_law_version"]) fun _ _ _ _ _ _ us hl => match us, hl with | [_, _], _ => rfl
  have m17 := PySem.W.mg_of X G a17
  have F18 := fun_mk (st := sNewest) l18 c18 k18
  have b18 := F18.binds (ps := ["_law_shelf", "_law_need"]) fun _ _ _ _ _ _ us hl => match us, hl with | [_, _], _ => rfl
  have m18 := PySem.W.mg_of X G a18
  have F19 := fun_mk (st := sHolds) l19 c19 k19
  have b19 := F19.binds (ps := ["_law_shelf", "_law_start", "_law_lines", "_law_spot"]) fun _ _ _ _ _ _ us hl => match us, hl with | [_, _, _, _], _ => rfl
  have m19 := PySem.W.mg_of X G a19
  have F20 := fun_mk (st := sAsked) l20 c20 k20
  have b20 := F20.binds (ps := ["_law_script"]) fun _ _ _ _ _ _ us hl => match us, hl with | [_], _ => rfl
  have m20 := PySem.W.mg_of X G a20
  have F21 := fun_mk (st := sLineBy) l21 c21 k21
  have b21 := F21.binds (ps := ["_law_shelf", "_law_start", "_law_lines", "_law_cell"]) fun _ _ _ _ _ _ us hl => match us, hl with | [_, _, _, _], _ => rfl
  have m21 := PySem.W.mg_of X G a21
  have F22 := fun_mk (st := sLinesBy) l22 c22 k22
  have b22 := F22.binds (ps := ["_law_shelf", "_law_start", "_law_cells"]) fun _ _ _ _ _ _ us hl => match us, hl with | [_, _, _], _ => rfl
  have m22 := PySem.W.mg_of X G a22
  have F23 := fun_mk (st := sStays) l23 c23 k23
  have b23 := F23.binds (ps := ["_law_handed", "_law_own"]) fun _ _ _ _ _ _ us hl => match us, hl with | [_, _], _ => rfl
  have m23 := PySem.W.mg_of X G a23
  have F24 := fun_mk (st := sSpoilt) l24 c24 k24
  have b24 := F24.binds (ps := ["_law_line", "_law_seed", "_law_many"]) fun _ _ _ _ _ _ us hl => match us, hl with | [_, _, _], _ => rfl
  have m24 := PySem.W.mg_of X G a24
  have F25 := fun_mk (st := sSome) l25 c25 k25
  have b25 := F25.binds (ps := ["_law_shelf", "_law_start", "_law_script"]) fun _ _ _ _ _ _ us hl => match us, hl with | [_, _, _], _ => rfl
  have m25 := PySem.W.mg_of X G a25
  have F26 := fun_mk (st := sMixed) l26 c26 k26
  have b26 := F26.binds (ps := ["_law_script"]) fun _ _ _ _ _ _ us hl => match us, hl with | [_], _ => rfl
  have m26 := PySem.W.mg_of X G a26
  have F27 := fun_mk (st := sLaw) l27 c27 k27
  have Fm1 := fun_mk (st := sInit) lm1 cm1 km1
  have bm1 := Fm1.binds (ps := ["self", "shelf", "start"]) fun _ _ _ _ _ _ us hl => match us, hl with | [_, _, _], _ => rfl
  have mm1 : Meth K C "__init__" fm1 := ⟨am1, im1, km1⟩
  have Fm2 := fun_mk (st := sMeeting) lm2 cm2 km2
  have bm2 := Fm2.binds (ps := ["self", "need"]) fun _ _ _ _ _ _ us hl => match us, hl with | [_, _], _ => rfl
  have mm2 : Meth K C "meeting" fm2 := ⟨am2, im2, km2⟩
  refine ⟨PySem.W.fnOf "law" "law" (defArgs sLaw) (defBody sLaw) (defScope sLaw) .none kV27 dc27 pm27 an27 cd27 ct27, fun s v => .of_eq rfl, fun base _ _ => ?_⟩
  have TBd : TB K mg C := ⟨⟨pgC, hdC, poC, saC⟩, nCneeds, nCversions, PySem.W.mg_of X G aC, (PySem.W.mg_none_of X G z3), (PySem.W.mg_none_of X G z9)⟩
  have V := ok_ver (P := l.prog) (w := w) (mg := mg) (base := base) F11
  have N := ok_need F12 V b11 k11 m11
  have M := ok_lmeets (P := l.prog) (w := w) (mg := mg) (base := base) F17
  have CL := ok_clashes (P := l.prog) (w := w) (mg := mg) (base := base) F1
  have BI := ok_init (P := l.prog) (w := w) (base := base) Fm1 TBd (PySem.W.mg_of X G aCT) xCT
  have BM := ok_meeting (P := l.prog) (w := w) (base := base) Fm2 TBd CL b1 k1 m1
  have MK := ok_marked (P := l.prog) (w := w) (mg := mg) (base := base) F4
  have HA := ok_hasAll (P := l.prog) (w := w) (mg := mg) (base := base) F5
  have TD := ok_told (P := l.prog) (w := w) (base := base) F7 TBd (PySem.W.mg_none_of X G z1)
  have LV := ok_leaves (P := l.prog) (w := w) (base := base) F8 TBd (PySem.W.mg_none_of X G z1) (PySem.W.mg_none_of X G z11) BM bm2 mm2 HA b5 k5 m5
  have FO := ok_follows F6 MK b4 k4 m4 TD b7 k7 m7 CL b1 k1 m1 LV b8 k8 m8
  have SB := ok_startBy F14 N b12 k12 m12
  have NI := ok_needsIn (P := l.prog) (w := w) (mg := mg) (base := base) F16
  have AT := ok_at (P := l.prog) (w := w) (base := base) F10 T
  have AF := ok_atF (P := l.prog) (w := w) (base := base) F10 T
  have SH := ok_shelf F13 T V b11 k11 m11 N b12 k12 m12
  have NW := ok_newest F18 T M b17 k17 m17
  have HO := ok_holds F19 T NI b16 k16 m16 M b17 k17 m17 NW b18 k18 m18
  have LB1 := ok_lineBy F21 T (PySem.W.mg_none_of X G z12) NI b16 k16 m16 NW b18 k18 m18
  have LS := ok_linesBy F22 T LB1 b21 k21 m21 HO b19 k19 m19
  have SPO := ok_spoilt (P := l.prog) (w := w) (base := base) F24 T
  have g10 : Gd l.prog w K mg base CX0 5 "_law_at" ["_law_script", "_law_k"] (spAtF K) := ⟨_, _, (AF).mono (by decide), b10, k10, m10⟩
  have g26 : Gd l.prog w K mg base CX0 5 "_law_mixed" ["_law_script"] (spMixed K) := ⟨_, _, (ok_mixed F26 T).mono (by decide), b26, k26, m26⟩
  have g20 : Gd l.prog w K mg base CX0 5 "_law_asked_by" ["_law_script"] (spAsked K) := ⟨_, _, (ok_asked F20 SH b13 k13 m13 SB b14 k14 m14 AT b10 k10 m10).mono (by decide), b20, k20, m20⟩
  have g25 : Gd l.prog w K mg base CX0 5 "_law_some_spoilt" ["_law_shelf", "_law_start", "_law_script"] (spSome K) := ⟨_, _, (ok_some F25 T LS b22 k22 m22 AF b10 k10 m10 SPO b24 k24 m24).mono (by decide), b25, k25, m25⟩
  have g19 : Gd l.prog w K mg base CX0 5 "_law_holds" ["_law_shelf", "_law_start", "_law_lines", "_law_spot"] spHolds := ⟨_, _, (HO).mono (by decide), b19, k19, m19⟩
  have g15 : Gd l.prog w K mg base CX0 5 "_law_copy_of" ["_law_shelf"] spCopy := ⟨_, _, (ok_copy F15 T).mono (by decide), b15, k15, m15⟩
  have g2 : Gd l.prog w K mg base (CXE l.prog w) 5 "first_bad" ["shelf", "start", "lines"] (spBad CT) := ⟨_, _, (ok_bad F2 TBd (PySem.W.mg_none_of X G z1) (PySem.W.mg_none_of X G z2) ⟨mkC, am1, im1, kcC⟩ BI bm1 FO b6 k6 m6).mono (by decide), b2, k2, m2⟩
  have g23 : Gd l.prog w K mg base CX0 5 "_law_stays_so" ["_law_handed", "_law_own"] spStays := ⟨_, _, (ok_stays F23 T).mono (by decide), b23, k23, m23⟩
  have g9 : Gd l.prog w K mg base CX0 5 "_law_whole" ["_law_found"] spWhole := ⟨_, _, (ok_whole F9 T).mono (by decide), b9, k9, m9⟩
  have g3 : Gd l.prog w K mg base CX0 5 "bars" ["lines", "picks"] spBars := ⟨_, _, (ok_bars F3 MK b4 k4 m4 HA b5 k5 m5).mono (by decide), b3, k3, m3⟩
  exact ok_law F27 T g10 g26 g20 g25 g19 g15 g2 g23 g9 g3
theorem walk {l : PySem.W.OpenLaw} {q : Program} {loose : List Str} {XP : (Str → Option Value) → Heap → Prop} {YP : World → Heap → Prop} {d : DefRec} {K : Params → PySem.W.Frag} (hn : l.most = some 63) (hdf : d.params.defaults = [])
    (hY : ∀ (w : World) (h : Heap), YP w h → (K w.params).In h)
    (F : ∀ (w : World) (mg : Str → Option Value) (fa : Addr) (h : Heap), (K w.params).In h → h.Ns mainGlobals mg → mg d.name = some (.ref fa) →
      ∃ fd : FuncData, (∀ (s : Shared) (u : Value), BindsTo s fd ⟨[u], []⟩ [("_law_script", u)]) ∧ ∀ base : Heap, (K w.params).In base → base.Ns mainGlobals mg → FnOk l.prog w (K w.params) mg base CX0 6 fa fd ["_law_script"] (spLaw (K w.params))) :
    PySem.W.WalkO q loose XP YP l.row.toRowW d [] (fun f vs => PySem.call f vs) :=
  L2.walk_of (n := 63) (k := 6) (x := "_law_script") (CX := fun _ => CX0) (sp := fun w => spLaw (K w.params)) hn (by decide) hdf ⟨rfl, by decide, by decide⟩ hY F (fun _ _ a ns hl _ hS => ⟨a, ns, rfl, hS, hl, fun _ => rfl⟩) fun _ _ _ _ _ z => z
end FB
open PySem PySem.W PyProof.Rows
set_option maxRecDepth 100000 in
set_option maxHeartbeats 0 in
theorem PySem.Challenge.cw_fitboard_k05_lines_looked_through_holds : PySem.Challenge.rw_fitboard_k05_lines_looked_through.Holds := by
  w_on; o_law; k_head; (case hw => w_witness2)
  k_fill
  refine FB.walk (l := PySem.Challenge.rw_fitboard_k05_lines_looked_through) rfl rfl (fun w h Y => PySem.W.kIn_of Y) ?F
  case F =>
    intro w mg fa h KX G hmg
    refine' FB.all_mk KX G hmg ?a1 ?l1 ?c1 ?k1 ?a2 ?l2 ?c2 ?k2 ?a3 ?l3 ?c3 ?k3 ?a4 ?l4 ?c4 ?k4 ?a5 ?l5 ?c5 ?k5 ?a6 ?l6 ?c6 ?k6 ?a7 ?l7 ?c7 ?k7 ?a8 ?l8 ?c8 ?k8 ?a9 ?l9 ?c9 ?k9 ?a10 ?l10 ?c10 ?k10 ?a11 ?l11 ?c11 ?k11 ?a12 ?l12 ?c12 ?k12 ?a13 ?l13 ?c13 ?k13 ?a14 ?l14 ?c14 ?k14 ?a15 ?l15 ?c15 ?k15 ?a16 ?l16 ?c16 ?k16 ?a17 ?l17 ?c17 ?k17 ?a18 ?l18 ?c18 ?k18 ?a19 ?l19 ?c19 ?k19 ?a20 ?l20 ?c20 ?k20 ?a21 ?l21 ?c21 ?k21 ?a22 ?l22 ?c22 ?k22 ?a23 ?l23 ?c23 ?k23 ?a24 ?l24 ?c24 ?k24 ?a25 ?l25 ?c25 ?k25 ?a26 ?l26 ?c26 ?k26 ?a27 ?l27 ?c27 ?k27 ?am1 ?im1 ?lm1 ?cm1 ?km1 ?am2 ?im2 ?lm2 ?cm2 ?km2 ?aC ?pgC ?hdC ?poC ?saC ?mkC ?kcC ?nCneeds ?nCversions ?aCT ?xCT ?z1 ?z2 ?z3 ?z4 ?z5 ?z6 ?z7 ?z8 ?z9 ?z10 ?z11 ?z12
    (case aC => k_is); (case aCT => k_is); (case a1 => k_is); (case l1 => k_is); (case c1 => k_is); (case k1 => k_is); (case a2 => k_is); (case l2 => k_is)
    (case c2 => k_is); (case k2 => k_is); (case a3 => k_is); (case l3 => k_is); (case c3 => k_is); (case k3 => k_is); (case a4 => k_is); (case l4 => k_is)
    (case c4 => k_is); (case k4 => k_is); (case a5 => k_is); (case l5 => k_is); (case c5 => k_is); (case k5 => k_is); (case a6 => k_is); (case l6 => k_is)
    (case c6 => k_is); (case k6 => k_is); (case a7 => k_is); (case l7 => k_is); (case c7 => k_is); (case k7 => k_is); (case a8 => k_is); (case l8 => k_is)
    (case c8 => k_is); (case k8 => k_is); (case a9 => k_is); (case l9 => k_is); (case c9 => k_is); (case k9 => k_is); (case a10 => k_is); (case l10 => k_is)
    (case c10 => k_is); (case k10 => k_is); (case a11 => k_is); (case l11 => k_is); (case c11 => k_is); (case k11 => k_is); (case a12 => k_is); (case l12 => k_is)
    (case c12 => k_is); (case k12 => k_is); (case a13 => k_is); (case l13 => k_is); (case c13 => k_is); (case k13 => k_is); (case a14 => k_is); (case l14 => k_is)
    (case c14 => k_is); (case k14 => k_is); (case a15 => k_is); (case l15 => k_is); (case c15 => k_is); (case k15 => k_is); (case a16 => k_is); (case l16 => k_is)
    (case c16 => k_is); (case k16 => k_is); (case a17 => k_is); (case l17 => k_is); (case c17 => k_is); (case k17 => k_is); (case a18 => k_is); (case l18 => k_is)
    (case c18 => k_is); (case k18 => k_is); (case a19 => k_is); (case l19 => k_is); (case c19 => k_is); (case k19 => k_is); (case a20 => k_is); (case l20 => k_is)
    (case c20 => k_is); (case k20 => k_is); (case a21 => k_is); (case l21 => k_is); (case c21 => k_is); (case k21 => k_is); (case a22 => k_is); (case l22 => k_is)
    (case c22 => k_is); (case k22 => k_is); (case a23 => k_is); (case l23 => k_is); (case c23 => k_is); (case k23 => k_is); (case a24 => k_is); (case l24 => k_is)
    (case c24 => k_is); (case k24 => k_is); (case a25 => k_is); (case l25 => k_is); (case c25 => k_is); (case k25 => k_is); (case a26 => k_is); (case l26 => k_is)
    (case c26 => k_is); (case k26 => k_is); (case a27 => k_is); (case l27 => k_is); (case c27 => k_is); (case k27 => k_is); (case am1 => k_is); (case im1 => k_is)
    (case lm1 => k_is); (case cm1 => k_is); (case km1 => k_is); (case am2 => k_is); (case im2 => k_is); (case lm2 => k_is); (case cm2 => k_is); (case km2 => k_is)
    (case pgC => k_is); (case hdC => k_is); (case poC => k_is); (case saC => k_is); (case mkC => k_is); (case kcC => k_is); (case nCneeds => k_is); (case nCversions => k_is)
    (case xCT => k_exc); (case z1 => k_is); (case z2 => k_is); (case z3 => k_is); (case z4 => k_is); (case z5 => k_is); (case z6 => k_is); (case z7 => k_is)
    (case z8 => k_is); (case z9 => k_is); (case z10 => k_is); (case z11 => k_is); (case z12 => k_is)
