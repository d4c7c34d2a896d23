import PyProof.Rows.All
import Wide.All
import OpenK.AllK
import Wide.FinOn
import PyProof.EqAt
import PyProof.EqKinds
import PyProof.TupleCall
import KE.BitLaws
import Open.SpecLaws
import KE.OsHead
import KE.OsGo
import PyFlatLaws
import PySem.Challenge.RW_tilewords_s01_answers
set_option Elab.async false
set_option linter.all false
set_option maxRecDepth 100000
/-! THE HAND LAYER, for ints, bools, texts, own classes, lists, tuples, dicts, comprehensions, walks over dicts, enumerate, zip, reversed, texts, calls, loops. Paste it whole ahead of your own text; what your proof does not reach may be deleted. -/
namespace L2
open PySem PySem.Spec PyProof.Rows
/-- a key: an int or a str -/
abbrev Key := Sum Int Str
def keyIs : Key → Value → Bool
  | .inl k, v => Value.isInt k v
  | .inr x, v => Value.isStrOf x v
def keyH (w : World) : Key → Int
  | .inl k => hashInt k
  | .inr x => hashStr w x
theorem keyIs_shape : ∀ {k : Key} {v : Value}, keyIs k v = true → (∃ i t, k = Sum.inl i ∧ v = Value.int i t) ∨ (∃ x t, k = Sum.inr x ∧ v = Value.str x t)
  | .inl i, v, h => by
    obtain ⟨t, e⟩ := Value.isInt_shape (k := i) (v := v) h
    exact .inl ⟨i, t, rfl, e⟩
  | .inr x, v, h => by
    obtain ⟨t, e⟩ := Value.isStrOf_shape (x := x) (v := v) h
    exact .inr ⟨x, t, rfl, e⟩
theorem key_ll (a b : Int) : decide ((Sum.inl a : Key) = Sum.inl b) = (a == b) := by
  by_cases e : a = b
  · subst e; simp
  · have h : ¬ (Sum.inl a : Key) = Sum.inl b := fun q => e (Sum.inl.inj q)
    rw [decide_eq_false h]
    exact (beq_eq_false_iff_ne.mpr e).symm
theorem key_rr (a b : Str) : decide ((Sum.inr a : Key) = Sum.inr b) = decide (a = b) := by
  by_cases e : a = b
  · subst e; simp
  · have h : ¬ (Sum.inr a : Key) = Sum.inr b := fun q => e (Sum.inr.inj q)
    rw [decide_eq_false h, decide_eq_false e]
theorem key_lr (a : Int) (b : Str) : decide ((Sum.inl a : Key) = Sum.inr b) = false := decide_eq_false (fun q => nomatch q)
theorem key_rl (a : Str) (b : Int) : decide ((Sum.inr a : Key) = Sum.inl b) = false := decide_eq_false (fun q => nomatch q)
def mixKind (prog : Program) (w : World) : PySem.KeyKind prog w Key where
  is := keyIs
  hash := keyH w
  inj := fun v a b ha hb => by
    rcases keyIs_shape ha with ⟨i, t, rfl, rfl⟩ | ⟨x, t, rfl, rfl⟩
    · rcases keyIs_shape hb with ⟨j, u, rfl, e⟩ | ⟨y, u, rfl, e⟩
      · injection e with e1 _; rw [e1]
      · exact nomatch e
    · rcases keyIs_shape hb with ⟨j, u, rfl, e⟩ | ⟨y, u, rfl, e⟩
      · exact nomatch e
      · injection e with e1 _; rw [e1]
  byValue := fun k v h => by
    rcases keyIs_shape h with ⟨i, t, rfl, rfl⟩ | ⟨x, t, rfl, rfl⟩ <;> rfl
  pyHash := fun hv h => by
    rcases keyIs_shape hv with ⟨i, t, rfl, rfl⟩ | ⟨x, t, rfl, rfl⟩
    · exact wpAny_pyHash_int h
    · exact wpAny_pyHash_str h
  eqBool := fun hu hv h => by
    rcases keyIs_shape hu with ⟨i, t, rfl, rfl⟩ | ⟨x, t, rfl, rfl⟩
    · rcases keyIs_shape hv with ⟨j, u, rfl, rfl⟩ | ⟨y, u, rfl, rfl⟩
      · rw [key_ll] at h; exact wpAny_eqBool_int h
      · rw [key_lr] at h; exact SeqAt.EqAt.int_str i t y u _ _ _ _ h
    · rcases keyIs_shape hv with ⟨j, u, rfl, rfl⟩ | ⟨y, u, rfl, rfl⟩
      · rw [key_rl] at h; exact SeqAt.EqAt.str_int x t j u _ _ _ _ h
      · rw [key_rr] at h; exact wpAny_eqBool_str h
  «strs» := fun k x t v h => by
    rcases keyIs_shape h with ⟨i, u, rfl, e⟩ | ⟨y, u, rfl, e⟩
    · exact nomatch e
    · injection e with e1 _
      subst e1
      cases v <;> rfl
end L2
namespace L2
open PySem PySem.Spec PyProof.Rows
/-- a value, without the heap -/
inductive V where
  | non | bl (b : Bool) | int (i : Int) | str (x : Str) | byt (b : Array UInt8) | flt (b : UInt64) | ref (a : Addr) | ty (n : String)
  deriving DecidableEq
def RelV : V → Value → Prop
  | .non, u => u = Value.none
  | .bl b, u => u = Value.bool b
  | .int i, u => ∃ t, u = Value.int i t
  | .str x, u => ∃ t, u = Value.str x t
  | .byt b, u => ∃ t, u = Value.bytes b t
  | .flt b, u => ∃ t, u = Value.float b t
  | .ref a, u => u = Value.ref a
  | .ty n, u => u = Value.type n
abbrev Vals : List V → List Value → Prop := Paired RelV
theorem Vals.length {xs : List V} {us : List Value} (r : Vals xs us) : xs.length = us.length := Paired.length r
theorem Vals.get : ∀ {xs : List V} {us : List Value} {i : Nat} {x : V}, Vals xs us → xs[i]? = some x → ∃ u, us[i]? = some u ∧ RelV x u
  | _, _, _, _, .nil, e => by simp at e
  | _, _, 0, _, .cons r _, e => by simp at e; subst e; exact ⟨_, rfl, r⟩
  | _, _, i + 1, x, .cons _ t, e => by
    obtain ⟨u, h1, h2⟩ := Vals.get (i := i) (x := x) t (by simpa using e)
    exact ⟨u, by simpa using h1, h2⟩
theorem Vals.set {x : V} {u : Value} (r : RelV x u) : ∀ {xs : List V} {us : List Value} (i : Nat), Vals xs us → Vals (xs.set i x) (us.set i u)
  | _, _, _, .nil => .nil
  | _, _, 0, .cons _ t => .cons r t
  | _, _, i + 1, .cons q t => .cons q (Vals.set r i t)
theorem Vals.append : ∀ {xs ys : List V} {us ws : List Value}, Vals xs us → Vals ys ws → Vals (xs ++ ys) (us ++ ws)
  | _, _, _, _, .nil, s => s
  | _, _, _, _, .cons r t, s => .cons r (Vals.append t s)
theorem Vals.take : ∀ {xs : List V} {us : List Value} (n : Nat), Vals xs us → Vals (xs.take n) (us.take n)
  | _, _, 0, _ => .nil
  | _, _, _ + 1, .nil => .nil
  | _, _, n + 1, .cons r t => .cons r (Vals.take n t)
theorem Vals.drop : ∀ {xs : List V} {us : List Value} (n : Nat), Vals xs us → Vals (xs.drop n) (us.drop n)
  | _, _, 0, r => r
  | _, _, _ + 1, .nil => .nil
  | _, _, n + 1, .cons _ t => Vals.drop n t
theorem Vals.none_of : ∀ {xs : List V} {us : List Value} {i : Nat}, Vals xs us → xs[i]? = none → us[i]? = none := fun {xs us i} r e => by
  have h1 := r.length
  have h2 : xs.length ≤ i := List.getElem?_eq_none_iff.mp e
  exact List.getElem?_eq_none_iff.mpr (by omega)
def RelO : Option V → Option Value → Prop
  | some v, some u => RelV v u
  | none, none => True
  | _, _ => False
def KV {κ : Type} : List (κ × V) → List (κ × Value) → Prop := Paired fun (p : κ × V) (q : κ × Value) => p.1 = q.1 ∧ RelV p.2 q.2
/-- a key of a dict (00_mix): an int or a text -/
def kV : Key → V
  | .inl i => .int i
  | .inr x => .str x
/-- what stands at a tracked address -/
inductive HO where
  /-- a list -/
  | lst (xs : List V)
  /-- a tuple (never changes) -/
  | tup (xs : List V)
  /-- a dict whose keys are ints and texts; one whose keys are tuples of ints and texts (the empty one is both) -/
  | dK (kvs : List (Key × V)) | dT (kvs : List (List Key × V))
  /-- a set of ints: its members, its size -/
  | set (S : Int → Bool) (n : Nat)
  /-- an instance of the class at C, its dict at dx, its attributes -/
  | ins (C dx : Addr) (fs : List (Str × V))
  /-- the dict of the instance at x -/
  | own (x : Addr)
  /-- the dict of an exception -/
  | xd (fs : List (Str × V))
  /-- a bound method, f of x -/
  | met (f x : Addr)
  /-- a range object lo, lo + 1, .. below hi -/
  | rng (lo hi : Int)
  /-- a thing that is known to the object (the script; a dict while a loop walks it): read, never written while it is so -/
  | frz (o : Obj) (u : HO)
  /-- a code object's table -/
  | tbl (ps : Array Value)
  /-- any other thing, by what is true of its one object (a def of one's own: SetO a S n := HO.ext fun h => ..) -/
  | ext (φ : Heap → Prop)
abbrev Hp := Addr → Option HO
def upd (H : Hp) (a : Addr) (o : HO) : Hp := fun b => if b = a then some o else H b
theorem upd_same {H : Hp} {a : Addr} {o : HO} : upd H a o a = some o := by unfold upd; rw [if_pos rfl]
theorem upd_ne {H : Hp} {a b : Addr} {o : HO} (h : b ≠ a) : upd H a o b = H b := by unfold upd; rw [if_neg h]
/-- two objects of different content stand apart -/
theorem ne_of {H : Hp} {a b : Addr} {o u : HO} (h : H a = some o) (h' : H b = some u) (d : o ≠ u) : a ≠ b := by
  intro e; subst e; rw [h] at h'; exact d (Option.some.inj h')
theorem ne_of_none {H : Hp} {a b : Addr} {o : HO} (h : H a = some o) (h' : H b = none) : a ≠ b := by
  intro e; subst e; rw [h] at h'; cases h'
section
variable (P : Program) (w : World)
def ObjOk (H : Hp) (h : Heap) (a : Addr) : HO → Prop
  | .lst xs => xs.length ≤ sizeLine ∧ ∃ (its : List Value) (n : Nat), Vals xs its ∧ h.get? a = some { cls := .type "list", data := .seq its.toArray n }
  | .tup xs => xs.length ≤ sizeLine ∧ ∃ its : List Value, Vals xs its ∧ IsTup h a its.toArray
  | .dK kvs => kvs.length ≤ sizeLine ∧ (a == sysModules) = false ∧ ∃ vs, KV kvs vs ∧ h.DictOf (mixKind P w) a vs
  | .dT kvs => kvs.length ≤ sizeLine ∧ (a == sysModules) = false ∧ ∃ xs : List (List Key × Addr × Value),
      Paired (fun (p : List Key × V) (q : List Key × Addr × Value) => p.1 = q.1 ∧ H q.2.1 = some (.tup (p.1.map kV)) ∧ RelV p.2 q.2.2) kvs xs ∧
      ∃ o es ep, h.get? a = some o ∧ o.ExactDict ∧ o.data = .dict es ep ∧ es.toList = xs.map (entryOfKey (tupleKind (mixKind P w))) ∧ (xs.map (·.1)).Nodup
  | .set S n => h.SetOf (intKind P w) a S n
  | .ins C dx fs => H dx = some (.own a) ∧ fs.length ≤ 1000 ∧ dx ≠ a ∧ h.get? a = some (PySem.W.instObj C dx) ∧
      ∃ mA, h.Ns1 dx mA ∧ (∀ f, RelO (fs.lookup f) (mA f)) ∧ PySem.Within mA (fs.map (·.1))
  | .own _ => ∃ o, h.get? a = some o
  | .xd fs => ∃ mA, h.Ns1 a mA ∧ ∀ f, RelO (fs.lookup f) (mA f)
  | .rng lo hi => ∃ t u v, h.get? a = some { cls := .type "range", data := .fields #[.int lo t, .int hi u, .int 1 v] }
  | .frz o u => h.get? a = some o ∧ ObjOk H h a u
  | .tbl ps => h.get? a = some { cls := .none, data := .fields ps }
  | .met f x => h.get? a = some (PySem.W.methodObj (.ref f) (.ref x))
  | .ext φ => φ h ∧ (∃ o, h.get? a = some o) ∧ ∀ h1 h2 : Heap, φ h1 → (∀ o, h1.get? a = some o → h2.get? a = some o) → φ h2
/-- the abstract heap is held -/
def HOk (H : Hp) (h : Heap) : Prop := ∀ a o, H a = some o → ObjOk P w H h a o
end
section
variable {P : Program} {w : World} {H H' : Hp} {h h' : Heap} {a : Addr} {o : HO}
theorem ObjOk.lt (x : ObjOk P w H h a o) : a < h.objs.size := by
  cases o with
  | lst xs => obtain ⟨_, _, _, _, e⟩ := x; exact Heap.lt_size e
  | tup xs => obtain ⟨_, _, _, p⟩ := x; exact p.lt
  | dK kvs => obtain ⟨_, _, _, _, o, _, _, e, _⟩ := x; exact Heap.lt_size e
  | dT kvs => obtain ⟨_, _, _, _, o, _, _, e, _⟩ := x; exact Heap.lt_size e
  | set S n => obtain ⟨o, _, _, _, e, _⟩ := x; exact Heap.lt_size e
  | ins C dx fs => obtain ⟨_, _, _, e, _⟩ := x; exact Heap.lt_size e
  | own y => obtain ⟨_, e⟩ := x; exact Heap.lt_size e
  | xd fs => obtain ⟨_, ⟨_, _, _, e, _⟩, _⟩ := x; exact Heap.lt_size e
  | rng lo hi => obtain ⟨_, _, _, e⟩ := x; exact Heap.lt_size e
  | frz ob u => obtain ⟨e, _⟩ := x; exact Heap.lt_size e
  | tbl ps => exact Heap.lt_size (show h.get? a = some _ from x)
  | met f y => exact Heap.lt_size (show h.get? a = some _ from x)
  | ext φ => obtain ⟨_, ⟨_, e⟩, _⟩ := x; exact Heap.lt_size e
theorem Paired.mapP {α β : Type} {F G : α → β → Prop} : ∀ {l₁ : List α} {l₂ : List β}, Paired F l₁ l₂ → (∀ a b, F a b → G a b) → Paired G l₁ l₂
  | _, _, .nil, _ => .nil
  | _, _, .cons r t, f => .cons (f _ _ r) (Paired.mapP t f)
/-- what an object's description leans on: its own object, its own dict, the tuples -/
theorem ObjOk.stay (x : ObjOk P w H h a o) (k : ∀ b u, (b = a ∨ H b = some (.own a)) → h.get? b = some u → h'.get? b = some u)
    (ho : ∀ b, H b = some (.own a) → H' b = some (.own a)) (ht : ∀ b xs, H b = some (.tup xs) → H' b = some (.tup xs)) : ObjOk P w H' h' a o := by
  induction o with
  | lst xs => obtain ⟨z, its, n, r, e⟩ := x; exact ⟨z, its, n, r, k _ _ (.inl rfl) e⟩
  | tup xs => obtain ⟨z, its, r, ob, e, c⟩ := x; exact ⟨z, its, r, ob, k _ _ (.inl rfl) e, c⟩
  | dK kvs => obtain ⟨z, y, vs, r, ob, es, ep, e, c⟩ := x; exact ⟨z, y, vs, r, ob, es, ep, k _ _ (.inl rfl) e, c⟩
  | dT kvs =>
    obtain ⟨z, y, xs, r, ob, es, ep, e, c⟩ := x
    exact ⟨z, y, xs, Paired.mapP r fun p q z => ⟨z.1, ht _ _ z.2.1, z.2.2⟩, ob, es, ep, k _ _ (.inl rfl) e, c⟩
  | set S n => obtain ⟨ob, es, ep, t, e, c⟩ := x; exact ⟨ob, es, ep, t, k _ _ (.inl rfl) e, c⟩
  | ins C dx fs =>
    obtain ⟨d, z, ne, e, mA, ⟨od, es, ep, e2, c⟩, r⟩ := x
    exact ⟨ho _ d, z, ne, k _ _ (.inl rfl) e, mA, ⟨od, es, ep, k _ _ (.inr d) e2, c⟩, r⟩
  | own y => obtain ⟨ob, e⟩ := x; exact ⟨ob, k _ _ (.inl rfl) e⟩
  | xd fs => obtain ⟨mA, ⟨od, es, ep, e, c⟩, r⟩ := x; exact ⟨mA, ⟨od, es, ep, k _ _ (.inl rfl) e, c⟩, r⟩
  | rng lo hi => obtain ⟨t, u, v, e⟩ := x; exact ⟨t, u, v, k _ _ (.inl rfl) e⟩
  | frz ob u ih => obtain ⟨e, q⟩ := x; exact ⟨k _ _ (.inl rfl) e, ih q⟩
  | tbl ps =>
    have e : h.get? a = some { cls := .none, data := .fields ps } := x
    show h'.get? a = some { cls := .none, data := .fields ps }
    exact k a _ (.inl rfl) e
  | met f y =>
    have e : h.get? a = some (PySem.W.methodObj (.ref f) (.ref y)) := x
    show h'.get? a = some (PySem.W.methodObj (.ref f) (.ref y))
    exact k a _ (.inl rfl) e
  | ext φ => obtain ⟨p, ⟨o, e⟩, st⟩ := x; exact ⟨st _ _ p fun o q => k _ _ (.inl rfl) q, ⟨o, k _ _ (.inl rfl) e⟩, st⟩
theorem HOk.lt (x : HOk P w H h) (e : H a = some o) : a < h.objs.size := (x a o e).lt
theorem HOk.fresh (x : HOk P w H h) (e : h.objs.size ≤ a) : H a = none := by
  cases q : H a with
  | none => rfl
  | some u => exact absurd (Nat.lt_of_lt_of_le (x.lt q) e) (Nat.lt_irrefl _)
/-- every object of the heap is kept -/
theorem HOk.kept (x : HOk P w H h) (k : ∀ b u, h.get? b = some u → h'.get? b = some u) : HOk P w H h' := fun a o e =>
  (x a o e).stay (fun b u _ q => k b u q) (fun _ q => q) fun _ _ q => q
/-- a new object is laid and tracked -/
theorem HOk.laid (x : HOk P w H h) (k : ∀ b u, h.get? b = some u → h'.get? b = some u) (hp : h.objs.size ≤ a) (new : ObjOk P w (upd H a o) h' a o) : HOk P w (upd H a o) h' := fun b u e => by
  have hn := x.fresh hp
  by_cases hb : b = a
  · subst hb; rw [upd_same] at e; cases e; exact new
  · rw [upd_ne hb] at e
    exact (x b u e).stay (fun c v _ q => k c v q) (fun c q => by rw [upd_ne (ne_of_none q hn)]; exact q) fun c xs q => by rw [upd_ne (ne_of_none q hn)]; exact q
end
/-- what may be read as u: it is u, or a known u -/
def Rd (H : Hp) (a : Addr) (u : HO) : Prop := H a = some u ∨ ∃ o, H a = some (.frz o u)
theorem Rd.of {H : Hp} {a : Addr} {u : HO} (h : H a = some u) : Rd H a u := .inl h
theorem Rd.ok {P : Program} {w : World} {H : Hp} {h : Heap} {a : Addr} {u : HO} (r : Rd H a u) (x : HOk P w H h) : ObjOk P w H h a u := by
  rcases r with r | ⟨o, r⟩
  · exact x a u r
  · obtain ⟨_, q⟩ := x a _ r
    exact q
/-- what may be written -/
def Mut : Option HO → Prop
  | some (.lst _) => True
  | some (.dK _) => True
  | some (.dT _) => True
  | some (.set _ _) => True
  | some (.ins _ _ _) => True
  | some (.ext _) => True
  | _ => False
section
variable {P : Program} {w : World} {H : Hp} {h h' : Heap} {x e : Addr} {o' : HO}
/-- the object at e is changed: x itself, or the dict of the instance x -/
theorem HOk.write (ok : HOk P w H h) (mu : Mut (H x)) (he : e = x ∨ H e = some (.own x)) (k : ∀ b u, b ≠ e → h.get? b = some u → h'.get? b = some u) (heo : ∃ u, h'.get? e = some u)
    (new : ObjOk P w (upd H x o') h' x o') : HOk P w (upd H x o') h' := fun b u q => by
  have nown : ∀ c y, H c = some (.own y) → c ≠ x := fun c y r z => by subst z; rw [r] at mu; exact mu
  have ntup : ∀ c xs, H c = some (.tup xs) → c ≠ x := fun c xs r z => by subst z; rw [r] at mu; exact mu
  by_cases hb : b = x
  · subst hb; rw [upd_same] at q; cases q; exact new
  · rw [upd_ne hb] at q
    by_cases hbe : b = e
    · have q' : H b = some (.own x) := by
        rcases he with z | z
        · exact absurd (hbe.trans z) hb
        · rw [hbe]; exact z
      rw [q] at q'; cases q'
      obtain ⟨v, hv⟩ := heo
      exact ⟨v, by rw [hbe]; exact hv⟩
    · refine (ok b u q).stay (fun c v hc r => k c v ?_ r) (fun c r => by rw [upd_ne (nown c b r)]; exact r) fun c xs r => by rw [upd_ne (ntup c xs r)]; exact r
      rcases hc with rfl | hc
      · exact hbe
      · rintro rfl
        rcases he with z | z
        · exact nown c b hc z
        · rw [hc] at z; cases z; exact hb rfl
end
/-! ### kept unless tracked; of the frames at fs (the callers') the slots may change (an exception that passes writes there); of the records at ex (iterators) nothing is said -/
structure Un (fs ex : List Addr) (H H' : Hp) (h h' : Heap) : Prop where
  keep : ∀ b o, h.get? b = some o → H b = none → b ∉ fs → b ∉ ex → h'.get? b = some o
  slot : ∀ b o, h.get? b = some o → H b = none → b ∈ fs → b ∉ ex → ∃ sl, h'.get? b = some { o with slots := sl }
  free : ∀ b o, h.get? b = some o → H b = none → b ∉ ex → H' b = none
  there : ∀ b o, h.get? b = some o → b ∉ ex → ∃ o', h'.get? b = some o'
  tups : ∀ b xs, H b = some (.tup xs) → H' b = some (.tup xs)
  frzs : ∀ b o u, H b = some (.frz o u) → H' b = some (.frz o u)
  tbls : ∀ b ps, H b = some (.tbl ps) → ∃ more, H' b = some (.tbl (ps ++ more))
section
variable {fs fs' ex ex' : List Addr} {H H1 H2 : Hp} {h h1 h2 h' : Heap} {a x e : Addr} {o : HO}
theorem Un.any (u : Un fs ex H H1 h h1) {b : Addr} {ob : Obj} (q : h.get? b = some ob) (n : H b = none) (hx : b ∉ ex) : ∃ sl, h1.get? b = some { ob with slots := sl } := by
  by_cases hb : b ∈ fs
  · exact u.slot b ob q n hb hx
  · exact ⟨ob.slots, u.keep b ob q n hb hx⟩
theorem Un.trans (a : Un fs ex H H1 h h1) (b : Un fs ex H1 H2 h1 h2) : Un fs ex H H2 h h2 where
  keep := fun c ob q n hc hx => b.keep c ob (a.keep c ob q n hc hx) (a.free c ob q n hx) hc hx
  slot := fun c ob q n hc hx => by
    obtain ⟨sl, e1⟩ := a.slot c ob q n hc hx
    obtain ⟨sl', e2⟩ := b.slot c _ e1 (a.free c ob q n hx) hc hx
    exact ⟨sl', e2⟩
  free := fun c ob q n hx => by
    obtain ⟨o', e1⟩ := a.there c ob q hx
    exact b.free c o' e1 (a.free c ob q n hx) hx
  there := fun c ob q hx => by
    obtain ⟨o', e1⟩ := a.there c ob q hx
    exact b.there c o' e1 hx
  tups := fun c xs q => b.tups c xs (a.tups c xs q)
  frzs := fun c ob xs q => b.frzs c ob xs (a.frzs c ob xs q)
  tbls := fun c ps q => by
    obtain ⟨m1, e1⟩ := a.tbls c ps q
    obtain ⟨m2, e2⟩ := b.tbls c _ e1
    exact ⟨m1 ++ m2, by rw [e2, Array.append_assoc]⟩
theorem Un.kept (k : ∀ b u, h.get? b = some u → h'.get? b = some u) : Un fs ex H H h h' :=
  ⟨fun b ob q _ _ _ => k b ob q, fun b ob q _ _ _ => ⟨ob.slots, k b ob q⟩, fun _ _ _ n _ => n, fun b ob q _ => ⟨ob, k b ob q⟩, fun _ _ q => q, fun _ _ _ q => q, fun _ ps q => ⟨#[], by rw [q]; simp⟩⟩
theorem Un.refl : Un fs ex H H h h := Un.kept fun _ _ q => q
theorem Un.laid (k : ∀ b u, h.get? b = some u → h'.get? b = some u) (hp : h.objs.size ≤ a) (hn : H a = none) : Un fs ex H (upd H a o) h h' where
  keep := fun b u q _ _ _ => k b u q
  slot := fun b u q _ _ _ => ⟨u.slots, k b u q⟩
  free := fun b u q n _ => by rw [upd_ne (Nat.ne_of_lt (Nat.lt_of_lt_of_le (Heap.lt_size q) hp))]; exact n
  there := fun b u q _ => ⟨u, k b u q⟩
  tups := fun b xs q => by rw [upd_ne (ne_of_none q hn)]; exact q
  frzs := fun b u xs q => by rw [upd_ne (ne_of_none q hn)]; exact q
  tbls := fun b ps q => ⟨#[], by rw [upd_ne (ne_of_none q hn), q]; simp⟩
theorem Un.write (mu : Mut (H x)) (he : e = x ∨ H e = some (.own x)) (k : ∀ b u, b ≠ e → h.get? b = some u → h'.get? b = some u) (heo : ∃ u, h'.get? e = some u) : Un fs ex H (upd H x o) h h' := by
  have hx : ∀ b, H b = none → b ≠ x := fun b n z => by subst z; rw [n] at mu; exact mu
  have hb : ∀ b, H b = none → b ≠ e := fun b n z => by
    subst z
    rcases he with r | r
    · exact hx b n r
    · rw [n] at r; cases r
  have hm : ∀ b u, H b = some u → ¬ Mut (some u) → b ≠ x := fun b u q nm z => by subst z; rw [q] at mu; exact nm mu
  refine ⟨fun b u q n _ _ => k b u (hb b n) q, fun b u q n _ _ => ⟨u.slots, k b u (hb b n) q⟩, fun b u q n _ => by rw [upd_ne (hx b n)]; exact n, fun b u q _ => ?_,
    fun b xs q => by rw [upd_ne (hm b _ q fun z => z)]; exact q, fun b u xs q => by rw [upd_ne (hm b _ q fun z => z)]; exact q, fun b ps q => ⟨#[], by rw [upd_ne (hm b _ q fun z => z), q]; simp⟩⟩
  by_cases hbe : b = e
  · subst hbe; exact heo
  · exact ⟨u, k b u hbe q⟩
theorem Un.mono (u : Un fs ex H H1 h h1) (hs : ∀ b ∈ fs, b ∈ fs') (hx : ∀ b ∈ ex, b ∈ ex') : Un fs' ex' H H1 h h1 :=
  ⟨fun b ob q n hb he => u.keep b ob q n (fun z => hb (hs b z)) fun z => he (hx b z), fun _ _ q n _ he => u.any q n fun z => he (hx _ z), fun b ob q n he => u.free b ob q n fun z => he (hx b z), fun b ob q he => u.there b ob q fun z => he (hx b z), u.tups, u.frzs, u.tbls⟩
end
/-! ### the heap without what is tracked -/
def trk (h : Heap) (H : Hp) : List Addr := (List.range h.objs.size).filter fun a => (H a).isSome
def hidT (h : Heap) (H : Hp) : Heap := PySem.W.hideAll h (trk h H)
theorem hidT_size (h : Heap) (H : Hp) : (hidT h H).objs.size = h.objs.size := PySem.W.hideAll_size _ _
theorem hidT_get {h : Heap} {H : Hp} {b : Addr} {o : Obj} (e : h.get? b = some o) (n : H b = none) : (hidT h H).get? b = some o :=
  PySem.W.hideAll_get _ e fun hm => by
    have q : (H b).isSome = true := (List.mem_filter.mp hm).2
    rw [n] at q; simp at q
theorem of_hidT {h : Heap} {H : Hp} {b : Addr} {o : Obj} (e : (hidT h H).get? b = some o) : h.get? b = some o ∧ H b = none := by
  have e' : h.get? b = some o := PySem.W.of_hideAll (trk h H) e
  refine ⟨e', ?_⟩
  cases q : H b with
  | none => rfl
  | some x =>
    have hm : b ∈ trk h H := List.mem_filter.mpr ⟨List.mem_range.mpr (Heap.lt_size e'), by simp [q]⟩
    have z : (hidT h H).get? b = none := PySem.W.hideAll_none (trk h H) hm
    rw [z] at e; cases e
/-! ### OpenK's ledger, filled with every new object but one -/
def allNews (g h : Heap) (L : Addr) : List (Addr × Obj) := (List.range h.objs.size).filterMap fun a => if a = L ∨ (g.get? a).isSome = true then none else (h.get? a).map fun o => (a, o)
def rest (g h : Heap) (L d : Addr) : List (Addr × Obj) := (allNews g h L).filter fun p => decide (p.1 ≠ d)
end L2
namespace L2
open PySem PySem.Spec PyProof.Rows
/-- the module's facts, over the base: the heap at the law's entry without what is tracked there -/
structure Mod (K : PySem.W.Frag) (mg : Str → Option Value) (base : Heap) : Prop where
  kin : K.In base
  glob : base.Ns mainGlobals mg
  blt : ∃ mb, base.Ns builtinsNs mb ∧ ∀ x : Str, x ≠ "__name__" → mb x = bootBuiltins x
  nolimit : base.NoLimit
/-- the context: a def's body (or a comprehension's block) running. base: fixed through the whole law; s₀, H₀: the entry; outer: the frames whose slots others may change (a def's callers); stack: all frames that run;
   ex: iterators that were made ahead of the entry and are walked here (a comprehension's); fn: the names whose cells were made at the entry (a def: all; a comprehension's block: its own); calm: not within an except suite; pn: pins that every state bears; xe: what is wanted of an exception that leaves the code -/
structure Cx where
  prog : Program
  w : World
  K : PySem.W.Frag
  mg : Str → Option Value
  base : Heap
  A : Around
  N : List Str
  s_0 : Shared
  H_0 : Hp
  env : Env
  outer : List Env
  stack : List Env
  ex : List Addr
  fn : Str → Bool
  calm : Bool
  pn : List (Addr × Obj)
  xe : Value → Shared → Prop
/-- the callers' frames -/
def frs (l : List Env) : List Addr := l.filterMap (·.frame)
abbrev Cx.fs (X : Cx) : List Addr := frs X.outer
def Vis (sc : Scope) (x : Str) : Prop := sc.names.lookup x = some .local ∨ sc.names.lookup x = some .cell ∨ sc.names.lookup x = some .free
def Loc (sc : Scope) (x : Str) : Prop := sc.names.lookup x = some .local ∨ sc.names.lookup x = some .cell
def Look (env : Env) (h : Heap) (m : Str → Option Value) (x : Str) (u : Value) : Prop :=
  (env.kindOf x = some .local ∧ m x = some u) ∨ ((env.kindOf x = some .cell ∨ env.kindOf x = some .free) ∧ ∃ c, env.cells.lookup x = some c ∧ h.IsCell c (some u))
structure Cx.Ok (X : Cx) : Prop where
  mod : Mod X.K X.mg X.base
  kind : X.env.scope.kind = .function
  glob : X.env.globals = mainGlobals
  blt : X.env.builtins = builtinsNs
  above : X.s_0.heap.objs.size ≤ X.env.locals
  inj : ∀ x y c, X.env.cells.lookup x = some c → X.env.cells.lookup y = some c → x = y
  has : ∀ x, (X.env.kindOf x = some .cell ∨ X.env.kindOf x = some .free) → ∃ c, X.env.cells.lookup x = some c
  cab : ∀ x c, X.fn x = true → X.env.cells.lookup x = some c → X.s_0.heap.objs.size ≤ c
  hd : X.calm = true → X.A.handled = none
  frames : X.A.frames = some X.stack
  stk : X.stack = X.outer ∨ (X.stack = X.env :: X.outer ∧ X.env.frame = some X.env.locals)
  exf : ∀ b ∈ X.ex, b ≠ X.env.locals ∧ ∀ x c, X.env.cells.lookup x = some c → c ≠ b
  bs : ∀ b o, X.base.get? b = some o → X.s_0.heap.get? b = some o ∧ X.H_0 b = none
  bsz : X.base.objs.size ≤ X.s_0.heap.objs.size
  noex : ∀ b o, X.base.get? b = some o → b ∉ X.ex
  exfs : ∀ b ∈ X.ex, b ∉ X.fs
  funs : X.s_0.heap.FunFrames X.base X.outer
  frf : ∀ b ∈ X.fs, X.H_0 b = none
structure Inv (X : Cx) (pins : List (Addr × Obj)) (σ : List (Option V)) (H : Hp) (s : Shared) : Prop where
  ok : X.Ok
  os : s.os = X.s_0.os
  bare : AllBare s.gens
  base : Un X.fs X.ex X.H_0 H X.s_0.heap s.heap
  loc : ∃ m, s.heap.Ns X.env.locals m ∧ ∀ (i : Nat) (x : Str) (v : V), X.N[i]? = some x → σ[i]? = some (some v) → Vis X.env.scope x → ∃ u, RelV v u ∧ Look X.env s.heap m x u
  cell : ∀ x c, X.env.cells.lookup x = some c → ∃ v, s.heap.IsCell c v
  free : H X.env.locals = none
  freeC : ∀ x c, X.env.cells.lookup x = some c → H c = none
  pin : ∀ p ∈ X.pn ++ pins, s.heap.get? p.1 = some p.2 ∧ H p.1 = none ∧ p.1 ≠ X.env.locals ∧ p.1 ∉ X.fs ∧ ∀ v, p.2.data ≠ .cell v
  hok : HOk X.prog X.w H s.heap
  len : σ.length = X.N.length
section
variable {X : Cx} {pins : List (Addr × Obj)} {σ : List (Option V)} {H H' : Hp} {s : Shared} {h' : Heap}
theorem Cx.Ok.nofr (ok : X.Ok) {b : Addr} {o : Obj} (e : X.base.get? b = some o) : b ∉ X.fs := fun hb => by
  have := (ok.funs.mem hb).1
  rw [e] at this; cases this
theorem Inv.bs (I : Inv X pins σ H s) : ∀ b o, X.base.get? b = some o → s.heap.get? b = some o ∧ H b = none := fun b o e =>
  ⟨I.base.keep b o (I.ok.bs b o e).1 (I.ok.bs b o e).2 (I.ok.nofr e) (I.ok.noex b o e), I.base.free b o (I.ok.bs b o e).1 (I.ok.bs b o e).2 (I.ok.noex b o e)⟩
theorem Inv.bk (I : Inv X pins σ H s) : ∀ b o, X.base.get? b = some o → s.heap.get? b = some o := fun b o e => (I.bs b o e).1
theorem Inv.mod (I : Inv X pins σ H s) : Mod X.K X.mg X.base := I.ok.mod
theorem Inv.kIn (I : Inv X pins σ H s) : X.K.In s.heap := I.ok.mod.kin.keeps I.bk
theorem Inv.nolimit (I : Inv X pins σ H s) : s.heap.NoLimit := I.ok.mod.nolimit.keeps I.bk
theorem Inv.lt (I : Inv X pins σ H s) : X.env.locals < s.heap.objs.size := let ⟨_, hn, _⟩ := I.loc; hn.lt
theorem Inv.sz (I : Inv X pins σ H s) : X.s_0.heap.objs.size ≤ s.heap.objs.size := Nat.le_trans I.ok.above (Nat.le_of_lt I.lt)
theorem Inv.nofs (I : Inv X pins σ H s) {a : Addr} (h : s.heap.objs.size ≤ a) : a ∉ X.fs := fun hb => by
  obtain ⟨_, o, ho, _⟩ := I.ok.funs.mem hb
  exact absurd (Nat.lt_of_lt_of_le (Heap.lt_size ho) (Nat.le_trans I.sz h)) (Nat.lt_irrefl _)
theorem Inv.cne (I : Inv X pins σ H s) : ∀ x c, X.env.cells.lookup x = some c → c ≠ X.env.locals := fun x c e z => by
  obtain ⟨v, o, ho, hd⟩ := I.cell x c e
  obtain ⟨m, ⟨o', es, ep, ho', hd', _⟩, _⟩ := I.loc
  rw [z, ho'] at ho; cases ho; rw [hd'] at hd; cases hd
theorem Inv.funs (I : Inv X pins σ H s) : s.heap.FunFrames X.base X.outer := by
  have all : ∀ (l : List Env), (∀ b ∈ frs l, b ∈ X.fs) → X.s_0.heap.FunFrames X.base l → s.heap.FunFrames X.base l := by
    intro l
    induction l with
    | nil => intro _ _; trivial
    | cons env r ih =>
      intro hs hl
      obtain ⟨hk, ⟨L, o, hf, hn, ho, hd⟩, hr⟩ := hl
      have hL : L ∈ X.fs := hs L (by unfold frs; rw [List.filterMap_cons, hf]; exact List.mem_cons_self)
      obtain ⟨sl, e⟩ := I.base.slot L o ho (I.ok.frf L hL) hL fun z => I.ok.exfs L z hL
      exact ⟨hk, ⟨L, _, hf, hn, e, hd⟩, ih (fun b hb => hs b (by unfold frs; rw [List.filterMap_cons, hf]; exact List.mem_cons_of_mem _ hb)) hr⟩
  exact all X.outer (fun _ hb => hb) I.ok.funs
/-- the frames that run, for a call -/
theorem Inv.stack (I : Inv X pins σ H s) : s.heap.FunFrames X.base X.stack := by
  rcases I.ok.stk with e | ⟨e, hf⟩
  · rw [e]; exact I.funs
  · rw [e]
    obtain ⟨m, hn, _⟩ := I.loc
    refine .cons (by rw [I.ok.kind]; decide) hf hn ?_ I.funs
    exact Heap.get?_none_of_le (Nat.le_trans I.ok.bsz I.ok.above)
theorem Inv.stkSub (I : Inv X pins σ H s) : ∀ b ∈ frs X.stack, b ∈ X.env.locals :: X.fs := fun b hb => by
  rcases I.ok.stk with e | ⟨e, hf⟩
  · rw [e] at hb; exact List.mem_cons_of_mem _ hb
  · rw [e] at hb
    unfold frs at hb
    rw [List.filterMap_cons, hf] at hb
    exact hb
theorem Inv.stkFree (I : Inv X pins σ H s) : ∀ b ∈ frs X.stack, H b = none := fun b hb => by
  rcases List.mem_cons.mp (I.stkSub b hb) with e | hb
  · rw [e]; exact I.free
  · obtain ⟨_, o, ho, _⟩ := I.ok.funs.mem hb
    exact I.base.free b o ho (I.ok.frf b hb) fun z => I.ok.exfs b z hb
/-- THE STEP: the untracked objects but the frame and the records at ch are kept (the callers' frames up to slots), the frame's map is kept, the new abstract heap is held -/
theorem Inv.step {g' : Array GenState} {t' : Nat} {d' : Drawn} {ch : List Addr} (I : Inv X pins σ H s)
    (hch : ∀ b ∈ ch, (b ∈ X.ex ∨ X.s_0.heap.objs.size ≤ b) ∧ b ≠ X.env.locals ∧ (∀ x c, X.env.cells.lookup x = some c → c ≠ b) ∧ ∀ p ∈ X.pn ++ pins, p.1 ≠ b)
    (keep : ∀ b o, b ≠ X.env.locals → b ∉ X.fs → b ∉ ch → s.heap.get? b = some o → H b = none → h'.get? b = some o)
    (slot : ∀ b o, b ≠ X.env.locals → b ∈ X.fs → b ∉ ch → s.heap.get? b = some o → H b = none → ∃ sl, h'.get? b = some { o with slots := sl }) (free : ∀ b o, b ∉ ch → s.heap.get? b = some o → H b = none → H' b = none)
    (there : ∀ b o, b ∉ ch → s.heap.get? b = some o → ∃ o', h'.get? b = some o')
    (tups : ∀ b xs, H b = some (.tup xs) → H' b = some (.tup xs)) (frzs : ∀ b o u, H b = some (.frz o u) → H' b = some (.frz o u)) (tbls : ∀ b ps, H b = some (.tbl ps) → ∃ more, H' b = some (.tbl (ps ++ more)))
    (ns : ∀ m, s.heap.Ns X.env.locals m → h'.Ns X.env.locals m) (hok : HOk X.prog X.w H' h') (hg : AllBare g') :
    Inv X pins σ H' { s with heap := h', gens := g', drawn := d', toks := t' } := by
  have neL : ∀ b o, X.s_0.heap.get? b = some o → b ≠ X.env.locals := fun b o e => Nat.ne_of_lt (Nat.lt_of_lt_of_le (Heap.lt_size e) I.ok.above)
  have neC : ∀ b o, X.s_0.heap.get? b = some o → b ∉ X.ex → b ∉ ch := fun b o e hx hb => by
    rcases (hch b hb).1 with z | z
    · exact hx z
    · exact absurd (Nat.lt_of_lt_of_le (Heap.lt_size e) z) (Nat.lt_irrefl _)
  have cellK : ∀ x c, X.env.cells.lookup x = some c → ∀ v, s.heap.IsCell c v → h'.IsCell c v := fun x c e v ⟨o, ho, hd⟩ => by
    have nch : c ∉ ch := fun z => (hch c z).2.2.1 x c e rfl
    by_cases hc : c ∈ X.fs
    · obtain ⟨sl, q⟩ := slot c o (I.cne x c e) hc nch ho (I.freeC x c e)
      exact ⟨_, q, hd⟩
    · exact ⟨o, keep c o (I.cne x c e) hc nch ho (I.freeC x c e), hd⟩
  refine ⟨I.ok, I.os, hg, ⟨fun b o e n hb hx => ?_, fun b o e n hb hx => ?_, fun b o e n hx => ?_, fun b o e hx => ?_, fun b xs e => tups b xs (I.base.tups b xs e), fun b o xs e => frzs b o xs (I.base.frzs b o xs e), fun b ps e => ?_⟩, ?_, fun x c e => ?_, ?_, fun x c e => ?_, fun p hp => ?_, hok, I.len⟩
  · exact keep b o (neL b o e) hb (neC b o e hx) (I.base.keep b o e n hb hx) (I.base.free b o e n hx)
  · obtain ⟨sl, e1⟩ := I.base.slot b o e n hb hx
    obtain ⟨sl', e2⟩ := slot b _ (neL b o e) hb (neC b o e hx) e1 (I.base.free b o e n hx)
    exact ⟨sl', e2⟩
  · obtain ⟨o', e1⟩ := I.base.there b o e hx
    exact free b o' (neC b o e hx) e1 (I.base.free b o e n hx)
  · obtain ⟨o', e1⟩ := I.base.there b o e hx
    exact there b o' (neC b o e hx) e1
  · obtain ⟨m1, e1⟩ := I.base.tbls b ps e
    obtain ⟨m2, e2⟩ := tbls b _ e1
    exact ⟨m1 ++ m2, by rw [e2, Array.append_assoc]⟩
  · obtain ⟨m, hn, hl⟩ := I.loc
    refine ⟨m, ns m hn, fun i x v e1 e2 e3 => ?_⟩
    obtain ⟨u, r, l⟩ := hl i x v e1 e2 e3
    refine ⟨u, r, ?_⟩
    rcases l with l | ⟨k, c, e, z⟩
    · exact .inl l
    · exact .inr ⟨k, c, e, cellK x c e _ z⟩
  · obtain ⟨v, z⟩ := I.cell x c e
    exact ⟨v, cellK x c e v z⟩
  · obtain ⟨m, ⟨o, _, _, ho, _⟩, _⟩ := I.loc
    exact free _ o (fun z => (hch _ z).2.1 rfl) ho I.free
  · obtain ⟨v, o, ho, hd⟩ := I.cell x c e
    exact free c o (fun z => (hch c z).2.2.1 x c e rfl) ho (I.freeC x c e)
  · obtain ⟨e, n, ne, nf, d⟩ := I.pin p hp
    have nch : p.1 ∉ ch := fun z => (hch p.1 z).2.2.2 p hp rfl
    exact ⟨keep p.1 p.2 ne nf nch e n, free p.1 p.2 nch e n, ne, nf, d⟩
/-- .. where the frame's own object is kept too -/
theorem Inv.un {t' : Nat} (I : Inv X pins σ H s) (u : Un X.fs [] H H' s.heap h') (hok : HOk X.prog X.w H' h') : Inv X pins σ H' { s with heap := h', toks := t' } := by
  obtain ⟨m, ⟨o, es, ep, ho, r⟩, _⟩ := id I.loc
  obtain ⟨sl, hL⟩ := u.any ho I.free (by simp)
  exact I.step (g' := s.gens) (d' := s.drawn) (ch := []) (fun _ z => nomatch z) (fun b o _ hb _ e n => u.keep b o e n hb (by simp)) (fun b o _ hb _ e n => u.slot b o e n hb (by simp)) (fun b o _ e n => u.free b o e n (by simp)) (fun b o _ e => u.there b o e (by simp)) u.tups u.frzs u.tbls (fun m' hm => by
    obtain ⟨o', es', ep', ho', r'⟩ := hm
    rw [ho] at ho'; cases ho'
    exact ⟨_, es', ep', hL, r'⟩) hok I.bare
/-- behind a call (or a comprehension's block): the slots of this frame may have changed too, the records at ch may have turned -/
theorem Inv.call {g' : Array GenState} {t' : Nat} {d' : Drawn} {ch : List Addr} (I : Inv X pins σ H s) (u : Un (frs X.stack) ch H H' s.heap h') (hok : HOk X.prog X.w H' h') (hg : AllBare g')
    (hch : ∀ b ∈ ch, (b ∈ X.ex ∨ X.s_0.heap.objs.size ≤ b) ∧ b ≠ X.env.locals ∧ (∀ x c, X.env.cells.lookup x = some c → c ≠ b) ∧ ∀ p ∈ X.pn ++ pins, p.1 ≠ b) :
    Inv X pins σ H' { s with heap := h', gens := g', drawn := d', toks := t' } := by
  obtain ⟨m, ⟨o, es, ep, ho, r⟩, _⟩ := id I.loc
  obtain ⟨sl, hL⟩ := u.any ho I.free fun z => (hch _ z).2.1 rfl
  exact I.step (ch := ch) hch (fun b o hL hb hc e n => u.keep b o e n (fun z => (List.mem_cons.mp (I.stkSub b z)).elim hL hb) hc) (fun b o _ _ hc e n => u.any e n hc) (fun b o hc e n => u.free b o e n hc) (fun b o hc e => u.there b o e hc) u.tups u.frzs u.tbls (fun m' hm => by
    obtain ⟨o', es', ep', ho', r'⟩ := hm
    rw [ho] at ho'; cases ho'
    exact ⟨_, es', ep', hL, r'⟩) hok hg
/-- an untracked record of ours (an iterator) has turned -/
theorem Inv.turned {t' : Nat} {it : Addr} (I : Inv X pins σ H s) (k : ∀ b o, b ≠ it → s.heap.get? b = some o → h'.get? b = some o) (hn : H it = none) (hL : it ≠ X.env.locals)
    (h1 : it ∈ X.ex ∨ X.s_0.heap.objs.size ≤ it) (h2 : ∀ x c, X.env.cells.lookup x = some c → c ≠ it) (h3 : ∀ p ∈ X.pn ++ pins, p.1 ≠ it) : Inv X pins σ H { s with heap := h', toks := t' } := by
  have nit : ∀ b u, H b = some u → b ≠ it := fun b u e z => by rw [z, hn] at e; cases e
  refine I.step (g' := s.gens) (d' := s.drawn) (ch := [it]) (fun b hb => ?_) (fun b o _ _ hc e _ => k b o (fun z => hc (by simp [z])) e) (fun b o _ _ hc e _ => ⟨o.slots, k b o (fun z => hc (by simp [z])) e⟩) (fun _ _ _ _ n => n)
    (fun b o hc e => ⟨o, k b o (fun z => hc (by simp [z])) e⟩) (fun _ _ e => e) (fun _ _ _ e => e) (fun b ps e => ⟨#[], by rw [e]; simp⟩) (fun m hm => ?_) (fun b u e => ?_) I.bare
  · have e : b = it := by simpa using hb
    subst e
    exact ⟨h1, hL, h2, h3⟩
  · obtain ⟨o, es, ep, ho, r⟩ := hm
    exact ⟨o, es, ep, k _ o (Ne.symm hL) ho, r⟩
  · refine (I.hok b u e).stay (fun c v hc q => k c v ?_ q) (fun _ q => q) fun _ _ q => q
    rcases hc with z | z
    · rw [z]; exact nit b u e
    · exact nit c _ z
theorem Inv.tok (I : Inv X pins σ H s) (t : Nat) : Inv X pins σ H { s with toks := t } := I.un (h' := s.heap) (t' := t) Un.refl I.hok
/-- all objects kept -/
theorem Inv.kept {t' : Nat} (I : Inv X pins σ H s) (k : ∀ b u, s.heap.get? b = some u → h'.get? b = some u) : Inv X pins σ H { s with heap := h', toks := t' } := I.un (Un.kept k) (I.hok.kept k)
/-- a new object laid and tracked -/
theorem Inv.laid {a : Addr} {o : HO} {t' : Nat} (I : Inv X pins σ H s) (k : ∀ b u, s.heap.get? b = some u → h'.get? b = some u) (hp : s.heap.objs.size ≤ a) (new : ObjOk X.prog X.w (upd H a o) h' a o) :
    Inv X pins σ (upd H a o) { s with heap := h', toks := t' } := I.un (Un.laid k hp (I.hok.fresh hp)) (I.hok.laid k hp new)
/-- an object written -/
theorem Inv.write {x e : Addr} {o : HO} {t' : Nat} (I : Inv X pins σ H s) (mu : Mut (H x)) (he : e = x ∨ H e = some (.own x)) (k : ∀ b u, b ≠ e → s.heap.get? b = some u → h'.get? b = some u) (heo : ∃ u, h'.get? e = some u)
    (new : ObjOk X.prog X.w (upd H x o) h' x o) : Inv X pins σ (upd H x o) { s with heap := h', toks := t' } := I.un (Un.write mu he k heo) (I.hok.write mu he k heo new)
/-- forgetting slots, pins -/
theorem Inv.weak {σ' : List (Option V)} (I : Inv X pins σ H s) (hl : σ'.length = σ.length) (w : ∀ (i : Nat) v, σ'[i]? = some (some v) → σ[i]? = some (some v)) : Inv X pins σ' H s :=
  ⟨I.ok, I.os, I.bare, I.base, let ⟨m, hn, hl'⟩ := I.loc; ⟨m, hn, fun i x v e1 e2 e3 => hl' i x v e1 (w i v e2) e3⟩, I.cell, I.free, I.freeC, I.pin, I.hok, hl.trans I.len⟩
theorem Inv.pins_of {pins' : List (Addr × Obj)} (I : Inv X pins σ H s) (h : ∀ p ∈ pins', s.heap.get? p.1 = some p.2 ∧ H p.1 = none ∧ p.1 ≠ X.env.locals ∧ p.1 ∉ X.fs ∧ ∀ v, p.2.data ≠ .cell v) : Inv X pins' σ H s :=
  ⟨I.ok, I.os, I.bare, I.base, I.loc, I.cell, I.free, I.freeC, fun p hp => (List.mem_append.mp hp).elim (fun z => I.pin p (List.mem_append_left _ z)) (h p), I.hok, I.len⟩
theorem nodup_ix {N : List Str} (hN : N.Nodup) {i j : Nat} {x : Str} (a : N[i]? = some x) (b : N[j]? = some x) : i = j := by
  obtain ⟨h1, e1⟩ := List.getElem?_eq_some_iff.mp a
  obtain ⟨h2, e2⟩ := List.getElem?_eq_some_iff.mp b
  exact (List.getElem_inj hN).mp (e1.trans e2.symm)
/-- a name is stored; what changed -/
theorem store_ok2 {M : Model} {A : Around} {E : Value → Shared → Prop} {i : Nat} {x : Str} {v : V} {u : Value} {Q : Unit → Shared → Prop} (I : Inv X pins σ H s) (hN : X.N.Nodup) (hi : X.N[i]? = some x) (hx : Loc X.env.scope x) (r : RelV v u)
    (h : ∀ s', Inv X pins (σ.set i (some v)) H s' → (∃ a, Heap.SameBut a s.heap s'.heap ∧ (a = X.env.locals ∨ X.env.cells.lookup x = some a)) → Q () s') (hf : X.fn x = true ∨ X.env.scope.names.lookup x = some .local := by first | exact .inl rfl | exact .inr rfl | assumption) : wpAny M A (storeName X.env x u) Q E s := by
  obtain ⟨m, hn, hl⟩ := id I.loc
  have hcls : (X.env.scope.kind == .class || (X.env.scope.kind == .module && X.env.locals != X.env.globals)) = false := by rw [I.ok.kind]; rfl
  have hiσ : i < σ.length := by rw [I.len]; exact (List.getElem?_eq_some_iff.mp hi).1
  have cne := I.cne
  have tracked : ∀ {a : Addr} {h' : Heap}, (∃ o, s.heap.get? a = some o ∧ H a = none) → Heap.SameBut a s.heap h' → HOk X.prog X.w H h' := fun {a h'} ha hs b ob e => by
    obtain ⟨_, _, hfree⟩ := ha
    refine (I.hok b ob e).stay (fun c w' hc q => (hs.2 c ?_).trans q) (fun _ q => q) fun _ _ q => q
    rintro rfl
    rcases hc with rfl | hc
    · rw [hfree] at e; cases e
    · rw [hfree] at hc; cases hc
  rcases hx with hk | hk
  · refine wpAny_storeName_local hk hn (fun h' hn' hs => ?_) hcls
    obtain ⟨oL, _, _, hoL, _⟩ := id hn
    refine h _ ⟨I.ok, I.os, I.bare, ⟨fun b o e n hb hx => ?_, fun b o e n hb hx => ?_, I.base.free, fun b o e hx => ?_, I.base.tups, I.base.frzs, I.base.tbls⟩, ⟨_, hn', fun j y v' e1 e2 e3 => ?_⟩, fun y c e => ?_, I.free, I.freeC, fun p hp => ?_, tracked ⟨oL, hoL, I.free⟩ hs, by simpa using I.len⟩ ⟨_, hs, .inl rfl⟩
    · exact (hs.2 b (Nat.ne_of_lt (Nat.lt_of_lt_of_le (Heap.lt_size e) I.ok.above))).trans (I.base.keep b o e n hb hx)
    · obtain ⟨sl, e1⟩ := I.base.slot b o e n hb hx
      exact ⟨sl, (hs.2 b (Nat.ne_of_lt (Nat.lt_of_lt_of_le (Heap.lt_size e) I.ok.above))).trans e1⟩
    · obtain ⟨o', e1⟩ := I.base.there b o e hx
      exact ⟨o', (hs.2 b (Nat.ne_of_lt (Nat.lt_of_lt_of_le (Heap.lt_size e) I.ok.above))).trans e1⟩
    · by_cases hj : j = i
      · subst hj
        rw [hi] at e1; cases e1
        rw [List.getElem?_set_self hiσ] at e2
        cases e2
        exact ⟨u, r, .inl ⟨hk, by simp⟩⟩
      · rw [List.getElem?_set_ne (Ne.symm hj)] at e2
        obtain ⟨u', r', q⟩ := hl j y v' e1 e2 e3
        refine ⟨u', r', ?_⟩
        rcases q with ⟨k, e⟩ | ⟨k, c, e, z⟩
        · refine .inl ⟨k, ?_⟩
          have : y ≠ x := fun e => hj (nodup_ix hN e1 (e ▸ hi))
          simp [this, e]
        · exact .inr ⟨k, c, e, z.sameBut hs (cne y c e)⟩
    · obtain ⟨w', z⟩ := I.cell y c e
      exact ⟨w', z.sameBut hs (cne y c e)⟩
    · obtain ⟨e, n, ne, nf, d⟩ := I.pin p hp
      exact ⟨(hs.2 p.1 ne).trans e, n, ne, nf, d⟩
  · have hfn : X.fn x = true := by
      rcases hf with z | z
      · exact z
      · rw [z] at hk; cases hk
    obtain ⟨c, hc⟩ := I.ok.has x (.inl hk)
    obtain ⟨w', z⟩ := I.cell x c hc
    refine wpAny_storeName_cell I.ok.kind hk hc z (fun h' hc' hs => ?_)
    obtain ⟨oc, hoc, hocd⟩ := id z
    refine h { s with heap := h' } ⟨I.ok, I.os, I.bare, ⟨fun b o e n hb hx => ?_, fun b o e n hb hx => ?_, I.base.free, fun b o e hx => ?_, I.base.tups, I.base.frzs, I.base.tbls⟩, ⟨m, hn.sameBut hs (Ne.symm (cne x c hc)), fun j y v' e1 e2 e3 => ?_⟩, fun y c' e => ?_, I.free, I.freeC, fun p hp => ?_, tracked ⟨oc, hoc, I.freeC x c hc⟩ hs, by simpa using I.len⟩ ⟨c, hs, .inr hc⟩
    · exact (hs.2 b (Nat.ne_of_lt (Nat.lt_of_lt_of_le (Heap.lt_size e) (I.ok.cab x c hfn hc)))).trans (I.base.keep b o e n hb hx)
    · obtain ⟨sl, e1⟩ := I.base.slot b o e n hb hx
      exact ⟨sl, (hs.2 b (Nat.ne_of_lt (Nat.lt_of_lt_of_le (Heap.lt_size e) (I.ok.cab x c hfn hc)))).trans e1⟩
    · obtain ⟨o', e1⟩ := I.base.there b o e hx
      exact ⟨o', (hs.2 b (Nat.ne_of_lt (Nat.lt_of_lt_of_le (Heap.lt_size e) (I.ok.cab x c hfn hc)))).trans e1⟩
    · by_cases hj : j = i
      · subst hj
        rw [hi] at e1; cases e1
        rw [List.getElem?_set_self hiσ] at e2
        cases e2
        exact ⟨u, r, .inr ⟨.inl hk, c, hc, hc'⟩⟩
      · rw [List.getElem?_set_ne (Ne.symm hj)] at e2
        obtain ⟨u', r', q⟩ := hl j y v' e1 e2 e3
        refine ⟨u', r', ?_⟩
        rcases q with q | ⟨k, c', e, z'⟩
        · exact .inl q
        · refine .inr ⟨k, c', e, z'.sameBut hs ?_⟩
          rintro rfl
          exact hj (nodup_ix hN e1 (I.ok.inj _ _ _ e hc ▸ hi))
    · by_cases hcc : c' = c
      · subst hcc; exact ⟨_, hc'⟩
      · obtain ⟨w2, z2⟩ := I.cell y c' e
        exact ⟨w2, z2.sameBut hs hcc⟩
    · obtain ⟨e, n, ne, nf, d⟩ := I.pin p hp
      refine ⟨(hs.2 p.1 ?_).trans e, n, ne, nf, d⟩
      intro q
      rw [q, hoc] at e
      have q' : oc = p.2 := Option.some.inj e
      exact d w' (by rw [← q']; exact hocd)
theorem store_ok {M : Model} {A : Around} {E : Value → Shared → Prop} {i : Nat} {x : Str} {v : V} {u : Value} {Q : Unit → Shared → Prop} (I : Inv X pins σ H s) (hN : X.N.Nodup) (hi : X.N[i]? = some x) (hx : Loc X.env.scope x) (r : RelV v u)
    (h : ∀ s', Inv X pins (σ.set i (some v)) H s' → Q () s') (hf : X.fn x = true ∨ X.env.scope.names.lookup x = some .local := by first | exact .inl rfl | exact .inr rfl | assumption) : wpAny M A (storeName X.env x u) Q E s :=
  store_ok2 I hN hi hx r (fun s' I' _ => h s' I') hf
/-- behind a call or a block, the state as it is -/
theorem Inv.call' {s' : Shared} {ch : List Addr} (I : Inv X pins σ H s) (ho : s'.os = s.os) (u : Un (frs X.stack) ch H H' s.heap s'.heap) (hok : HOk X.prog X.w H' s'.heap) (hg : AllBare s'.gens)
    (hch : ∀ b ∈ ch, (b ∈ X.ex ∨ X.s_0.heap.objs.size ≤ b) ∧ b ≠ X.env.locals ∧ (∀ x c, X.env.cells.lookup x = some c → c ≠ b) ∧ ∀ p ∈ X.pn ++ pins, p.1 ≠ b) : Inv X pins σ H' s' := by
  obtain ⟨h', g', d', t', o'⟩ := s'
  have e : o' = s.os := ho
  subst e
  exact I.call (g' := g') (t' := t') (d' := d') u hok hg hch
end
/-! ### the judgements -/
/-- an exception: its class, its own dict's address (where it has one), the abstract heap behind it -/
abbrev XK := Value → Option Addr → Hp → Prop
abbrev St := List (Option V)
abbrev VK := V → Hp → Prop
/-- an expression's reading; a test's; an argument list's -/
abbrev TE := St → Hp → VK → Prop
abbrev TT := St → Hp → (Bool → Hp → Prop) → Prop
abbrev TA := St → Hp → (List V → Hp → Prop) → Prop
/-- what is wanted behind a statement -/
structure Ends where
  nx : St → Hp → Prop
  rt : VK
  bk : St → Hp → Prop := fun _ _ => False
  ct : St → Hp → Prop := fun _ _ => False
abbrev TS := Ends → St → Hp → Prop
def EP (X : Cx) (pins : List (Addr × Obj)) (σ : St) (Q : VK) (u : Value) (s' : Shared) : Prop := ∃ v H', Inv X pins σ H' s' ∧ RelV v u ∧ Q v H'
def TP (X : Cx) (pins : List (Addr × Obj)) (σ : St) (Q : Bool → Hp → Prop) (b : Bool) (s' : Shared) : Prop := ∃ H', Inv X pins σ H' s' ∧ Q b H'
def AP (X : Cx) (pins : List (Addr × Obj)) (σ : St) (Q : List V → Hp → Prop) (us : List Value) (s' : Shared) : Prop := ∃ vs H', Inv X pins σ H' s' ∧ Vals vs us ∧ Q vs H'
def SP (X : Cx) (pins : List (Addr × Obj)) (D : Ends) (f : Flow) (s' : Shared) : Prop :=
  match f with
  | .next => ∃ σ' H', Inv X pins σ' H' s' ∧ D.nx σ' H'
  | .brk => ∃ σ' H', Inv X pins σ' H' s' ∧ D.bk σ' H'
  | .cont => ∃ σ' H', Inv X pins σ' H' s' ∧ D.ct σ' H'
  | .ret u => ∃ v σ' H', Inv X pins σ' H' s' ∧ RelV v u ∧ D.rt v H'
def PE (X : Cx) (e : Expr) (t : TE) : Prop :=
  ∀ (pins : List (Addr × Obj)) (s : Shared) (σ : St) (H : Hp) (Q : VK), Inv X pins σ H s → t σ H Q → wpAny (model X.prog X.w) X.A (eval e X.env) (EP X pins σ Q) X.xe s
def PT (X : Cx) (e : Expr) (t : TT) : Prop :=
  ∀ (pins : List (Addr × Obj)) (s : Shared) (σ : St) (H : Hp) (Q : Bool → Hp → Prop), Inv X pins σ H s → t σ H Q → wpAny (model X.prog X.w) X.A (isTrue e X.env (eval e X.env)) (TP X pins σ Q) X.xe s
/-- a test whatever its 'whole' is (and, or) -/
def PW (X : Cx) (e : Expr) (t : TT) : Prop :=
  ∀ (whole : Sem Value) (pins : List (Addr × Obj)) (s : Shared) (σ : St) (H : Hp) (Q : Bool → Hp → Prop), Inv X pins σ H s → t σ H Q → wpAny (model X.prog X.w) X.A (isTrue e X.env whole) (TP X pins σ Q) X.xe s
theorem PW.pt {X : Cx} {e : Expr} {t : TT} (h : PW X e t) : PT X e t := h _
/-- an argument list (no star), from the left -/
def PA (X : Cx) (es : List Expr) (t : TA) : Prop :=
  ∀ (pos : Pos) (pins : List (Addr × Obj)) (s : Shared) (σ : St) (H : Hp) (Q : List V → Hp → Prop), Inv X pins σ H s → t σ H Q → wpAny (model X.prog X.w) X.A (spliced (backTo pos (starEach es X.env))) (AP X pins σ Q) X.xe s
def PS (X : Cx) (st : Stmt) (t : TS) : Prop :=
  ∀ (pins : List (Addr × Obj)) (s : Shared) (σ : St) (H : Hp) (D : Ends), Inv X pins σ H s → t D σ H → wpAny (model X.prog X.w) X.A (exec st X.env) (SP X pins D) X.xe s
def PSs (X : Cx) (st : List Stmt) (t : TS) : Prop :=
  ∀ (pins : List (Addr × Obj)) (s : Shared) (σ : St) (H : Hp) (D : Ends), Inv X pins σ H s → t D σ H → wpAny (model X.prog X.w) X.A (execs st X.env) (SP X pins D) X.xe s
/-- weaken the end -/
theorem thn {α : Type} {t : Sem α} {Q Q' : α → Shared → Prop} {M : Model} {A : Around} {E : Value → Shared → Prop} {s : Shared} (h : wpAny M A t Q E s) (hQ : ∀ a s, Q a s → Q' a s) : wpAny M A t Q' E s := wpAny_mono h hQ fun _ _ x => x
end L2
namespace L2
open PySem PySem.Spec PyProof.Rows
section
variable {X : Cx}
/-! ### names and constants -/
def tVar (i : Nat) : TE := fun σ H Q => ∃ v, σ[i]? = some (some v) ∧ Q v H
def tC (v : V) : TE := fun _ H Q => Q v H
theorem pe_var {i : Nat} {x : Str} {pos : Pos} (hN : X.N[i]? = some x) (hv : Vis X.env.scope x) (hd : (x == ("__debug__" : Str)) = false := by decide) (hcd : (x == ("__classdict__" : Str)) = false := by decide) : PE X (.Name x pos) (tVar i) := by
  intro pins s σ H Q I h
  obtain ⟨v, e, h⟩ := h
  obtain ⟨m, hn, hl⟩ := I.loc
  obtain ⟨u, r, l⟩ := hl i x v hN e hv
  have fin : EP X pins σ Q u s := ⟨v, H, I, r, h⟩
  rcases l with ⟨hk, hm⟩ | ⟨hk, c, hc, hcell⟩
  · exact wpAny_Name (wpAny_loadName_local I.ok.kind hk hn hm fin) hd
  · rcases hk with hk | hk
    · exact wpAny_Name (wpAny_loadName_cell I.ok.kind hk hc hcell fin) hd
    · exact wpAny_Name (wpAny_loadName_free I.ok.kind hk hc hcell fin hcd) hd
theorem pe_int {i j pos} : PE X (.Constant (.int i) j pos) (tC (.int i)) := fun _ _ _ H _ I h => wpAny_Constant_int ⟨.int i, H, I.tok _, ⟨_, rfl⟩, h⟩
theorem pe_bl {b j pos} : PE X (.Constant (.bool b) j pos) (tC (.bl b)) := fun _ _ _ H _ I h => Constant_bool ⟨.bl b, H, I, rfl, h⟩
/-- a global name of the def -/
def Gl (X : Cx) (x : Str) : Prop := X.env.kindOf x = some .globalImplicit
theorem ld_glob {E : Value → Shared → Prop} {pins : List (Addr × Obj)} {s : Shared} {σ : St} {H : Hp} {x : Str} {u : Value} {pos : Pos} {Q : Value → Shared → Prop} (I : Inv X pins σ H s) (hg : Gl X x) (hm : X.mg x = some u) (h : Q u s)
    (hd : (x == ("__debug__" : Str)) = false := by decide) : wpAny (model X.prog X.w) X.A (eval (.Name x pos) X.env) Q E s :=
  Calls.Name_function_global I.ok.kind hg (Calls.loadGlobal_global (by rw [I.ok.glob]; exact I.mod.glob.keeps I.bk) hm h) hd
theorem ld_blt {E : Value → Shared → Prop} {pins : List (Addr × Obj)} {s : Shared} {σ : St} {H : Hp} {x : Str} {u : Value} {pos : Pos} {Q : Value → Shared → Prop} (I : Inv X pins σ H s) (hg : Gl X x) (hm : X.mg x = none) (hv : bootBuiltins x = some u) (h : Q u s)
    (hn : x ≠ "__name__" := by decide) (hd : (x == ("__debug__" : Str)) = false := by decide) : wpAny (model X.prog X.w) X.A (eval (.Name x pos) X.env) Q E s := by
  obtain ⟨mb, h1, h2⟩ := I.mod.blt
  exact Calls.Name_function_global I.ok.kind hg (Calls.loadGlobal_builtin (by rw [I.ok.glob]; exact I.mod.glob.keeps I.bk) hm (by rw [I.ok.blt]; exact h1.keeps I.bk) ((h2 x hn).trans hv) h) hd
/-- a module's constant, a class, a function, as a value -/
theorem pe_glob {x : Str} {v : V} {u : Value} {pos : Pos} (hg : Gl X x) (hm : X.mg x = some u) (r : RelV v u) (hd : (x == ("__debug__" : Str)) = false := by decide) : PE X (.Name x pos) (tC v) :=
  fun _ _ _ H _ I h => ld_glob I hg hm ⟨v, H, I, r, h⟩ hd
/-! ### arithmetic -/
variable {a b : Expr} {ta tb : TE} {pos : Pos}
/-! ### comparisons -/
/-- a comparison as a value, as a test -/
def tB (t : TE) : TT := fun σ H Q => t σ H fun x H1 => ∃ c, x = .bl c ∧ Q c H1
/-- an expression whose value is a bool, as a test -/
theorem pt_val {e : Expr} {t : TE} (h : PE X e t) (he : ∀ whole, isTrue e X.env whole = (do let v ← whole; standAt e.pos; holding [v] (truthy v)) := by intro _; rfl) : PT X e (tB t) := by
  intro pins s σ H Q I hw
  refine isTrue_plain (thn (h pins s σ H _ I hw) fun v s1 ⟨x, H1, I1, r1, q1⟩ => ?_) (he _)
  obtain ⟨d, rfl, q⟩ := q1
  cases r1
  exact wpAny_truthy_bool ⟨H1, I1, q⟩
/-! ### and, or, not -/
variable {tA tB' : TT} {rest : List Expr}
def tAnd (t u : TT) : TT := fun σ H Q => t σ H fun c H1 => if c = true then u σ H1 Q else Q false H1
def tOr (t u : TT) : TT := fun σ H Q => t σ H fun c H1 => if c = true then Q true H1 else u σ H1 Q
def tNot (t : TT) : TT := fun σ H Q => t σ H fun c H1 => Q (!c) H1
theorem pw_and1 (ha : PT X a tA) : PW X (.BoolOp .And [a] pos) tA := by
  intro wh pins s σ H Q I h
  refine isTrue_and (thn (ha pins s σ H Q I h) fun c s1 e => ?_)
  cases c with
  | true => exact isTrue_and_nil e
  | false => exact e
theorem pw_or1 (ha : PT X a tA) : PW X (.BoolOp .Or [a] pos) tA := by
  intro wh pins s σ H Q I h
  refine isTrue_or (thn (ha pins s σ H Q I h) fun c s1 e => ?_)
  cases c with
  | false => exact isTrue_or_nil e
  | true => exact e
theorem pw_and (ha : PT X a tA) (hb : PW X (.BoolOp .And (b :: rest) pos) tB') : PW X (.BoolOp .And (a :: b :: rest) pos) (tAnd tA tB') := by
  intro wh pins s σ H Q I h
  refine isTrue_and (thn (ha pins s σ H _ I h) fun c s1 ⟨H1, I1, q1⟩ => ?_)
  cases c with
  | true => exact hb wh pins s1 σ H1 Q I1 q1
  | false => exact ⟨H1, I1, q1⟩
theorem pw_or (ha : PT X a tA) (hb : PW X (.BoolOp .Or (b :: rest) pos) tB') : PW X (.BoolOp .Or (a :: b :: rest) pos) (tOr tA tB') := by
  intro wh pins s σ H Q I h
  refine isTrue_or (thn (ha pins s σ H _ I h) fun c s1 ⟨H1, I1, q1⟩ => ?_)
  cases c with
  | true => exact ⟨H1, I1, q1⟩
  | false => exact hb wh pins s1 σ H1 Q I1 q1
theorem pt_not (ha : PT X a tA) : PT X (.UnaryOp .Not a pos) (tNot tA) := by
  intro pins s σ H Q I h
  exact isTrue_not (ha pins s σ H (fun c H1 => Q (!c) H1) I h)
/-- .. as values (bools) -/
def tAndV (ta tb : TE) : TE := fun σ H Q => ta σ H fun x H1 => ∃ c, x = .bl c ∧ if c = true then tb σ H1 Q else Q (.bl false) H1
def tOrV (ta tb : TE) : TE := fun σ H Q => ta σ H fun x H1 => ∃ c, x = .bl c ∧ if c = true then Q (.bl true) H1 else tb σ H1 Q
def tNotV (ta : TE) : TE := fun σ H Q => ta σ H fun x H1 => ∃ c, x = .bl c ∧ Q (.bl (!c)) H1
theorem pe_one {op} {t : TE} (h : PE X a t) : PE X (.BoolOp op [a] pos) t := fun pins s σ H Q I hw => BoolOp_one (h pins s σ H Q I hw)
theorem pe_and (ha : PE X a ta) (hb : PE X (.BoolOp .And (b :: rest) pos) tb) : PE X (.BoolOp .And (a :: b :: rest) pos) (tAndV ta tb) := by
  intro pins s σ H Q I h
  refine BoolOp_and (thn (ha pins s σ H _ I h) fun v s1 ⟨x, H1, I1, r1, q1⟩ => ?_)
  obtain ⟨c, rfl, q1⟩ := q1
  cases r1
  refine wpAny_truthy_bool ?_
  cases c with
  | true => exact hb pins s1 σ H1 Q I1 q1
  | false => exact ⟨.bl false, H1, I1, rfl, q1⟩
/-- a if t else b -/
def tIf (t : TT) (ta tb : TE) : TE := fun σ H Q => t σ H fun c H1 => if c = true then ta σ H1 Q else tb σ H1 Q
theorem pe_ifExp {c : Expr} (hc : PT X c tA) (ha : PE X a ta) (hb : PE X b tb) : PE X (.IfExp c a b pos) (tIf tA ta tb) := by
  intro pins s σ H Q I h
  refine wpAny_IfExp (thn (hc pins s σ H _ I h) fun d s1 ⟨H1, I1, q1⟩ => ?_)
  cases d with
  | true => exact ha pins s1 σ H1 Q I1 q1
  | false => exact hb pins s1 σ H1 Q I1 q1
end
end L2
namespace L2
open PySem PySem.Spec PyProof.Rows
/-! ### a list, a tuple that is read: tracked, frozen, or an object of the module -/
def SqL (K : PySem.W.Frag) (H : Hp) (a : Addr) (xs : List V) : Prop :=
  Rd H a (.lst xs) ∨
    ∃ (o : Obj) (its : Array Value) (n : Nat), K.lookup a = some o ∧ o.cls = .type "list" ∧ o.dict = none ∧ o.data = .seq its n ∧ its.size ≤ sizeLine ∧ Vals xs its.toList
def SqT (K : PySem.W.Frag) (H : Hp) (a : Addr) (xs : List V) : Prop :=
  Rd H a (.tup xs) ∨
    ∃ (o : Obj) (its : Array Value) (n : Nat), K.lookup a = some o ∧ o.cls = .type "tuple" ∧ o.data = .seq its n ∧ its.size ≤ sizeLine ∧ Vals xs its.toList
def absV : Value → Option V
  | .none => some .non
  | .bool b => some (.bl b)
  | .int i _ => some (.int i)
  | .str x _ => some (.str x)
  | .bytes b _ => some (.byt b)
  | .float b _ => some (.flt b)
  | .ref a => some (.ref a)
  | .type n => some (.ty n)
  | _ => none
theorem RelV.abs {x : V} {u : Value} (r : RelV x u) : absV u = some x := by
  cases x with
  | non => cases r; rfl
  | bl _ => cases r; rfl
  | int _ => obtain ⟨t, rfl⟩ := r; rfl
  | str _ => obtain ⟨t, rfl⟩ := r; rfl
  | byt _ => obtain ⟨t, rfl⟩ := r; rfl
  | flt _ => obtain ⟨t, rfl⟩ := r; rfl
  | ref _ => cases r; rfl
  | ty _ => cases r; rfl
theorem RelV.inj {x y : V} {u : Value} (r : RelV x u) (q : RelV y u) : x = y := Option.some.inj (r.abs.symm.trans q.abs)
theorem Vals.inj : ∀ {xs ys : List V} {us : List Value}, Vals xs us → Vals ys us → xs = ys
  | _, _, _, .nil, .nil => rfl
  | _, _, _, .cons r t, .cons r' t' => by rw [r.inj r', Vals.inj t t']
section
variable {X : Cx} {pins : List (Addr × Obj)} {σ : St} {H : Hp} {s : Shared} {a : Addr} {xs ys : List V}
theorem SqL.of {K : PySem.W.Frag} (h : H a = some (.lst xs)) : SqL K H a xs := .inl (.inl h)
theorem SqT.of {K : PySem.W.Frag} (h : H a = some (.tup xs)) : SqT K H a xs := .inl (.inl h)
theorem Inv.list (I : Inv X pins σ H s) (h : SqL X.K H a xs) : ∃ its : List Value, Vals xs its ∧ PlainL s.heap a its.toArray ∧ xs.length ≤ sizeLine := by
  rcases h with h | ⟨o, its, n, hk, hc, hd, hs, hz, r⟩
  · obtain ⟨z, its, n, r, e⟩ := h.ok I.hok
    exact ⟨its, r, ⟨_, n, e, rfl, rfl, rfl⟩, z⟩
  · refine ⟨its.toList, r, ⟨o, n, I.kIn a o hk, hc, hd, by simpa using hs⟩, ?_⟩
    have e := r.length
    simp only [Array.length_toList] at e
    omega
theorem Inv.tuple (I : Inv X pins σ H s) (h : SqT X.K H a xs) : ∃ its : List Value, Vals xs its ∧ IsTup s.heap a its.toArray ∧ xs.length ≤ sizeLine := by
  rcases h with h | ⟨o, its, n, hk, hc, hs, hz, r⟩
  · obtain ⟨z, its, r, p⟩ := h.ok I.hok
    exact ⟨its, r, p, z⟩
  · refine ⟨its.toList, r, ⟨o, I.kIn a o hk, hc, n, by simpa using hs⟩, ?_⟩
    have e := r.length
    simp only [Array.length_toList] at e
    omega
theorem Inv.list_inj (I : Inv X pins σ H s) (h : SqL X.K H a xs) (h' : SqL X.K H a ys) : xs = ys := by
  obtain ⟨its, r, ⟨o, n, e, _, _, d⟩, _⟩ := I.list h
  obtain ⟨its', r', ⟨o', n', e', _, _, d'⟩, _⟩ := I.list h'
  rw [e] at e'; cases e'
  rw [d] at d'
  injection d' with d1 _
  have : its = its' := by simpa using congrArg Array.toList d1
  subst this
  exact r.inj r'
theorem Inv.tuple_inj (I : Inv X pins σ H s) (h : SqT X.K H a xs) (h' : SqT X.K H a ys) : xs = ys := by
  obtain ⟨its, r, ⟨o, e, _, n, d⟩, _⟩ := I.tuple h
  obtain ⟨its', r', ⟨o', e', _, n', d'⟩, _⟩ := I.tuple h'
  rw [e] at e'; cases e'
  rw [d] at d'
  injection d' with d1 _
  have : its = its' := by simpa using congrArg Array.toList d1
  subst this
  exact r.inj r'
end
/-! ### another wish about exceptions -/
abbrev Cx.wish (X : Cx) (E : Value → Shared → Prop) : Cx := { X with xe := E }
/-- no exception leaves -/
abbrev Cx.nox (X : Cx) : Cx := X.wish fun _ _ => False
theorem Cx.Ok.wish {X : Cx} (ok : X.Ok) (E : Value → Shared → Prop) : (X.wish E).Ok :=
  ⟨ok.mod, ok.kind, ok.glob, ok.blt, ok.above, ok.inj, ok.has, ok.cab, ok.hd, ok.frames, ok.stk, ok.exf, ok.bs, ok.bsz, ok.noex, ok.exfs, ok.funs, ok.frf⟩
theorem Cx.Ok.unwish {X : Cx} {E : Value → Shared → Prop} (ok : (X.wish E).Ok) : X.Ok :=
  ⟨ok.mod, ok.kind, ok.glob, ok.blt, ok.above, ok.inj, ok.has, ok.cab, ok.hd, ok.frames, ok.stk, ok.exf, ok.bs, ok.bsz, ok.noex, ok.exfs, ok.funs, ok.frf⟩
section
variable {X : Cx} {pins : List (Addr × Obj)} {σ : St} {H : Hp} {s : Shared} {E : Value → Shared → Prop}
theorem Inv.wish (I : Inv X pins σ H s) (E : Value → Shared → Prop) : Inv (X.wish E) pins σ H s := ⟨I.ok.wish E, I.os, I.bare, I.base, I.loc, I.cell, I.free, I.freeC, I.pin, I.hok, I.len⟩
theorem Inv.unwish (I : Inv (X.wish E) pins σ H s) : Inv X pins σ H s := ⟨I.ok.unwish, I.os, I.bare, I.base, I.loc, I.cell, I.free, I.freeC, I.pin, I.hok, I.len⟩
theorem SP.unwish {D : Ends} {f : Flow} {s' : Shared} (h : SP (X.wish E) pins D f s') : SP X pins D f s' := by
  cases f with
  | next => obtain ⟨σ', H', I, q⟩ := h; exact ⟨σ', H', I.unwish, q⟩
  | brk => obtain ⟨σ', H', I, q⟩ := h; exact ⟨σ', H', I.unwish, q⟩
  | cont => obtain ⟨σ', H', I, q⟩ := h; exact ⟨σ', H', I.unwish, q⟩
  | ret u => obtain ⟨v, σ', H', I, r, q⟩ := h; exact ⟨v, σ', H', I.unwish, r, q⟩
theorem PE.nox {e : Expr} {t : TE} (h : PE X.nox e t) : PE X e t := fun pins s σ H Q I hw =>
  wpAny_mono (h pins s σ H Q (I.wish _) hw) (fun _ _ ⟨v, H', I', r, q⟩ => ⟨v, H', I'.unwish, r, q⟩) fun _ _ z => False.elim z
theorem PT.nox {e : Expr} {t : TT} (h : PT X.nox e t) : PT X e t := fun pins s σ H Q I hw =>
  wpAny_mono (h pins s σ H Q (I.wish _) hw) (fun _ _ ⟨H', I', q⟩ => ⟨H', I'.unwish, q⟩) fun _ _ z => False.elim z
theorem PSs.nox {st : List Stmt} {t : TS} (h : PSs X.nox st t) : PSs X st t := fun pins s σ H D I hw =>
  wpAny_mono (h pins s σ H D (I.wish _) hw) (fun _ _ q => q.unwish) fun _ _ z => False.elim z
end
/-! ### blocks and small statements -/
section
variable {X : Cx} {st : Stmt} {rest : List Stmt} {t u : TS} {e : Expr} {te : TE} {pos : Pos}
def tNext : TS := fun D σ H => D.nx σ H
def tSeq (t u : TS) : TS := fun D σ H => t { D with nx := u D } σ H
theorem pss_nil : PSs X [] tNext := fun _ _ σ H _ I h => wpAny_execs_nil ⟨σ, H, I, h⟩
theorem pss_cons (h1 : PS X st t) (h2 : PSs X rest u) : PSs X (st :: rest) (tSeq t u) := by
  intro pins s σ H D I h
  refine wpAny_execs_cons (thn (h1 pins s σ H { D with nx := u D } I h) fun f s1 q => ?_)
  cases f with
  | next =>
    obtain ⟨σ', H', I', q⟩ := q
    exact h2 pins s1 σ' H' D I' q
  | ret v => exact q
  | brk => exact q
  | cont => exact q
theorem pss_one (h1 : PS X st t) : PSs X [st] t := by
  intro pins s σ H D I h
  refine wpAny_execs_cons (thn (h1 pins s σ H D I h) fun f s1 q => ?_)
  cases f with
  | next => exact wpAny_execs_nil q
  | ret v => exact q
  | brk => exact q
  | cont => exact q
/-- in a def's body nothing is shown -/
theorem Inv.quiet {pins : List (Addr × Obj)} {σ : St} {H : Hp} {s : Shared} (I : Inv X pins σ H s) : interactive X.env = false := by simp [interactive, I.ok.kind]
/-- an expression whose value is dropped -/
def tDrop (te : TE) : TS := fun D σ H => te σ H fun _ H1 => D.nx σ H1
theorem ps_expr (he : PE X e te) (hs : swapsWith e none pos.line X.env = pure false := by rfl) : PS X (.Expr e pos) (tDrop te) := by
  intro pins s σ H D I h
  exact wpAny_Expr_any (thn (he pins s σ H _ I h) fun v s1 ⟨x, H1, I1, r1, q1⟩ => ⟨σ, H1, I1, q1⟩) I.quiet hs
def tRet (te : TE) : TS := fun D σ H => te σ H D.rt
theorem ps_ret (he : PE X e te) : PS X (.Return (some e) pos) (tRet te) := by
  intro pins s σ H D I h
  exact wpAny_Return_some (thn (he pins s σ H _ I h) fun v s1 ⟨x, H1, I1, r1, q1⟩ => ⟨x, σ, H1, I1, r1, q1⟩)
def tRetN : TS := fun D _ H => D.rt .non H
theorem ps_retN : PS X (.Return none pos) tRetN := fun _ _ σ H _ I h => wpAny_Return_none ⟨.non, σ, H, I, rfl, h⟩
def tIfS (c : TT) (t u : TS) : TS := fun D σ H => c σ H fun b H1 => if b = true then t D σ H1 else u D σ H1
theorem ps_if {c : Expr} {a b : List Stmt} {tc : TT} (hc : PT X c tc) (ha : PSs X a t) (hb : PSs X b u) : PS X (.If c a b pos) (tIfS tc t u) := by
  intro pins s σ H D I h
  refine wpAny_If (thn (hc pins s σ H _ I h) fun d s1 ⟨H1, I1, q1⟩ => ?_)
  cases d with
  | true => exact ha pins s1 σ H1 D I1 q1
  | false => exact hb pins s1 σ H1 D I1 q1
end
/-! ### targets -/
abbrev TG := V → St → Hp → (St → Hp → Prop) → Prop
abbrev TGs := List V → St → Hp → (St → Hp → Prop) → Prop
def PG (X : Cx) (target : Expr) (t : TG) : Prop :=
  ∀ (pins : List (Addr × Obj)) (s : Shared) (σ : St) (H : Hp) (v : V) (u : Value) (Q : St → Hp → Prop), Inv X pins σ H s → RelV v u → t v σ H Q →
    wpAny (model X.prog X.w) X.A (assign target X.env u) (fun _ s' => ∃ σ' H', Inv X pins σ' H' s' ∧ Q σ' H') X.xe s
/-- several targets, one after another -/
def PGs (X : Cx) (ts : List Expr) (t : TGs) : Prop :=
  ∀ (pins : List (Addr × Obj)) (s : Shared) (σ : St) (H : Hp) (vs : List V) (us : List Value) (Q : St → Hp → Prop), Inv X pins σ H s → Vals vs us → t vs σ H Q →
    wpAny (model X.prog X.w) X.A (assignInOrder ((assignEach ts X.env).map (·.2)) us) (fun _ s' => ∃ σ' H', Inv X pins σ' H' s' ∧ Q σ' H') X.xe s
/-- o[i] = v, by values -/
abbrev TSet := V → V → V → Hp → (Hp → Prop) → Prop
def PSet (X : Cx) (t : TSet) : Prop :=
  ∀ (pins : List (Addr × Obj)) (s : Shared) (σ : St) (H : Hp) (o i v : V) (ov iv u : Value) (Q : Hp → Prop), Inv X pins σ H s → RelV o ov → RelV i iv → RelV v u → t o i v H Q →
    wpAny (model X.prog X.w) X.A (setItem ov iv u) (fun _ s' => ∃ H', Inv X pins σ H' s' ∧ Q H') X.xe s
/-- a op= b, by values -/
abbrev TIp := V → V → Hp → VK → Prop
def PIp (X : Cx) (op : Operator) (t : TIp) : Prop :=
  ∀ (pins : List (Addr × Obj)) (s : Shared) (σ : St) (H : Hp) (x y : V) (v u : Value) (Q : VK), Inv X pins σ H s → RelV x v → RelV y u → t x y H Q →
    wpAny (model X.prog X.w) X.A (inplaceOp op v u) (EP X pins σ Q) X.xe s
section
variable {X : Cx} {pos : Pos}
def gName (i : Nat) : TG := fun v σ H Q => Q (σ.set i (some v)) H
theorem pg_name {i : Nat} {x : Str} (hN : X.N.Nodup) (hi : X.N[i]? = some x) (hx : Loc X.env.scope x) (hf : X.fn x = true ∨ X.env.scope.names.lookup x = some .local := by first | exact .inl rfl | exact .inr rfl | assumption) : PG X (.Name x pos) (gName i) := by
  intro pins s σ H v u Q I r h
  exact wpAny_assign_Name (store_ok I hN hi hx r (fun s' I' => ⟨_, H, I', h⟩) hf)
def gNil : TGs := fun vs σ H Q => vs = [] ∧ Q σ H
def gCons (t : TG) (u : TGs) : TGs := fun vs σ H Q => ∃ v r, vs = v :: r ∧ t v σ H fun σ' H' => u r σ' H' Q
theorem pgs_nil : PGs X [] gNil := by
  intro pins s σ H vs us Q I r h
  obtain ⟨e, h⟩ := h
  subst e
  cases r
  exact assignInOrder_nil ⟨σ, H, I, h⟩
theorem pgs_cons {e : Expr} {es : List Expr} {t : TG} {u : TGs} (h1 : PG X e t) (h2 : PGs X es u)
    (hs : (assignEach (e :: es) X.env).map (·.2) = assign e X.env :: (assignEach es X.env).map (·.2) := by rfl) : PGs X (e :: es) (gCons t u) := by
  intro pins s σ H vs us Q I r h
  obtain ⟨v, vr, e1, h⟩ := h
  subst e1
  cases r with
  | cons r rr =>
    rw [hs]
    refine assignInOrder_cons (thn (h1 pins s σ H _ _ _ I r h) fun _ s1 ⟨σ1, H1, I1, q1⟩ => ?_)
    exact h2 pins s1 σ1 H1 _ _ Q I1 rr q1
/-- (a, b, ..) = a tuple of that length -/
def gTup (K : PySem.W.Frag) (n : Nat) (t : TGs) : TG := fun v σ H Q => ∃ a xs, v = .ref a ∧ SqT K H a xs ∧ xs.length = n ∧ t xs σ H Q
theorem pg_tup {es : List Expr} {k : Nat} {t : TGs} {n : Nat} (hc : X.calm = true) (h : PGs X es t)
    (hn : (assignEach es X.env).length = n := by rfl) (hst : (assignEach es X.env).findIdx? (·.1) = none := by rfl) : PG X (.Tuple es k pos) (gTup X.K n t) := by
  intro pins s σ H v u Q I r hw
  obtain ⟨a, xs, e1, hq, hl, hw⟩ := hw
  subst e1
  cases r
  obtain ⟨its, rv, ht, hz⟩ := I.tuple hq
  refine assign_Tuple_tuple (I.ok.hd hc) ht (by simp [hn, ← hl, rv.length]) hst fun h' hx => ?_
  have I1 : Inv X pins σ H { s with heap := h' } := I.kept (t' := s.toks) fun b o e => hx b o (Nat.ne_of_lt (Heap.lt_size e)) e
  exact h pins _ σ H xs _ Q I1 (by simpa using rv) hw
/-- o[i] = .. -/
def gSub (to ti : TE) (t : TSet) : TG := fun v σ H Q => to σ H fun o H1 => ti σ H1 fun i H2 => t o i v H2 fun H3 => Q σ H3
theorem pg_sub {o i : Expr} {to ti : TE} {t : TSet} (ho : PE X o to) (hi : PE X i ti) (hs : PSet X t)
    (ha : ∀ v, assign (.Subscript o i pos) X.env v = (do
      let ov ← holding [v] (eval o X.env)
      let iv ← holding [v, ov] (eval i X.env)
      standAt pos
      holding [v, ov, iv] (setItem ov iv v)
      release [v, ov, iv] []) := by intro _; rfl) : PG X (.Subscript o i pos) (gSub to ti t) := by
  intro pins s σ H v u Q I r h
  rw [ha]
  refine wpAny_bind (wpAny_holding (thn (ho pins s σ H _ I h) fun ov s1 ⟨x, H1, I1, r1, q1⟩ => ?_))
  refine wpAny_bind (wpAny_holding (thn (hi pins s1 σ H1 _ I1 q1) fun iv s2 ⟨y, H2, I2, r2, q2⟩ => ?_))
  refine wpAny_bind (wpAny_standAt (wpAny_bind (wpAny_holding (thn (hs pins s2 σ H2 x y v ov iv u _ I2 r1 r2 r q2) fun _ s3 ⟨H3, I3, q3⟩ => ?_))))
  exact wpAny_release ⟨σ, H3, I3, q3⟩
/-- target = value -/
def tAsg (te : TE) (g : TG) : TS := fun D σ H => te σ H fun x H1 => g x σ H1 D.nx
theorem ps_asg {tg e : Expr} {te : TE} {g : TG} (he : PE X e te) (hg : PG X tg g) (hs : swapsWithSole [tg] e pos.line X.env = pure false := by rfl) (hw : swappedStores [tg] e X.env = pure none := by rfl)
    (h1 : (assignEach [tg] X.env).map (·.2) = [assign tg X.env] := by rfl) : PS X (.Assign [tg] e pos) (tAsg te g) := by
  intro pins s σ H D I h
  refine wpAny_Assign_stores (thn (he pins s σ H _ I h) fun v s1 ⟨x, H1, I1, r1, q1⟩ => ?_) hs hw
  rw [h1]
  exact thn (hg pins s1 σ H1 x v _ I1 r1 q1) fun _ s2 q => q
/-- name = value -/
theorem ps_set {i : Nat} {x : Str} {e : Expr} {te : TE} {pos' : Pos} (hN : X.N.Nodup) (hi : X.N[i]? = some x) (hx : Loc X.env.scope x) (he : PE X e te) (hs : swapsWith e (some (.Name x pos')) pos.line X.env = pure false := by rfl) (hf : X.fn x = true ∨ X.env.scope.names.lookup x = some .local := by first | exact .inl rfl | exact .inr rfl | assumption) :
    PS X (.Assign [.Name x pos'] e pos) (tAsg te (gName i)) := by
  intro pins s σ H D I h
  refine wpAny_Assign_Name (thn (he pins s σ H _ I h) fun v s1 ⟨y, H1, I1, r1, q1⟩ => ?_) hs
  exact store_ok I1 hN hi hx r1 (fun s2 I2 => ⟨_, H1, I2, q1⟩) hf
/-- name op= e -/
def tAug (i : Nat) (te : TE) (ti : TIp) : TS := fun D σ H => ∃ x, σ[i]? = some (some x) ∧ te σ H fun y H1 => ti x y H1 fun z H2 => D.nx (σ.set i (some z)) H2
theorem ps_aug {i : Nat} {x : Str} {e : Expr} {te : TE} {op : Operator} {ti : TIp} {pos' : Pos} (hN : X.N.Nodup) (hi : X.N[i]? = some x) (hx : Loc X.env.scope x) (he : PE X e te) (ho : PIp X op ti) (hf : X.fn x = true ∨ X.env.scope.names.lookup x = some .local := by first | exact .inl rfl | exact .inr rfl | assumption) :
    PS X (.AugAssign (.Name x pos') op e pos) (tAug i te ti) := by
  intro pins s σ H D I h
  obtain ⟨v, e1, h⟩ := h
  obtain ⟨m, hn, hl⟩ := I.loc
  have vis : Vis X.env.scope x := by rcases hx with k | k; exact .inl k; exact .inr (.inl k)
  obtain ⟨u, r, l⟩ := hl i x v hi e1 vis
  refine wpAny_AugAssign_Name ?_
  have go : wpAny (model X.prog X.w) X.A (eval e X.env) (fun w s₂ => wpAny (model X.prog X.w) X.A (inplaceOp op u w) (fun r s₃ => wpAny (model X.prog X.w) X.A (storeName X.env x r) (fun _ => SP X pins D .next) X.xe s₃) X.xe s₂) X.xe s := by
    refine thn (he pins s σ H _ I h) fun w s1 ⟨y, H1, I1, r1, q1⟩ => ?_
    refine thn (ho pins s1 σ H1 v y u w _ I1 r r1 q1) fun z s2 ⟨zv, H2, I2, r2, q2⟩ => ?_
    exact store_ok I2 hN hi hx r2 (fun s3 I3 => ⟨_, H2, I3, q2⟩) hf
  rcases l with ⟨hk, hm⟩ | ⟨hk, c, hc, hcell⟩
  · exact wpAny_loadName_local I.ok.kind hk hn hm go
  · rcases hk with hk | hk
    · exact wpAny_loadName_cell I.ok.kind hk hc hcell go
    · rcases hx with k | k
      · have : X.env.scope.names.lookup x = some .free := hk
        rw [k] at this; cases this
      · have : X.env.scope.names.lookup x = some .free := hk
        rw [k] at this; cases this
/-- o[i] op= e -/
def tAugS (to ti te : TE) (tget : V → V → Hp → VK → Prop) (tip : TIp) (tset : TSet) : TS := fun D σ H => to σ H fun o H1 => ti σ H1 fun i H2 => tget o i H2 fun x H3 => te σ H3 fun y H4 => tip x y H4 fun z H5 => tset o i z H5 fun H6 => D.nx σ H6
/-- o[i], by values -/
def PGet (X : Cx) (t : V → V → Hp → VK → Prop) : Prop :=
  ∀ (pins : List (Addr × Obj)) (s : Shared) (σ : St) (H : Hp) (o i : V) (ov iv : Value) (Q : VK), Inv X pins σ H s → RelV o ov → RelV i iv → t o i H Q →
    wpAny (model X.prog X.w) X.A (getItem ov iv) (EP X pins σ Q) X.xe s
theorem ps_augS {o i e : Expr} {to ti te : TE} {tget : V → V → Hp → VK → Prop} {tip : TIp} {tset : TSet} {op : Operator} {tpos : Pos} (ho : PE X o to) (hi : PE X i ti) (hg : PGet X tget) (he : PE X e te) (hp : PIp X op tip) (hs : PSet X tset)
    (ha : ∀ ov iv new, augStore i ov iv new = (do holding [new, ov, iv] (setItem ov iv new); release [new, ov, iv] []; pure .next) := by intros; rfl) : PS X (.AugAssign (.Subscript o i tpos) op e pos) (tAugS to ti te tget tip tset) := by
  intro pins s σ H D I h
  refine wpAny_AugAssign_SubscriptAny (thn (ho pins s σ H _ I h) fun ov s1 ⟨x1, H1, I1, r1, q1⟩ => ?_) ha
  refine thn (hi pins s1 σ H1 _ I1 q1) fun iv s2 ⟨x2, H2, I2, r2, q2⟩ => ?_
  refine thn (hg pins s2 σ H2 x1 x2 ov iv _ I2 r1 r2 q2) fun old s3 ⟨x3, H3, I3, r3, q3⟩ => ?_
  refine thn (he pins s3 σ H3 _ I3 q3) fun v s4 ⟨x4, H4, I4, r4, q4⟩ => ?_
  refine thn (hp pins s4 σ H4 x3 x4 old v _ I4 r3 r4 q4) fun new s5 ⟨x5, H5, I5, r5, q5⟩ => ?_
  exact thn (hs pins s5 σ H5 x1 x2 x5 ov iv new _ I5 r1 r2 r5 q5) fun _ s6 ⟨H6, I6, q6⟩ => ⟨σ, H6, I6, q6⟩
/-- ints -/
def ipI (f : Int → Int → Int) : TIp := fun x y H Q => ∃ i j, x = .int i ∧ y = .int j ∧ Q (.int (f i j)) H
theorem ip_add : PIp X .Add (ipI fun i j => i + j) := by
  intro pins s σ H x y v u Q I r1 r2 h
  obtain ⟨i, j, e1, e2, q⟩ := h
  subst e1; subst e2
  obtain ⟨t, rfl⟩ := r1
  obtain ⟨t', rfl⟩ := r2
  exact iadd_int ⟨.int _, H, I.tok _, ⟨_, rfl⟩, q⟩
theorem ip_sub : PIp X .Sub (ipI fun i j => i - j) := by
  intro pins s σ H x y v u Q I r1 r2 h
  obtain ⟨i, j, e1, e2, q⟩ := h
  subst e1; subst e2
  obtain ⟨t, rfl⟩ := r1
  obtain ⟨t', rfl⟩ := r2
  exact isub_int ⟨.int _, H, I.tok _, ⟨_, rfl⟩, q⟩
end
/-! ### while -/
section
variable {X : Cx} {pos : Pos}
/-- the invariant W with its measure -/
def tWhile (c : TT) (tb : TS) : TS := fun D σ H => ∃ W : Nat → St → Hp → Prop, (∃ m, W m σ H) ∧ ∀ m σ H, W m σ H →
  c σ H fun b H1 => if b = true then ∃ N : St → Hp → Prop, (∀ σ' H', N σ' H' → ∃ m', m' < m ∧ W m' σ' H') ∧ tb { D with nx := N, ct := N, bk := D.nx } σ H1 else D.nx σ H1
theorem ps_while {c : Expr} {body : List Stmt} {tc : TT} {tb : TS} (hp : PassesOwn (model X.prog X.w) X.A X.env X.xe) (hc : PT X c tc) (hb : PSs X body tb) : PS X (.While c body [] pos) (tWhile tc tb) := by
  intro pins s σ H D I h
  obtain ⟨W, ⟨m0, w0⟩, turn⟩ := h
  refine wpAny_While (codeAny_whileLoop (fun n s' => ∃ σ' H', Inv X pins σ' H' s' ∧ W n σ' H') ?_ m0 ⟨σ, H, I, w0⟩)
  rintro n s1 ⟨σ1, H1, I1, w1⟩
  refine wpAny_passesOwn hp (thn (hc pins s1 σ1 H1 _ I1 (turn n σ1 H1 w1)) fun b s2 ⟨H2, I2, q2⟩ => ?_)
  cases b with
  | true =>
    obtain ⟨N, hN, q2⟩ := q2
    rw [if_pos rfl]
    refine wpAny_passesOwn hp (thn (hb pins s2 σ1 H2 _ I2 q2) fun f s3 q3 => ?_)
    cases f with
    | next =>
      obtain ⟨σ3, H3, I3, n3⟩ := q3
      obtain ⟨m', hm, w3⟩ := hN σ3 H3 n3
      exact ⟨m', hm, σ3, H3, I3, w3⟩
    | cont =>
      obtain ⟨σ3, H3, I3, n3⟩ := q3
      obtain ⟨m', hm, w3⟩ := hN σ3 H3 n3
      exact ⟨m', hm, σ3, H3, I3, w3⟩
    | brk => exact q3
    | ret v => exact q3
  | false =>
    rw [if_neg Bool.false_ne_true]
    exact wpAny_execs_nil ⟨σ1, H2, I2, q2⟩
end
/-! ### what a loop or a comprehension walks -/
/-- at turn i: it yields x (the heap may grow), or it stops -/
structure It where
  go : Nat → Hp → Prop
  yld : Nat → Hp → V → Hp → Prop
  stop : Nat → Hp → Prop
/-- the iterator's own objects may turn: they are not the frame's, not pinned, younger than the entry (or a comprehension's own) -/
def FpOk (X : Cx) (pins : List (Addr × Obj)) (H : Hp) (b : Addr) : Prop :=
  H b = none ∧ b ≠ X.env.locals ∧ b ∉ X.fs ∧ (b ∈ X.ex ∨ X.s_0.heap.objs.size ≤ b) ∧ (∀ x c, X.env.cells.lookup x = some c → c ≠ b) ∧ ∀ p ∈ X.pn ++ pins, p.1 ≠ b
theorem Inv.fpOk {X : Cx} {pins : List (Addr × Obj)} {σ : St} {H H' : Hp} {s : Shared} {b : Addr} (I : Inv X pins σ H s) (hb : s.heap.objs.size ≤ b) (hn : H' b = none) : FpOk X pins H' b := by
  refine ⟨hn, Nat.ne_of_gt (Nat.lt_of_lt_of_le I.lt hb), I.nofs hb, .inr (Nat.le_trans I.sz hb), fun x c e z => ?_, fun p hp z => ?_⟩
  · obtain ⟨v, q⟩ := I.cell x c e
    exact absurd (Nat.lt_of_lt_of_le q.lt (by rw [z]; exact hb)) (Nat.lt_irrefl _)
  · exact absurd (Nat.lt_of_lt_of_le (Heap.lt_size (I.pin p hp).1) (by rw [z]; exact hb)) (Nat.lt_irrefl _)
structure Turn (P : Program) (w : World) (K : PySem.W.Frag) (tg : Expr) (J : It) (fp : List Addr) (it : Addr) (tn : Nat → Heap → Prop) : Prop where
  mem : it ∈ fp
  obj : ∀ i h, tn i h → ∀ b ∈ fp, ∃ o, h.get? b = some o ∧ ∀ v, o.data ≠ .cell v
  keep : ∀ i h h', tn i h → (∀ b ∈ fp, ∀ o, h.get? b = some o → h'.get? b = some o) → tn i h'
  item : ∀ (X : Cx), X.prog = P → X.w = w → X.K = K → X.calm = true → ∀ (i : Nat) (pins : List (Addr × Obj)) (s : Shared) (σ : St) (H : Hp) (E : Value → Shared → Prop), Inv X pins σ H s → (∀ b ∈ fp, FpOk X pins H b) → tn i s.heap → J.go i H →
    wpAny (model P w) X.A (pyNext (.ref it)) (fun r s1 => ∃ u, r = some u ∧
      wpAny (model P w) X.A (letOwnedTupleGo tg (.ref it) u) (fun _ s2 => ∃ x H', Inv X pins σ H' s2 ∧ RelV x u ∧ J.yld i H x H' ∧ tn (i + 1) s2.heap ∧ ∀ b ∈ fp, H' b = none) E s1) E s
  done : ∀ (X : Cx), X.prog = P → X.w = w → X.K = K → X.calm = true → ∀ (i : Nat) (pins : List (Addr × Obj)) (s : Shared) (σ : St) (H : Hp) (E : Value → Shared → Prop), Inv X pins σ H s → (∀ b ∈ fp, FpOk X pins H b) → tn i s.heap → J.stop i H →
    wpAny (model P w) X.A (pyNext (.ref it)) (fun r s1 => r = none ∧ Inv X pins σ H s1) E s
  self : ∀ (A : Around) (i : Nat) (s : Shared) (Q : Value → Shared → Prop) (E : Value → Shared → Prop), tn i s.heap → Q (.ref it) s → wpAny (model P w) A (pyIter (.ref it)) Q E s
abbrev TI := St → Hp → (It → Hp → Prop) → Prop
/-- an iterator has come -/
def PIE (X : Cx) (pins : List (Addr × Obj)) (σ : St) (tg : Expr) (R : It → Hp → Prop) (itv : Value) (s2 : Shared) : Prop :=
  ∃ (it : Addr) (fp : List Addr) (tn : Nat → Heap → Prop) (J : It) (H' : Hp), itv = .ref it ∧ Inv X pins σ H' s2 ∧ Turn X.prog X.w X.K tg J fp it tn ∧ tn 0 s2.heap ∧ (∀ b ∈ fp, FpOk X pins H' b) ∧ R J H'
def PI (X : Cx) (tg iter : Expr) (wi : TI) : Prop :=
  ∀ (pins : List (Addr × Obj)) (s : Shared) (σ : St) (H : Hp) (R : It → Hp → Prop), Inv X pins σ H s → wi σ H R →
    wpAny (model X.prog X.w) X.A (eval iter X.env) (fun v s1 => wpAny (model X.prog X.w) X.A (pyIter v) (PIE X pins σ tg R) X.xe s1) X.xe s
/-- the step ahead of the store is nothing for an iterator that keeps no tuple -/
theorem go_of {M : Model} {A : Around} {E : Value → Shared → Prop} {s : Shared} {tg : Expr} {it : Addr} {u : Value} {o : Obj} {n : String} {vs : Array Value} {Q : Unit → Shared → Prop} (ho : s.heap.get? it = some o) (hc : o.cls = .type n) (hd : o.data = .fields vs)
    (hn : ["enumerate", "zip", "dict_itemiterator", "dict_reverseitemiterator", "odict_iterator", "itertools.zip_longest", "itertools.pairwise"].contains n = false) (hQ : Q () s) : wpAny M A (letOwnedTupleGo tg (.ref it) u) Q E s := by
  unfold letOwnedTupleGo
  cases tg <;> first
    | exact wpAny_pure hQ
    | (cases u <;> first
        | exact wpAny_pure hQ
        | (refine wpAny_bind (wpAny_load ho ?_)
           rw [hc, hd]
           show wpAny M A (if (["enumerate", "zip", "dict_itemiterator", "dict_reverseitemiterator", "odict_iterator", "itertools.zip_longest", "itertools.pairwise"].contains n && vs[0]? == some (rawInt _)) = true then _ else _) Q E s
           rw [if_neg (by intro h; rw [hn, Bool.false_and] at h; cases h)]
           exact wpAny_pure hQ))
/-- the list at a, as it stands at each turn (a loop may append to it) -/
def Itl (K : PySem.W.Frag) (a : Addr) : It :=
  ⟨fun i H => ∃ xs x, SqL K H a xs ∧ xs[i]? = some x, fun i H x H' => H' = H ∧ ∀ xs, SqL K H a xs → xs[i]? = some x, fun i H => ∃ xs, SqL K H a xs ∧ xs.length ≤ i⟩
/-- lo, lo + 1, .. (n of them) -/
def Itr (lo : Int) (n : Nat) : It := ⟨fun i _ => i < n, fun i H x H' => H' = H ∧ x = .int (lo + i), fun i _ => n ≤ i⟩
theorem turn_list {P : Program} {w : World} {K : PySem.W.Frag} {tg : Expr} (a it : Addr) : Turn P w K tg (Itl K a) [it] it (fun i h => h.IsListIter it a i) where
  mem := by simp
  obj := fun i h st b hb => by
    have e : b = it := by simpa using hb
    subst e
    obtain ⟨o, e, c, d⟩ := st
    exact ⟨o, e, fun v z => by rw [d] at z; cases z⟩
  keep := fun i h h' st k => st.at fun o e => k it (by simp) o e
  item := by
    intro X hP hw hK hc i pins s σ H E I hf st hg
    subst hP hw hK
    obtain ⟨xs, x, hq, hx⟩ := hg
    obtain ⟨its, rv, p, hz⟩ := I.list hq
    obtain ⟨u, hu, ru⟩ := rv.get hx
    obtain ⟨f0, f1, f2, f3, f4, f5⟩ := hf it (by simp)
    refine wpAny_pyNext_list_item st p.isList (x := u) (by simpa using hu) fun h' st' sb => ?_
    have I1 : Inv X pins σ H { s with heap := h' } := I.turned (t' := s.toks) (fun b o hb e => (sb.2 b hb).trans e) f0 f1 f3 f4 f5
    obtain ⟨o, e, c, d⟩ := id st'
    exact ⟨u, rfl, go_of (s := { s with heap := h' }) e c d (by decide) ⟨x, H, I1, ru, ⟨rfl, fun ys hy => by rw [I.list_inj hy hq]; exact hx⟩, st', fun b hb => (hf b hb).1⟩⟩
  done := by
    intro X hP hw hK hc i pins s σ H E I hf st hg
    subst hP hw hK
    obtain ⟨xs, hq, hx⟩ := hg
    obtain ⟨its, rv, p, hz⟩ := I.list hq
    obtain ⟨f0, f1, f2, f3, f4, f5⟩ := hf it (by simp)
    have hl := rv.length
    exact wpAny_pyNext_list_end (I.ok.hd hc) st p.isList (by simp; omega) fun h' eb => ⟨rfl, I.turned (t' := s.toks) (fun b o hb e => eb b o hb e) f0 f1 f3 f4 f5⟩
  self := fun _ _ _ _ _ st h => wpAny_pyIter_listiter st h
theorem turn_range {P : Program} {w : World} {K : PySem.W.Frag} {tg : Expr} (it : Addr) (lo : Int) (n : Nat) : Turn P w K tg (Itr lo n) [it] it (fun i h => IsRangeIter h it (lo + (i : Nat) * 1) ((n : Int) - (i : Nat)) 1) where
  mem := by simp
  obj := fun i h st b hb => by
    have e : b = it := by simpa using hb
    subst e
    exact ⟨_, st, fun v z => by
      have z' : Data.fields _ = Data.cell v := z
      cases z'⟩
  keep := fun i h h' st k => k it (by simp) _ st
  item := by
    intro X hP hw hK hc i pins s σ H E I hf st hg
    subst hP hw hK
    obtain ⟨f0, f1, f2, f3, f4, f5⟩ := hf it (by simp)
    have W := Walks.range (prog := X.prog) (w := X.w) (I.ok.hd hc) it lo 1 n
    refine W.item i s _ _ hg st fun v h' tk hv st' kk => ?_
    obtain ⟨t, rfl⟩ := hv
    have I1 : Inv X pins σ H { s with heap := h', toks := tk } := I.turned (fun b o hb e => kk b o (by simpa using hb) e) f0 f1 f3 f4 f5
    refine ⟨_, rfl, go_of (s := { s with heap := h', toks := tk }) (n := "range_iterator") st' rfl rfl (by decide) ⟨.int (lo + i), H, I1, ⟨t, ?_⟩, ⟨rfl, rfl⟩, st', fun b hb => (hf b hb).1⟩⟩
    rw [Int.mul_one]
  done := by
    intro X hP hw hK hc i pins s σ H E I hf st hg
    subst hP hw hK
    obtain ⟨f0, f1, f2, f3, f4, f5⟩ := hf it (by simp)
    exact wpAny_pyNext_range_end (I.ok.hd hc) st (by have : n ≤ i := hg; omega) fun h' eb => ⟨rfl, I.turned (t' := s.toks) (fun b o hb e => eb b o hb e) f0 f1 f3 f4 f5⟩
  self := fun _ _ _ _ _ st h => wpAny_pyIter_rangeiter st h
end L2
namespace L2
open PySem PySem.Spec PyProof.Rows
section
variable {X : Cx} {tg : Expr}
def iList (K : PySem.W.Frag) (tl : TE) : TI := fun σ H R => tl σ H fun x H1 => ∃ a, x = .ref a ∧ (∃ xs, SqL K H1 a xs) ∧ R (Itl K a) H1
theorem pi_list {l : Expr} {tl : TE} (hl : PE X l tl) : PI X tg l (iList X.K tl) := by
  intro pins s σ H R I h
  refine thn (hl pins s σ H _ I h) fun v s1 ⟨x, H1, I1, r1, q1⟩ => ?_
  obtain ⟨a, e, ⟨xs, hq⟩, q⟩ := q1
  subst e
  cases r1
  obtain ⟨its, rv, p, hz⟩ := I1.list hq
  refine wpAny_pyIter_list p.isList ?_
  refine ⟨s1.heap.objs.size, [s1.heap.objs.size], _, _, H1, rfl, I1.kept (t' := s1.toks) fun b o e => Heap.get?_push_of_some _ e, turn_list a _, ⟨_, Heap.get?_push_size _ rfl, rfl, rfl⟩, fun b hb => ?_, q⟩
  have e : b = s1.heap.objs.size := by simpa using hb
  subst e
  exact I1.fpOk (Nat.le_refl _) (I1.hok.fresh (Nat.le_refl _))
/-- a range object just made, walked -/
theorem range_it {pins : List (Addr × Obj)} {σ : St} {H : Hp} {s : Shared} {R : It → Hp → Prop} {E : Value → Shared → Prop} {lo hi : Int} {t u v : Tok} {tk : Nat} (I : Inv X pins σ H s) (h1 : -(2 ^ 62) ≤ lo) (h2 : lo < 2 ^ 62) (h3 : -(2 ^ 62) ≤ hi) (h4 : hi < 2 ^ 62)
    (q : R (Itr lo (hi - lo).toNat) H) : wpAny (model X.prog X.w) X.A (pyIter (.ref s.heap.objs.size)) (PIE X pins σ tg R) E { s with heap := s.heap.push { cls := .type "range", data := .fields #[.int lo t, .int hi u, .int 1 v] }, toks := tk } := by
  refine wpAny_pyIter_range (IsRange.new ..) (small_one h1 h2 h3 h4) ?_
  have I1 : Inv X pins σ H { s with heap := s.heap.push { cls := .type "range", data := .fields #[.int lo t, .int hi u, .int 1 v] }, toks := tk } := I.kept fun b o e => Heap.get?_push_of_some _ e
  refine ⟨(s.heap.push { cls := .type "range", data := .fields #[.int lo t, .int hi u, .int 1 v] }).objs.size, [(s.heap.push { cls := .type "range", data := .fields #[.int lo t, .int hi u, .int 1 v] }).objs.size], _, _, H, rfl,
    I1.kept (t' := tk) fun b o e => Heap.get?_push_of_some _ e, turn_range _ lo (hi - lo).toNat, ?_, fun b hb => ?_, q⟩
  · have e1 : lo + ((0 : Nat) : Int) * 1 = lo := by simp
    have e2 : (((hi - lo).toNat : Nat) : Int) - ((0 : Nat) : Int) = Builtin.Range.rangeSize lo hi 1 := by rw [rangeSize_one]; split <;> omega
    show IsRangeIter _ _ (lo + ((0 : Nat) : Int) * 1) ((((hi - lo).toNat : Nat) : Int) - ((0 : Nat) : Int)) 1
    rw [e1, e2]
    exact Heap.get?_push_size _ rfl
  · have e : b = (s.heap.push { cls := .type "range", data := .fields #[.int lo t, .int hi u, .int 1 v] }).objs.size := by simpa using hb
    subst e
    exact I1.fpOk (Nat.le_refl _) (I1.hok.fresh (Nat.le_refl _))
def iRng1 (ta : TA) : TI := fun σ H R => ta σ H fun vs H1 => ∃ j : Int, vs = [.int j] ∧ -(2 ^ 62) ≤ j ∧ j < 2 ^ 62 ∧ R (Itr 0 j.toNat) H1
def iRng2 (ta : TA) : TI := fun σ H R => ta σ H fun vs H1 => ∃ i j : Int, vs = [.int i, .int j] ∧ (-(2 ^ 62) ≤ i ∧ i < 2 ^ 62 ∧ -(2 ^ 62) ≤ j ∧ j < 2 ^ 62) ∧ R (Itr i (j - i).toNat) H1
theorem pi_range1 {a : Expr} {ta : TA} {p pos : Pos} (hg : Gl X "range") (hm : X.mg "range" = none) (ha : PA X [a] ta) (hs : starEach [a] X.env = [(false, eval a X.env)] := by rfl) : PI X tg (.Call (.Name "range" p) [a] [] pos) (iRng1 ta) := by
  intro pins s σ H R I h
  refine Call_ (ld_blt I hg hm boot_range (PyProof.Rows.callWith_type1 (thn (ha pos pins s σ H _ I h) fun us s1 ⟨vs, H1, I1, r1, q1⟩ => ?_) hs rfl))
  obtain ⟨j, e, q1, q2, q⟩ := q1
  subst e
  cases r1 with
  | cons r rr =>
    cases rr
    obtain ⟨t, rfl⟩ := r
    exact call_range_1 (range_it I1 (by omega) (by omega) q1 q2 (by simpa using q))
theorem pi_range2 {a b : Expr} {ta : TA} {p pos : Pos} (hg : Gl X "range") (hm : X.mg "range" = none) (ha : PA X [a, b] ta) (hs : starEach [a, b] X.env = [(false, eval a X.env), (false, eval b X.env)] := by rfl) (hs2 : starEach [b] X.env = [(false, eval b X.env)] := by rfl) :
    PI X tg (.Call (.Name "range" p) [a, b] [] pos) (iRng2 ta) := by
  intro pins s σ H R I h
  refine Call_ (ld_blt I hg hm boot_range (PyProof.Rows.callWith_type1 (thn (ha pos pins s σ H _ I h) fun us s1 ⟨vs, H1, I1, r1, q1⟩ => ?_) (by rw [hs, hs2]) (by rw [hs2]; rfl)))
  obtain ⟨i, j, e, ⟨q1, q2, q3, q4⟩, q⟩ := q1
  subst e
  cases r1 with
  | cons r rr =>
    cases rr with
    | cons r' rr =>
      cases rr
      obtain ⟨t, rfl⟩ := r
      obtain ⟨t', rfl⟩ := r'
      exact call_range_2 (range_it I1 q1 q2 q3 q4 q)
/-! ### for -/
/-- W: the invariant by the turn and a measure; N: what the body is to reach -/
def tFor (wi : TI) (g : TG) (tb : TS) : TS := fun D σ H => wi σ H fun J H1 => ∃ W : Nat → Nat → St → Hp → Prop, (∃ m, W 0 m σ H1) ∧ ∀ i m σ H, W i m σ H →
  (J.stop i H ∧ D.nx σ H) ∨ (J.go i H ∧ ∃ N : St → Hp → Prop, (∀ σ' H', N σ' H' → ∃ m', m' < m ∧ W (i + 1) m' σ' H') ∧ ∀ x H', J.yld i H x H' → g x σ H' fun σ2 H2 => tb { D with nx := N, ct := N, bk := D.nx } σ2 H2)
/-- the records at fp as they stand -/
def pinsAt (fp : List Addr) (h : Heap) : List (Addr × Obj) := fp.filterMap fun b => (h.get? b).map fun o => (b, o)
theorem mem_pinsAt {fp : List Addr} {h : Heap} {b : Addr} {o : Obj} (hb : b ∈ fp) (e : h.get? b = some o) : (b, o) ∈ pinsAt fp h := List.mem_filterMap.mpr ⟨b, hb, by rw [e]; rfl⟩
theorem of_pinsAt {fp : List Addr} {h : Heap} {p : Addr × Obj} (hp : p ∈ pinsAt fp h) : p.1 ∈ fp ∧ h.get? p.1 = some p.2 := by
  obtain ⟨b, hb, e⟩ := List.mem_filterMap.mp hp
  cases q : h.get? b with
  | none => rw [q] at e; cases e
  | some o =>
    rw [q] at e
    have e' : (b, o) = p := Option.some.inj e
    subst e'
    exact ⟨hb, q⟩
theorem Inv.pinned {pins : List (Addr × Obj)} {σ : St} {H : Hp} {s : Shared} {fp : List Addr} (I : Inv X pins σ H s) (hf : ∀ b ∈ fp, FpOk X pins H b) (ho : ∀ b ∈ fp, ∃ o, s.heap.get? b = some o ∧ ∀ v, o.data ≠ .cell v) : Inv X (pins ++ pinsAt fp s.heap) σ H s :=
  I.pins_of fun p hp => (List.mem_append.mp hp).elim (fun z => I.pin p (List.mem_append_right _ z)) fun z => by
    obtain ⟨hb, e⟩ := of_pinsAt z
    obtain ⟨f0, f1, f2, _⟩ := hf p.1 hb
    obtain ⟨o, e', d⟩ := ho p.1 hb
    rw [e] at e'; cases e'
    exact ⟨e, f0, f1, f2, d⟩
theorem Inv.unpinned {pins pl : List (Addr × Obj)} {σ : St} {H : Hp} {s : Shared} (I : Inv X (pins ++ pl) σ H s) : Inv X pins σ H s := I.pins_of fun p hp => I.pin p (List.mem_append_right _ (List.mem_append_left _ hp))
theorem ps_for {iter : Expr} {body : List Stmt} {wi : TI} {g : TG} {tb : TS} {pos : Pos} (hp : PassesOwn (model X.prog X.w) X.A X.env X.xe) (hc : X.calm = true) (hi : PI X tg iter wi) (hg : PG X tg g) (hb : PSs X body tb)
    (hs : ∀ x, foldedSetIterable iter X.env x = pure x := by intro _; rfl) : PS X (.For tg iter body [] pos) (tFor wi g tb) := by
  intro pins s σ H D I h
  refine wpAny_For (thn (hi pins s σ H _ I h) fun v s1 h1 => thn h1 fun itv s2 h2 => ?_) hs
  obtain ⟨it, fp, tn, J, H2, e, I2, T, st2, f2, W, ⟨m0, w0⟩, turn⟩ := h2
  subst e
  -- what stays true of the iterator's objects through the loop
  have stat : ∀ {H' : Hp}, (∀ b ∈ fp, H' b = none) → ∀ b ∈ fp, FpOk X pins H' b := fun hn b hb => ⟨hn b hb, (f2 b hb).2⟩
  refine codeAny_forLoop_any (fun n s' => ∃ i σ' H', Inv X pins σ' H' s' ∧ tn i s'.heap ∧ (∀ b ∈ fp, H' b = none) ∧ W i n σ' H') ?_ m0 ⟨0, σ, H2, I2, st2, fun b hb => (f2 b hb).1, w0⟩
  rintro n s3 ⟨i, σ3, H3, I3, st3, fr3, w3⟩
  rcases turn i n σ3 H3 w3 with ⟨stop, qn⟩ | ⟨go, N, hN, step⟩
  · refine wpAny_passesOwn hp (thn (T.done X rfl rfl rfl hc i pins s3 σ3 H3 X.xe I3 (stat fr3) st3 stop) fun r s4 ⟨hr, I4⟩ => ?_)
    subst hr
    exact wpAny_execs_nil ⟨σ3, H3, I4, qn⟩
  · refine wpAny_passesOwn hp (thn (T.item X rfl rfl rfl hc i pins s3 σ3 H3 X.xe I3 (stat fr3) st3 go) fun r s4 ⟨u, hr, h4⟩ => ?_)
    subst hr
    refine wpAny_passesOwn hp (thn h4 fun _ s5 ⟨x, H5, I5, r5, y5, st5, fr5⟩ => ?_)
    have I5' := I5.pinned (stat fr5) (T.obj _ _ st5)
    refine wpAny_passesOwn hp (thn (hg _ s5 σ3 H5 x u _ I5' r5 (step x H5 y5)) fun _ s6 ⟨σ6, H6, I6, q6⟩ => ?_)
    refine wpAny_passesOwn hp (thn (hb _ s6 σ6 H6 _ I6 q6) fun f s7 q7 => ?_)
    have again : ∀ {σ7 : St} {H7 : Hp}, Inv X (pins ++ pinsAt fp s5.heap) σ7 H7 s7 → N σ7 H7 → ∃ m, m < n ∧ ∃ i σ' H', Inv X pins σ' H' s7 ∧ tn i s7.heap ∧ (∀ b ∈ fp, H' b = none) ∧ W i m σ' H' := fun {σ7 H7} I7 n7 => by
      obtain ⟨m', hm, w7⟩ := hN σ7 H7 n7
      refine ⟨m', hm, i + 1, σ7, H7, I7.unpinned, T.keep _ _ _ st5 fun b hb o e => (I7.pin (b, o) (List.mem_append_right _ (List.mem_append_right _ (mem_pinsAt hb e)))).1, fun b hb => ?_, w7⟩
      obtain ⟨o, e, d⟩ := T.obj _ _ st5 b hb
      exact (I7.pin (b, o) (List.mem_append_right _ (List.mem_append_right _ (mem_pinsAt hb e)))).2.1
    cases f with
    | next => obtain ⟨σ7, H7, I7, n7⟩ := q7; exact again I7 n7
    | cont => obtain ⟨σ7, H7, I7, n7⟩ := q7; exact again I7 n7
    | brk => obtain ⟨σ7, H7, I7, q7⟩ := q7; exact ⟨σ7, H7, I7.unpinned, q7⟩
    | ret v => obtain ⟨x7, σ7, H7, I7, r7, q7⟩ := q7; exact ⟨x7, σ7, H7, I7.unpinned, r7, q7⟩
end
/-! ### the forms one uses -/
/-- over a list that the body leaves as it is -/
theorem for_list {K : PySem.W.Frag} {a : Addr} {xs : List V} {g : TG} {tb : TS} {D : Ends} {σ : St} {H : Hp} (Pv : Nat → St → Hp → Prop) (h0 : Pv 0 σ H) (hl : ∀ i σ H, i ≤ xs.length → Pv i σ H → SqL K H a xs)
    (hs : ∀ i x σ H, xs[i]? = some x → Pv i σ H → g x σ H fun σ2 H2 => tb { D with nx := Pv (i + 1), ct := Pv (i + 1), bk := D.nx } σ2 H2) (hd : ∀ σ H, Pv xs.length σ H → D.nx σ H) :
    ∃ W : Nat → Nat → St → Hp → Prop, (∃ m, W 0 m σ H) ∧ ∀ i m σ H, W i m σ H →
      ((Itl K a).stop i H ∧ D.nx σ H) ∨ ((Itl K a).go i H ∧ ∃ N : St → Hp → Prop, (∀ σ' H', N σ' H' → ∃ m', m' < m ∧ W (i + 1) m' σ' H') ∧ ∀ x H', (Itl K a).yld i H x H' → g x σ H' fun σ2 H2 => tb { D with nx := N, ct := N, bk := D.nx } σ2 H2) := by
  refine ⟨fun i m σ H => m = xs.length - i ∧ i ≤ xs.length ∧ Pv i σ H, ⟨xs.length, by simp, Nat.zero_le _, h0⟩, ?_⟩
  rintro i m σ H ⟨rfl, hi, p⟩
  have q := hl i σ H hi p
  by_cases hlt : i < xs.length
  · refine .inr ⟨⟨xs, xs[i], q, by simp [hlt]⟩, Pv (i + 1), fun σ' H' p' => ⟨xs.length - (i + 1), by omega, rfl, hlt, p'⟩, fun x H' y => ?_⟩
    obtain ⟨e, y⟩ := y
    subst e
    exact hs i x σ _ (y xs q) p
  · have e : i = xs.length := by omega
    subst e
    exact .inl ⟨⟨xs, q, Nat.le_refl _⟩, hd σ H p⟩
theorem for_range {lo : Int} {n : Nat} {g : TG} {tb : TS} {D : Ends} {σ : St} {H : Hp} (Pv : Nat → St → Hp → Prop) (h0 : Pv 0 σ H)
    (hs : ∀ i σ H, i < n → Pv i σ H → g (.int (lo + i)) σ H fun σ2 H2 => tb { D with nx := Pv (i + 1), ct := Pv (i + 1), bk := D.nx } σ2 H2) (hd : ∀ σ H, Pv n σ H → D.nx σ H) :
    ∃ W : Nat → Nat → St → Hp → Prop, (∃ m, W 0 m σ H) ∧ ∀ i m σ H, W i m σ H →
      ((Itr lo n).stop i H ∧ D.nx σ H) ∨ ((Itr lo n).go i H ∧ ∃ N : St → Hp → Prop, (∀ σ' H', N σ' H' → ∃ m', m' < m ∧ W (i + 1) m' σ' H') ∧ ∀ x H', (Itr lo n).yld i H x H' → g x σ H' fun σ2 H2 => tb { D with nx := N, ct := N, bk := D.nx } σ2 H2) := by
  refine ⟨fun i m σ H => m = n - i ∧ i ≤ n ∧ Pv i σ H, ⟨n, by simp, Nat.zero_le _, h0⟩, ?_⟩
  rintro i m σ H ⟨rfl, hi, p⟩
  by_cases hlt : i < n
  · refine .inr ⟨hlt, Pv (i + 1), fun σ' H' p' => ⟨n - (i + 1), by omega, rfl, hlt, p'⟩, fun x H' y => ?_⟩
    obtain ⟨e, y⟩ := y
    subst e y
    exact hs i σ _ hlt p
  · have e : i = n := by omega
    subst e
    exact .inl ⟨Nat.le_refl _, hd σ H p⟩
end L2
namespace L2
open PySem PySem.Spec PyProof.Rows
abbrev R2 := V → V → Hp → VK → Prop
/-- a two-place operation on values: f is binaryOp op, inplaceOp op or compareOp op -/
def OpR (X : Cx) (f : Value → Value → Sem Value) (r : R2) : Prop :=
  ∀ (pins : List (Addr × Obj)) (s : Shared) (σ : St) (H : Hp) (x y : V) (v u : Value) (Q : VK), Inv X pins σ H s → RelV x v → RelV y u → r x y H Q →
    wpAny (model X.prog X.w) X.A (f v u) (EP X pins σ Q) X.xe s
/-- a one-place operation -/
def UnR (X : Cx) (f : Value → Sem Value) (r : V → Hp → VK → Prop) : Prop :=
  ∀ (pins : List (Addr × Obj)) (s : Shared) (σ : St) (H : Hp) (x : V) (v : Value) (Q : VK), Inv X pins σ H s → RelV x v → r x H Q →
    wpAny (model X.prog X.w) X.A (f v) (EP X pins σ Q) X.xe s
/-- a call of a value that is known (a builtin, a type) with values -/
def CallR (X : Cx) (f : Value) (r : List V → Hp → VK → Prop) : Prop :=
  ∀ (pins : List (Addr × Obj)) (s : Shared) (σ : St) (H : Hp) (xs : List V) (us : List Value) (Q : VK), Inv X pins σ H s → Vals xs us → r xs H Q →
    wpAny (model X.prog X.w) X.A (call f us) (EP X pins σ Q) X.xe s
def tOp (r : R2) (ta tb : TE) : TE := fun σ H Q => ta σ H fun x H1 => tb σ H1 fun y H2 => r x y H2 Q
def tUn (r : V → Hp → VK → Prop) (ta : TE) : TE := fun σ H Q => ta σ H fun x H1 => r x H1 Q
/-- ints in, under C, and a value out -/
def rI (C : Int → Int → Prop) (g : Int → Int → V) : R2 := fun x y H Q => ∃ i j, x = .int i ∧ y = .int j ∧ C i j ∧ Q (g i j) H
def rI0 (g : Int → Int → V) : R2 := fun x y H Q => ∃ i j, x = .int i ∧ y = .int j ∧ Q (g i j) H
def rU (g : Int → V) : V → Hp → VK → Prop := fun x H Q => ∃ i, x = .int i ∧ Q (g i) H
section
variable {X : Cx} {a b c : Expr} {ta tb tc : TE} {pos : Pos}
theorem binT (ha : PE X a ta) (hb : PE X b tb) {pins : List (Addr × Obj)} {s : Shared} {σ : St} {H : Hp} {R : V → V → Hp → Prop} (I : Inv X pins σ H s)
    (h : ta σ H fun x H1 => tb σ H1 fun y H2 => R x y H2) {Q : Value → Shared → Prop} {f : Value → Value → Sem Value}
    (hf : ∀ v u s2 x y H2, Inv X pins σ H2 s2 → RelV x v → RelV y u → R x y H2 → wpAny (model X.prog X.w) X.A (f v u) Q X.xe s2) :
    wpAny (model X.prog X.w) X.A (eval a X.env) (fun v s₁ => wpAny (model X.prog X.w) X.A (eval b X.env) (fun u s₂ => wpAny (model X.prog X.w) X.A (f v u) Q X.xe s₂) X.xe s₁) X.xe s := by
  refine thn (ha pins s σ H _ I h) fun v s1 ⟨x, H1, I1, r1, q1⟩ => ?_
  refine thn (hb pins s1 σ H1 _ I1 q1) fun u s2 ⟨y, H2, I2, r2, q2⟩ => ?_
  exact hf v u s2 x y H2 I2 r1 r2 q2
theorem pe_op {op : Operator} {r : R2} (ho : OpR X (binaryOp op) r) (ha : PE X a ta) (hb : PE X b tb) : PE X (.BinOp a op b pos) (tOp r ta tb) := by
  intro pins s σ H Q I h
  exact wpAny_BinOp (binT ha hb I h fun v u s2 x y H2 I2 rx ry q => ho pins s2 σ H2 x y v u Q I2 rx ry q)
theorem pe_un {op : UnaryOp} {r : V → Hp → VK → Prop} (ho : UnR X (unaryOp op) r) (ha : PE X a ta) : PE X (.UnaryOp op a pos) (tUn r ta) := by
  intro pins s σ H Q I h
  exact UnaryOp_ (thn (ha pins s σ H _ I h) fun v s1 ⟨x, H1, I1, r1, q1⟩ => ho pins s1 σ H1 x v Q I1 r1 q1)
/-! ### ints -/
theorem opI {f : Value → Value → Sem Value} {C : Int → Int → Prop} {g : Int → Int → Int}
    (rule : ∀ (i j : Int) (t u : Tok) (s : Shared) (Q : Value → Shared → Prop) (E : Value → Shared → Prop), C i j → Q (.int (g i j) s.toks) { s with toks := s.toks + 1 } → wpAny (model X.prog X.w) X.A (f (.int i t) (.int j u)) Q E s) :
    OpR X f (rI C fun i j => .int (g i j)) := by
  intro pins s σ H x y v u Q I rx ry h
  obtain ⟨i, j, rfl, rfl, hc, q⟩ := h
  obtain ⟨t, rfl⟩ := rx
  obtain ⟨t', rfl⟩ := ry
  exact rule i j t t' s _ _ hc ⟨.int (g i j), H, I.tok _, ⟨_, rfl⟩, q⟩
theorem opI0 {f : Value → Value → Sem Value} {g : Int → Int → Int}
    (rule : ∀ (i j : Int) (t u : Tok) (s : Shared) (Q : Value → Shared → Prop) (E : Value → Shared → Prop), Q (.int (g i j) s.toks) { s with toks := s.toks + 1 } → wpAny (model X.prog X.w) X.A (f (.int i t) (.int j u)) Q E s) :
    OpR X f (rI0 fun i j => .int (g i j)) := by
  intro pins s σ H x y v u Q I rx ry h
  obtain ⟨i, j, rfl, rfl, q⟩ := h
  obtain ⟨t, rfl⟩ := rx
  obtain ⟨t', rfl⟩ := ry
  exact rule i j t t' s _ _ ⟨.int (g i j), H, I.tok _, ⟨_, rfl⟩, q⟩
theorem opB0 {f : Value → Value → Sem Value} {g : Int → Int → Bool}
    (rule : ∀ (i j : Int) (t u : Tok) (s : Shared) (Q : Value → Shared → Prop) (E : Value → Shared → Prop), Q (.bool (g i j)) s → wpAny (model X.prog X.w) X.A (f (.int i t) (.int j u)) Q E s) :
    OpR X f (rI0 fun i j => .bl (g i j)) := by
  intro pins s σ H x y v u Q I rx ry h
  obtain ⟨i, j, rfl, rfl, q⟩ := h
  obtain ⟨t, rfl⟩ := rx
  obtain ⟨t', rfl⟩ := ry
  exact rule i j t t' s _ _ ⟨.bl (g i j), H, I, rfl, q⟩
def CDiv (i j : Int) : Prop := 0 < j ∧ j < 1073741824
def CMul (i j : Int) : Prop := (-(2 ^ 64) < i ∧ i < 2 ^ 64) ∨ (-(2 ^ 64) < j ∧ j < 2 ^ 64)
theorem CMul.ok {i j : Int} (h : CMul i j) : IntMulOk i j := by
  rcases h with ⟨h1, h2⟩ | ⟨h1, h2⟩
  · exact .of_left (intBits_le_64 h1 h2)
  · exact .of_right (intBits_le_64 h1 h2)
theorem op_add : OpR X (binaryOp .Add) (rI0 fun i j => .int (i + j)) := opI0 fun _ _ _ _ _ _ _ q => add_int q
theorem op_sub : OpR X (binaryOp .Sub) (rI0 fun i j => .int (i - j)) := opI0 fun _ _ _ _ _ _ _ q => sub_int q
theorem op_mul : OpR X (binaryOp .Mult) (rI CMul fun i j => .int (i * j)) := opI fun _ _ _ _ _ _ _ hc q => mul_int q hc.ok
/-- // by a positive divisor -/
theorem op_fdiv : OpR X (binaryOp .FloorDiv) (rI CDiv fun i j => .int (i / j)) := opI fun i j _ _ _ _ _ hc q => by
  have h1 : (0 : Int) < j := hc.1
  have h2 : j < 1073741824 := hc.2
  exact floordiv_int (by omega) (by rw [Int.fdiv_eq_ediv_of_nonneg i (by omega)]; exact q) (.inl (PyProof.noPylong_small (by omega)))
/-- % by a positive divisor of any size -/
theorem op_mod : OpR X (binaryOp .Mod) (rI (fun _ j => 0 < j) fun i j => .int (i % j)) := opI fun i j _ _ _ _ _ hc q => by
  have h1 : (0 : Int) < j := hc
  exact mod_int' (by omega) (by rw [Int.fmod_eq_emod_of_nonneg i (by omega)]; exact q)
theorem unI {f : Value → Sem Value} {g : Int → Int}
    (rule : ∀ (i : Int) (t : Tok) (s : Shared) (Q : Value → Shared → Prop) (E : Value → Shared → Prop), Q (.int (g i) s.toks) { s with toks := s.toks + 1 } → wpAny (model X.prog X.w) X.A (f (.int i t)) Q E s) :
    UnR X f (rU fun i => .int (g i)) := by
  intro pins s σ H x v Q I rx h
  obtain ⟨i, rfl, q⟩ := h
  obtain ⟨t, rfl⟩ := rx
  exact rule i t s _ _ ⟨.int (g i), H, I.tok _, ⟨_, rfl⟩, q⟩
theorem un_neg : UnR X (unaryOp .USub) (rU fun i => .int (-i)) := unI fun _ _ _ _ _ q => neg_int q
/-! ### bools among ints: n += (a < b) -/
end
/-! ### comparisons -/
/-- the scalars that == tells apart as data does -/
def scal : V → V → Bool
  | .non, .non => true | .non, .int _ => true | .int _, .non => true | .non, .bl _ => true | .bl _, .non => true | .non, .str _ => true | .str _, .non => true
  | .int _, .int _ => true | .bl _, .bl _ => true | .str _, .str _ => true | .byt _, .byt _ => true
  | .int _, .str _ => true | .str _, .int _ => true | .bl _, .str _ => true | .str _, .bl _ => true
  | _, _ => false
def rEq : R2 := fun x y H Q => scal x y = true ∧ Q (.bl (decide (x = y))) H
def rNe : R2 := fun x y H Q => scal x y = true ∧ Q (.bl (!decide (x = y))) H
theorem dec_int {i j : Int} : decide (V.int i = V.int j) = (i == j) := by
  rw [Bool.eq_iff_iff]
  simp
theorem dec_bl {i j : Bool} : decide (V.bl i = V.bl j) = (i == j) := by
  rw [Bool.eq_iff_iff]
  simp
theorem dec_str {i j : Str} : decide (V.str i = V.str j) = (i == j) := by
  rw [Bool.eq_iff_iff]
  simp
theorem dec_byt {i j : Array UInt8} : decide (V.byt i = V.byt j) = (i.toList == j.toList) := by
  rw [Bool.eq_iff_iff]
  cases i
  cases j
  simp
section
variable {X : Cx} {a b c : Expr} {ta tb tc : TE} {pos : Pos}
theorem fin_bl {pins : List (Addr × Obj)} {σ : St} {H : Hp} {s : Shared} {Q : VK} {k k' : Bool} (I : Inv X pins σ H s) (q : Q (.bl k) H) (e : k = k') : EP X pins σ Q (.bool k') s := by
  subst e
  exact ⟨.bl k, H, I, rfl, q⟩
theorem op_eq : OpR X (compareOp .Eq) rEq := by
  intro pins s σ H x y v u Q I rx ry h
  obtain ⟨hs, q⟩ := h
  cases x with
  | non =>
    cases rx
    cases y with
    | non => cases ry; exact PySem.EqNone.eq_none_none (fin_bl I q (by simp))
    | bl j => cases ry; exact PySem.EqNone.eq_none_bool (fin_bl I q (by simp))
    | int j => obtain ⟨t', rfl⟩ := ry; exact PySem.EqNone.eq_none_int (fin_bl I q (by simp))
    | str j => obtain ⟨t', rfl⟩ := ry; exact PySem.EqNone.eq_none_str (fin_bl I q (by simp))
    | _ => exact absurd (show false = true from hs) Bool.false_ne_true
  | bl i =>
    cases rx
    cases y with
    | non => cases ry; exact PySem.EqNone.eq_bool_none (fin_bl I q (by simp))
    | bl j => cases ry; exact eq_bool (fin_bl I q dec_bl)
    | str j => obtain ⟨t', rfl⟩ := ry; exact PySem.EqMixed.eq_bool_str (fin_bl I q (by simp))
    | _ => exact absurd (show false = true from hs) Bool.false_ne_true
  | int i =>
    obtain ⟨t, rfl⟩ := rx
    cases y with
    | non => cases ry; exact PySem.EqNone.eq_int_none (fin_bl I q (by simp))
    | int j => obtain ⟨t', rfl⟩ := ry; exact eq_int (fin_bl I q dec_int)
    | str j => obtain ⟨t', rfl⟩ := ry; exact PySem.EqMixed.eq_int_str (fin_bl I q (by simp))
    | _ => exact absurd (show false = true from hs) Bool.false_ne_true
  | str i =>
    obtain ⟨t, rfl⟩ := rx
    cases y with
    | non => cases ry; exact PySem.EqNone.eq_str_none (fin_bl I q (by simp))
    | bl j => cases ry; exact PySem.EqMixed.eq_str_bool (fin_bl I q (by simp))
    | int j => obtain ⟨t', rfl⟩ := ry; exact PySem.EqMixed.eq_str_int (fin_bl I q (by simp))
    | str j => obtain ⟨t', rfl⟩ := ry; exact eq_str (fin_bl I q dec_str)
    | _ => exact absurd (show false = true from hs) Bool.false_ne_true
  | byt i =>
    obtain ⟨t, rfl⟩ := rx
    cases y with
    | byt j => obtain ⟨t', rfl⟩ := ry; exact PySem.W.eq_bytes (fin_bl I q dec_byt)
    | _ => exact absurd (show false = true from hs) Bool.false_ne_true
  | _ => cases y <;> exact absurd (show false = true from hs) Bool.false_ne_true
theorem op_ne : OpR X (compareOp .NotEq) rNe := by
  intro pins s σ H x y v u Q I rx ry h
  obtain ⟨hs, q⟩ := h
  cases x with
  | non =>
    cases rx
    cases y with
    | non => cases ry; exact PySem.EqNone.ne_none_none (fin_bl I q (by simp))
    | bl j => cases ry; exact PySem.EqNone.ne_none_bool (fin_bl I q (by simp))
    | int j => obtain ⟨t', rfl⟩ := ry; exact PySem.EqNone.ne_none_int (fin_bl I q (by simp))
    | str j => obtain ⟨t', rfl⟩ := ry; exact PySem.EqNone.ne_none_str (fin_bl I q (by simp))
    | _ => exact absurd (show false = true from hs) Bool.false_ne_true
  | bl i =>
    cases rx
    cases y with
    | non => cases ry; exact PySem.EqNone.ne_bool_none (fin_bl I q (by simp))
    | bl j => cases ry; exact ne_bool (fin_bl I q (congrArg not dec_bl))
    | str j => obtain ⟨t', rfl⟩ := ry; exact PySem.EqMixed.ne_bool_str (fin_bl I q (by simp))
    | _ => exact absurd (show false = true from hs) Bool.false_ne_true
  | int i =>
    obtain ⟨t, rfl⟩ := rx
    cases y with
    | non => cases ry; exact PySem.EqNone.ne_int_none (fin_bl I q (by simp))
    | int j => obtain ⟨t', rfl⟩ := ry; exact ne_int (fin_bl I q (congrArg not dec_int))
    | str j => obtain ⟨t', rfl⟩ := ry; exact PySem.EqMixed.ne_int_str (fin_bl I q (by simp))
    | _ => exact absurd (show false = true from hs) Bool.false_ne_true
  | str i =>
    obtain ⟨t, rfl⟩ := rx
    cases y with
    | non => cases ry; exact PySem.EqNone.ne_str_none (fin_bl I q (by simp))
    | bl j => cases ry; exact PySem.EqMixed.ne_str_bool (fin_bl I q (by simp))
    | int j => obtain ⟨t', rfl⟩ := ry; exact PySem.EqMixed.ne_str_int (fin_bl I q (by simp))
    | str j => obtain ⟨t', rfl⟩ := ry; exact ne_str (fin_bl I q (congrArg not dec_str))
    | _ => exact absurd (show false = true from hs) Bool.false_ne_true
  | byt i =>
    obtain ⟨t, rfl⟩ := rx
    cases y with
    | byt j => obtain ⟨t', rfl⟩ := ry; exact PySem.W.ne_bytes (fin_bl I q (congrArg not dec_byt))
    | _ => exact absurd (show false = true from hs) Bool.false_ne_true
  | _ => cases y <;> exact absurd (show false = true from hs) Bool.false_ne_true
theorem op_lt : OpR X (compareOp .Lt) (rI0 fun i j => .bl (decide (i < j))) := opB0 fun _ _ _ _ _ _ _ q => lt_int q
theorem op_le : OpR X (compareOp .LtE) (rI0 fun i j => .bl (decide (i ≤ j))) := opB0 fun _ _ _ _ _ _ _ q => le_int q
theorem op_gt : OpR X (compareOp .Gt) (rI0 fun i j => .bl (decide (j < i))) := opB0 fun _ _ _ _ _ _ _ q => gt_int q
theorem op_ge : OpR X (compareOp .GtE) (rI0 fun i j => .bl (decide (j ≤ i))) := opB0 fun _ _ _ _ _ _ _ q => ge_int q
theorem nomark (b : Expr) {op : CmpOp} (h : op ≠ .In := by decide) (h2 : op ≠ .NotIn := by decide) : behindInMarks op b = false := by
  have e1 : (op == CmpOp.In) = false := by cases op <;> first | rfl | exact absurd rfl h
  have e2 : (op == CmpOp.NotIn) = false := by cases op <;> first | rfl | exact absurd rfl h2
  cases b <;> simp [behindInMarks, e1, e2]
/-- a comparison as a value; hm: nomark b, or (for in, not in) by with_unfolding_all rfl -/
theorem pe_cmpR {op : CmpOp} {r : R2} (ho : OpR X (compareOp op) r) (ha : PE X a ta) (hb : PE X b tb) (hm : behindInMarks op b = false) : PE X (.Compare a [op] [b] pos) (tOp r ta tb) := by
  intro pins s σ H Q I h
  exact wpAny_Compare1 (binT ha hb I h fun v u s2 x y H2 I2 rx ry q => ho pins s2 σ H2 x y v u Q I2 rx ry q) hm
/-- a reading of a value as a test -/
def tTest (t : TE) : TT := fun σ H Q => t σ H fun x H' => ∃ k, x = .bl k ∧ Q k H'
theorem pt_cmpR {op : CmpOp} {r : R2} (ho : OpR X (compareOp op) r) (ha : PE X a ta) (hb : PE X b tb) (hm : behindInMarks op b = false) : PT X (.Compare a [op] [b] pos) (tTest (tOp r ta tb)) := by
  intro pins s σ H Q I h
  refine wpAny_isTrue_Compare1 (thn (ha pins s σ H _ I h) fun v s1 ⟨x, H1, I1, r1, q1⟩ => thn (hb pins s1 σ H1 _ I1 q1) fun u s2 ⟨y, H2, I2, r2, q2⟩ =>
    thn (ho pins s2 σ H2 x y v u _ I2 r1 r2 q2) fun c s3 ⟨z, H3, I3, r3, k, e, q3⟩ => ?_) hm
  subst e
  cases r3
  exact wpAny_truthy_bool ⟨H3, I3, q3⟩
/-- a op1 b op2 c -/
def tChain (r r' : R2) (ta tb tc : TE) : TE := fun σ H Q => ta σ H fun x H1 => tb σ H1 fun y H2 => r x y H2 fun z H3 => ∃ k, z = .bl k ∧
  (if k = true then tc σ H3 fun w' H4 => r' y w' H4 Q else Q (.bl false) H3)
theorem pe_chain {op op' : CmpOp} {r r' : R2} (ho : OpR X (compareOp op) r) (ho' : OpR X (compareOp op') r') (ha : PE X a ta) (hb : PE X b tb) (hc : PE X c tc)
    (hm : lastMarks [op, op'] [b, c] = false := by with_unfolding_all rfl) : PE X (.Compare a [op, op'] [b, c] pos) (tChain r r' ta tb tc) := by
  intro pins s σ H Q I h
  refine Compare_chain (thn (ha pins s σ H _ I h) fun v s1 ⟨x, H1, I1, r1, q1⟩ => chain_link (thn (hb pins s1 σ H1 _ I1 q1) fun u s2 ⟨y, H2, I2, r2, q2⟩ =>
    thn (ho pins s2 σ H2 x y v u _ I2 r1 r2 q2) fun d s3 ⟨z, H3, I3, r3, k, e, q3⟩ => ?_)) hm
  subst e
  cases r3
  refine wpAny_truthy_bool ?_
  cases k with
  | false => exact ite_ff ⟨.bl false, H3, I3, rfl, q3⟩
  | true => exact ite_tt (chain_last (thn (hc pins s3 σ H3 _ I3 q3) fun w' s4 ⟨z', H4, I4, r4, q4⟩ => ho' pins s4 σ H4 y z' u w' Q I4 r2 r4 q4))
theorem pt_chain {op op' : CmpOp} {r r' : R2} (ho : OpR X (compareOp op) r) (ho' : OpR X (compareOp op') r') (ha : PE X a ta) (hb : PE X b tb) (hc : PE X c tc)
    (hm : lastMarks [op, op'] [b, c] = false := by with_unfolding_all rfl) : PT X (.Compare a [op, op'] [b, c] pos) (tTest (tChain r r' ta tb tc)) := by
  intro pins s σ H Q I h
  refine isTrue_chain (thn (ha pins s σ H _ I h) fun v s1 ⟨x, H1, I1, r1, q1⟩ => test_link (thn (hb pins s1 σ H1 _ I1 q1) fun u s2 ⟨y, H2, I2, r2, q2⟩ =>
    thn (ho pins s2 σ H2 x y v u _ I2 r1 r2 q2) fun d s3 ⟨z, H3, I3, r3, k, e, q3⟩ => ?_)) hm
  subst e
  cases r3
  refine wpAny_truthy_bool ?_
  cases k with
  | false =>
    obtain ⟨k', e', q'⟩ := q3
    cases e'
    exact ite_ff ⟨H3, I3, q'⟩
  | true =>
    refine ite_tt (test_last (thn (hc pins s3 σ H3 _ I3 q3) fun w' s4 ⟨z', H4, I4, r4, q4⟩ => thn (ho' pins s4 σ H4 y z' u w' _ I4 r2 r4 q4) fun d' s5 ⟨z2, H5, I5, r5, k2, e2, q5⟩ => ?_))
    subst e2
    cases r5
    exact wpAny_truthy_bool ⟨H5, I5, q5⟩
/-! ### truth -/
theorem line63 : (sizeLine : Nat) < 2 ^ 63 := by rw [sizeLine_eq]; decide
/-! ### strs and bytes -/
/-! ### scalar builtins, by CallR -/
theorem vals1 {x : V} {us : List Value} (r : Vals [x] us) : ∃ u, us = [u] ∧ RelV x u := by
  cases r with
  | cons r1 r2 => cases r2; exact ⟨_, rfl, r1⟩
theorem vals2 {x y : V} {us : List Value} (r : Vals [x, y] us) : ∃ u w', us = [u, w'] ∧ RelV x u ∧ RelV y w' := by
  cases r with
  | cons r1 r2 =>
    cases r2 with
    | cons r3 r4 => cases r4; exact ⟨_, _, rfl, r1, r3⟩
theorem call_abs : CallR X (.builtin "abs") (fun xs H Q => ∃ i, xs = [.int i] ∧ Q (.int (if i < 0 then -i else i)) H) := by
  intro pins s σ H xs us Q I r h
  obtain ⟨i, rfl, q⟩ := h
  obtain ⟨u, rfl, t, rfl⟩ := vals1 r
  exact call_abs_int fun u tk => ⟨.int (if i < 0 then -i else i), H, I.tok _, ⟨_, rfl⟩, q⟩
theorem call_max2 (hc : X.calm = true) : CallR X (.builtin "max") (fun xs H Q => ∃ i j, xs = [.int i, .int j] ∧ Q (.int (if j > i then j else i)) H) := by
  intro pins s σ H xs us Q I r h
  obtain ⟨i, j, rfl, q⟩ := h
  obtain ⟨u, w', rfl, ⟨t, rfl⟩, ⟨t', rfl⟩⟩ := vals2 r
  refine max_two_ints (I.ok.hd hc) fun h' tk k => ⟨_, H, I.kept k, ?_, q⟩
  by_cases hj : j > i
  · rw [if_pos hj, if_pos hj]; exact ⟨_, rfl⟩
  · rw [if_neg hj, if_neg hj]; exact ⟨_, rfl⟩
theorem call_min2 (hc : X.calm = true) : CallR X (.builtin "min") (fun xs H Q => ∃ i j, xs = [.int i, .int j] ∧ Q (.int (if j < i then j else i)) H) := by
  intro pins s σ H xs us Q I r h
  obtain ⟨i, j, rfl, q⟩ := h
  obtain ⟨u, w', rfl, ⟨t, rfl⟩, ⟨t', rfl⟩⟩ := vals2 r
  refine min_two_ints (I.ok.hd hc) fun h' tk k => ⟨_, H, I.kept k, ?_, q⟩
  by_cases hj : j < i
  · rw [if_pos hj, if_pos hj]; exact ⟨_, rfl⟩
  · rw [if_neg hj, if_neg hj]; exact ⟨_, rfl⟩
end
end L2
namespace L2
open PySem PySem.Spec PyProof.Rows
/-! ### an instance, its attributes a map -/
structure ObjM (h : Heap) (x dx C : Addr) (mA : Str → Option Value) : Prop where
  obj : h.get? x = some (PySem.W.instObj C dx)
  ns : h.Ns1 dx mA
  ne : dx ≠ x
theorem lookIn_ns {h : Heap} {dx : Addr} {mA : Str → Option Value} (n : h.Ns1 dx mA) : ∃ od, h.get? dx = some od ∧ ∀ name, PySem.W.lookIn name od = some (mA name) := by
  obtain ⟨o, es, ep, ho, hd, hk, _, hm⟩ := n
  refine ⟨o, ho, fun name => ?_⟩
  have e := hm name
  unfold nsFind findBy at e
  rw [← Array.find?_toList] at e
  unfold PySem.W.lookIn
  rw [hd]
  dsimp only
  split
  · rename_i y q
    rw [q] at e
    exact congrArg some e
  · rename_i q
    rw [q] at e
    have a : es.toList.any (·.refKey) = false := by
      rw [List.any_eq_false]
      intro y hy
      obtain ⟨z, t, hkey⟩ := hk y (Array.mem_toList_iff.mp hy)
      simp [DictEntry.refKey, hkey]
    have a' : ¬ es.toList.any (·.refKey) = true := by rw [a]; exact Bool.false_ne_true
    rw [if_neg a']
    exact congrArg some e
theorem ObjM.look {h : Heap} {x dx C : Addr} {mA : Str → Option Value} (I : ObjM h x dx C mA) : ∃ od, PySem.W.InstAt h x (PySem.W.instObj C dx) C (some od) ∧ ∀ name, PySem.W.lookIn name od = some (mA name) :=
  let ⟨od, ho, hl⟩ := lookIn_ns I.ns
  ⟨od, ⟨I.obj, rfl, rfl, ho⟩, hl⟩
section
variable {prog : Program} {w : World} {A : Around} {E : Value → Shared → Prop} {s : Shared} {K : PySem.W.Frag} {x dx C f : Addr} {mA : Str → Option Value} {name : Str} {v : Value}
theorem get_map {expr : Bool} {Q : Value → Shared → Prop} (X : K.In s.heap) (I : ObjM s.heap x dx C mA) (hg : PySem.W.plainGet K C name = true) (hh : PySem.W.hasDictIn K C = true)
    (ha : PySem.W.findIn K (.ref C) name = some none) (hv : mA name = some v) (hv' : PySem.W.handedIn v = true) (h : Q v { s with toks := s.toks + 1 }) :
    wpAny (model prog w) A (getAttr (.ref x) name expr) Q E s := by
  obtain ⟨od, J, hl⟩ := I.look
  exact PySem.W.get_value X J (PySem.W.plainGet_of hg).1 (PySem.W.findObj_own hh ha rfl (by rw [hl, hv])) hv' h
theorem get_meth {pl : Sem Bool} {Q : Value × List Value → Shared → Prop} (X : K.In s.heap) (I : ObjM s.heap x dx C mA) (hg : PySem.W.plainGet K C name = true)
    (hf : PySem.W.findIn K (.ref C) name = some (some (.ref f))) (ht : PySem.W.isFn K (.ref f) = true) (hv : mA name = none) (h : Q (.ref f, [.ref x]) s) :
    wpAny (model prog w) A (getMethod (.ref x) name pl) Q E s := by
  obtain ⟨od, J, hl⟩ := I.look
  exact PySem.W.method_fn X J (PySem.W.plainGet_of hg).1 (PySem.W.plainGet_of hg).2 hf (beq_iff_eq.mp ht) (by show (PySem.W.lookIn name od).map (·.isSome) = some false; rw [hl, hv]; rfl) h
theorem set_map {ns : List Str} {Q : Unit → Shared → Prop} (X : K.In s.heap) (I : ObjM s.heap x dx C mA)
    (hs : PySem.W.findIn K (.ref C) "__setattr__" = some (some (.builtin "object.__setattr__"))) (hp : PySem.W.plainOver K C = true) (ht : PySem.W.takerIn K C name = some none) (hh : PySem.W.hasDictIn K C = true)
    (hw : PySem.Within mA ns) (hsz : ns.length ≤ sizeLine)
    (h : ∀ h', ObjM h' x dx C (fun y => if y = name then some v else mA y) → Heap.SameBut dx s.heap h' → Q () { s with heap := h', toks := s.toks + 2 }) :
    wpAny (model prog w) A (setAttr (.ref x) name v) Q E s := by
  obtain ⟨od, J, hl⟩ := I.look
  refine PySem.W.set_plain X J hs (PySem.W.osa_open (s := { s with toks := s.toks + 1 }) (r := none) X J hp ht fun b => ?_)
  obtain ⟨cd, hc, hd'⟩ := PySem.W.any_some hh
  have hx : s.heap.get? x = some ⟨.ref C, some dx, .plain, #[]⟩ := I.obj
  refine wpAny_bind (wpAny_pure (wpAny_bind (wpAny_bind (wpAny_loadPart hx (wpAny_bind (PySem.W.Looks.here (s := { s with toks := s.toks + 1 }) (PySem.W.looks_clsIn X hc) ?_))))))
  rw [hd']
  refine wpAny_pure (a := some dx) (wpAny_bind (wpAny_pure (wpAny_bind ?_)))
  refine wpAny_nsSet1 (s := { s with toks := s.toks + 1 }) I.ns fun h' hn2 hs2 => ?_
  obtain ⟨oD, esD, epD, hoD, hdD, hcD⟩ := hn2.count (PySem.Within.cons name v hw)
  refine wpAny_bind (wpAny_lookBehind hoD (by rw [hdD]; exact pastItsLine_dict (Nat.le_trans hcD (by rw [List.length_cons]; omega))) ?_)
  exact wpAny_pure (h _ ⟨(hs2.2 _ (Ne.symm I.ne)).trans I.obj, hn2, I.ne⟩ hs2)
/-- C(..): the dict at the heap's end, the instance behind it; then its __init__ -/
theorem make_map {R : Result → Shared → Prop} {vs : List Value} {kw : List (Str × Value)} (X : K.In s.heap) (hm : PySem.W.makesIn K C = true)
    (hi : PySem.W.findIn K (.ref C) "__init__" = some (some (.ref f))) (hf : PySem.W.typeIn K (.ref f) = some (.type "function"))
    (h : codeAny (model prog w) (A.under (.builtin "type.__call__" ⟨.ref C :: vs, kw⟩)) (.call (.ref f) ⟨.ref (s.heap.objs.size + 1) :: vs, kw⟩) (PySem.W.InitBack (s.heap.objs.size + 1) R)
      { s with heap := (s.heap.push PySem.W.emptyDict).push (PySem.W.instObj C s.heap.objs.size) }) :
    codeAny (model prog w) A (.call (.ref C) ⟨vs, kw⟩) R s := by
  obtain ⟨hh, g, d, t, os⟩ := s
  exact PySem.W.make_core (PySem.W.makes_of X hm) (PySem.W.looks_findIn X hi) (fun self => PySem.W.bind_fn X self hf) (.inl rfl) h
end
/-! ### the attributes as a list of pairs -/
def putF (f : Str) (v : V) : List (Str × V) → List (Str × V)
  | [] => [(f, v)]
  | (g, x) :: r => if g = f then (g, v) :: r else (g, x) :: putF f v r
theorem lookup_putF (f g : Str) (v : V) : ∀ fs : List (Str × V), (putF f v fs).lookup g = if g = f then some v else fs.lookup g
  | [] => by
    show List.lookup g [(f, v)] = _
    by_cases h : g = f
    · have hb : (g == f) = true := beq_iff_eq.mpr h
      simp only [List.lookup, hb, if_pos h]
    · have hb : (g == f) = false := beq_eq_false_iff_ne.mpr h
      simp only [List.lookup, hb, if_neg h]
  | (k, x) :: r => by
    have ih := lookup_putF f g v r
    rw [show putF f v ((k, x) :: r) = (if k = f then (k, v) :: r else (k, x) :: putF f v r) from rfl]
    by_cases hk : k = f
    · rw [if_pos hk]
      by_cases h : g = k
      · have hb : (g == k) = true := beq_iff_eq.mpr h
        simp only [List.lookup, hb, if_pos (h.trans hk)]
      · have hb : (g == k) = false := beq_eq_false_iff_ne.mpr h
        simp only [List.lookup, hb, if_neg (fun e : g = f => h (e.trans hk.symm))]
    · rw [if_neg hk]
      by_cases h : g = k
      · have hb : (g == k) = true := beq_iff_eq.mpr h
        simp only [List.lookup, hb, if_neg (fun e : g = f => hk (h.symm.trans e))]
      · have hb : (g == k) = false := beq_eq_false_iff_ne.mpr h
        simp only [List.lookup, hb]
        exact ih
theorem keys_putF (f : Str) (v : V) : ∀ fs : List (Str × V), f ∈ (putF f v fs).map (·.1) ∧ ∀ g, g ∈ fs.map (·.1) → g ∈ (putF f v fs).map (·.1)
  | [] => ⟨by simp [putF], fun g h => by simp at h⟩
  | (k, x) :: r => by
    obtain ⟨i1, i2⟩ := keys_putF f v r
    rw [show putF f v ((k, x) :: r) = (if k = f then (k, v) :: r else (k, x) :: putF f v r) from rfl]
    by_cases hk : k = f
    · rw [if_pos hk]
      subst hk
      exact ⟨by simp, fun g h => by simpa using h⟩
    · rw [if_neg hk]
      refine ⟨?_, fun g h => ?_⟩
      · rw [List.map_cons]
        exact List.mem_cons_of_mem _ i1
      · rw [List.map_cons] at h ⊢
        rcases List.mem_cons.mp h with e | e
        · exact List.mem_cons.mpr (.inl e)
        · exact List.mem_cons_of_mem _ (i2 g e)
theorem length_putF (f : Str) (v : V) : ∀ fs : List (Str × V), (putF f v fs).length ≤ fs.length + 1
  | [] => by simp [putF]
  | (k, x) :: r => by
    have ih := length_putF f v r
    rw [show putF f v ((k, x) :: r) = (if k = f then (k, v) :: r else (k, x) :: putF f v r) from rfl]
    by_cases hk : k = f
    · rw [if_pos hk, List.length_cons, List.length_cons]; omega
    · rw [if_neg hk, List.length_cons, List.length_cons]; omega
theorem RelO.some_of {v : V} {o : Option Value} (r : RelO (some v) o) : ∃ u, o = some u ∧ RelV v u := by
  cases o with
  | none => exact (show False from r).elim
  | some u => exact ⟨u, rfl, r⟩
theorem RelO.none_of {o : Option Value} (r : RelO none o) : o = none := by
  cases o with
  | none => rfl
  | some u => exact (show False from r).elim
theorem handed_of {v : V} {u : Value} (r : RelV v u) : PySem.W.handedIn u = true := by
  cases v with
  | non => cases (show u = Value.none from r); rfl
  | bl b => cases (show u = Value.bool b from r); rfl
  | int i => obtain ⟨t, e⟩ := (show ∃ t, u = Value.int i t from r); cases e; rfl
  | str x => obtain ⟨t, e⟩ := (show ∃ t, u = Value.str x t from r); cases e; rfl
  | byt b => obtain ⟨t, e⟩ := (show ∃ t, u = Value.bytes b t from r); cases e; rfl
  | flt b => obtain ⟨t, e⟩ := (show ∃ t, u = Value.float b t from r); cases e; rfl
  | ref a => cases (show u = Value.ref a from r); rfl
  | ty n => cases (show u = Value.type n from r); rfl
section
variable {P : Program} {w : World} {H H' : Hp} {h h' : Heap} {a C dx : Addr} {fs fs' : List (Str × V)}
theorem ins_get (hok : HOk P w H h) (e : H a = some (.ins C dx fs)) : ∃ mA, ObjM h a dx C mA ∧ (∀ f, RelO (fs.lookup f) (mA f)) ∧ PySem.Within mA (fs.map (·.1)) ∧ fs.length ≤ 1000 ∧ H dx = some (.own a) := by
  obtain ⟨d, z, ne, ob, mA, n, r, q⟩ := (show ObjOk P w H h a (.ins C dx fs) from hok a _ e)
  exact ⟨mA, ⟨ob, n, ne⟩, r, q, z, d⟩
end
/-! ### what of the text a class must have -/
structure Cls (K : PySem.W.Frag) (C : Addr) : Prop where
  pg : PySem.W.plainGet K C Str.empty = true
  hd : PySem.W.hasDictIn K C = true
  po : PySem.W.plainOver K C = true
  sa : PySem.W.findIn K (.ref C) "__setattr__" = some (some (.builtin "object.__setattr__"))
theorem Cls.get {K : PySem.W.Frag} {C : Addr} (c : Cls K C) (f : Str) : PySem.W.plainGet K C f = true := c.pg
/-- no class of it has the name -/
def NoAttr (K : PySem.W.Frag) (C : Addr) (f : Str) : Prop := PySem.W.findIn K (.ref C) f = some none
theorem NoAttr.taker {K : PySem.W.Frag} {C : Addr} {f : Str} (n : NoAttr K C f) : PySem.W.takerIn K C f = some none := by
  unfold PySem.W.takerIn
  rw [show PySem.W.findIn K (.ref C) f = some none from n]
  rfl
/-- a constant of the class -/
structure Con (K : PySem.W.Frag) (C : Addr) (f : Str) (v : V) (u : Value) : Prop where
  at_ : PySem.W.findIn K (.ref C) f = some (some u)
  rel : RelV v u
  get : PySem.W.specialIn K u "__get__" = some none
  cp : PySem.W.copiedNames.contains f = false
/-- a method: a plain def of the class or of one above it -/
structure Meth (K : PySem.W.Frag) (C : Addr) (m : Str) (f : Addr) : Prop where
  at_ : PySem.W.findIn K (.ref C) m = some (some (.ref f))
  fn : PySem.W.isFn K (.ref f) = true
  kp : PySem.W.keepIn K (.ref f) = true
section
variable {X : Cx} {pins : List (Addr × Obj)} {σ : St} {H : Hp} {s : Shared} {a C dx : Addr} {fs : List (Str × V)} {f : Str} {v : V} {A : Around} {E : Value → Shared → Prop}
theorem getattr_ok {b : Bool} {Q : Value → Shared → Prop} (I : Inv X pins σ H s) (e : H a = some (.ins C dx fs)) (c : Cls X.K C) (n : NoAttr X.K C f) (l : fs.lookup f = some v)
    (h : ∀ u s', Inv X pins σ H s' → RelV v u → Q u s') : wpAny (model X.prog X.w) A (getAttr (.ref a) f b) Q E s := by
  obtain ⟨mA, O, r, _, _, _⟩ := ins_get I.hok e
  obtain ⟨u, hu, ru⟩ := RelO.some_of (v := v) (o := mA f) (by rw [← l]; exact r f)
  exact get_map I.kIn O (c.get f) c.hd n hu (handed_of ru) (h u _ (I.tok _) ru)
theorem getmeth_ok {m : Str} {g : Addr} {pl : Sem Bool} {Q : Value × List Value → Shared → Prop} (I : Inv X pins σ H s) (e : H a = some (.ins C dx fs)) (c : Cls X.K C) (k : Meth X.K C m g) (l : fs.lookup m = none)
    (h : Q (.ref g, [.ref a]) s) : wpAny (model X.prog X.w) A (getMethod (.ref a) m pl) Q E s := by
  obtain ⟨mA, O, r, _, _, _⟩ := ins_get I.hok e
  have hn : mA m = none := RelO.none_of (by rw [← l]; exact r m)
  exact get_meth I.kIn O (c.get m) k.at_ k.fn hn h
theorem setattr_ok {y : V} {u : Value} {Q : Unit → Shared → Prop} (I : Inv X pins σ H s) (e : H a = some (.ins C dx fs)) (c : Cls X.K C) (n : NoAttr X.K C f) (hl : fs.length < 1000) (ry : RelV y u)
    (h : ∀ s', Inv X pins σ (upd H a (.ins C dx (putF f y fs))) s' → Q () s') : wpAny (model X.prog X.w) A (setAttr (.ref a) f u) Q E s := by
  obtain ⟨mA, O, r, wi, _, ho⟩ := ins_get I.hok e
  have hz : (fs.map (·.1)).length ≤ sizeLine := by rw [List.length_map, sizeLine_eq]; omega
  refine set_map I.kIn O c.sa c.po n.taker c.hd wi hz fun h' O' sb => h _ ?_
  have hd : ∃ o, h'.get? dx = some o := let ⟨o, _, _, e', _⟩ := O'.ns; ⟨o, e'⟩
  refine I.write (x := a) (e := dx) (by rw [e]; exact True.intro) (.inr ho) (fun b q hb z => (sb.2 b hb).trans z) hd ?_
  refine ⟨by rw [upd_ne O.ne]; exact ho, ?_, O.ne, O'.obj, _, O'.ns, fun g => ?_, fun g hg => ?_⟩
  · have := length_putF f y fs; omega
  · show RelO ((putF f y fs).lookup g) (if g = f then some u else mA g)
    rw [lookup_putF]
    by_cases q : g = f
    · rw [if_pos q, if_pos q]; exact ry
    · rw [if_neg q, if_neg q]; exact r g
  · by_cases q : g = f
    · rw [q]; exact (keys_putF f y fs).1
    · refine (keys_putF f y fs).2 g (wi g fun z => hg ?_)
      show (if g = f then some u else mA g) = none
      rw [if_neg q]; exact z
/-- a new instance, tracked, without attributes -/
theorem Inv.made (I : Inv X pins σ H s) : Inv X pins σ (upd (upd H s.heap.objs.size (.own (s.heap.objs.size + 1))) (s.heap.objs.size + 1) (.ins C s.heap.objs.size []))
    { s with heap := (s.heap.push PySem.W.emptyDict).push (PySem.W.instObj C s.heap.objs.size) } := by
  have e1 : (s.heap.push PySem.W.emptyDict).get? s.heap.objs.size = some PySem.W.emptyDict := Heap.get?_push_size s.heap rfl
  have e2 : ((s.heap.push PySem.W.emptyDict).push (PySem.W.instObj C s.heap.objs.size)).get? (s.heap.objs.size + 1) = some (PySem.W.instObj C s.heap.objs.size) := by
    have := Heap.get?_push_size (s.heap.push PySem.W.emptyDict) (o := PySem.W.instObj C s.heap.objs.size) rfl
    rwa [Heap.size_push] at this
  have e3 : (s.heap.push PySem.W.emptyDict).Ns s.heap.objs.size (fun _ => none) := ⟨PySem.W.emptyDict, #[], _, e1, rfl, (fun e he => absurd he (by simp)), fun _ => rfl⟩
  have I1 := I.laid (a := s.heap.objs.size) (o := .own (s.heap.objs.size + 1)) (h' := s.heap.push PySem.W.emptyDict) (t' := s.toks) (fun b u q => Heap.get?_push_of_some _ q) (Nat.le_refl _) ⟨_, e1⟩
  refine I1.laid (a := s.heap.objs.size + 1) (o := .ins C s.heap.objs.size []) (t' := s.toks) (fun b u q => Heap.get?_push_of_some _ q) (Nat.le_of_eq (Heap.size_push _ _)) ?_
  have ne : s.heap.objs.size ≠ s.heap.objs.size + 1 := Nat.ne_of_lt (Nat.lt_succ_self _)
  refine ⟨by rw [upd_ne ne, upd_same], Nat.zero_le _, ne, e2, fun _ => none, (Heap.Ns1.of_empty e3).at fun o q => Heap.get?_push_of_some _ q, fun _ => True.intro, fun y hy => absurd rfl hy⟩
/-- e.f where nothing but the object is asked: through attributeBase (super) and the last hold -/
theorem attr_of {prog : Program} {w : World} {env : Env} {e : Expr} {f : Str} {pos : Pos} {s : Shared} {Q : Value → Shared → Prop} (hb : attributeBase e f env (eval e env) = eval e env)
    (h : wpAny (model prog w) A (eval e env) (fun o s₁ => wpAny (model prog w) A (getAttr o f true) Q E s₁) E s) : wpAny (model prog w) A (eval (.Attribute e f pos) env) Q E s :=
  Attribute_any_ h (by rw [arm_eval_Attribute, hb])
end
/-! ### readings and rules -/
/-- e.f, an attribute of the instance -/
def tFld (K : PySem.W.Frag) (ta : TE) (f : Str) : TE := fun σ H Q => ta σ H fun x H1 => ∃ a C dx fs v, x = .ref a ∧ H1 a = some (.ins C dx fs) ∧ Cls K C ∧ NoAttr K C f ∧ fs.lookup f = some v ∧ Q v H1
/-- e.f = value -/
def sFld (K : PySem.W.Frag) (ta tv : TE) (f : Str) : TS := fun D σ H => tv σ H fun y H1 => ta σ H1 fun x H2 => ∃ a C dx fs, x = .ref a ∧ H2 a = some (.ins C dx fs) ∧ Cls K C ∧ NoAttr K C f ∧ fs.length < 1000 ∧
  D.nx σ (upd H2 a (.ins C dx (putF f y fs)))
/-- an augmented operator on two values -/
def InOp (X : Cx) (op : Operator) (rd : V → V → Hp → VK → Prop) : Prop :=
  ∀ (pins : List (Addr × Obj)) (s : Shared) (σ : St) (H : Hp) (x y : V) (u v : Value) (Q : VK), Inv X pins σ H s → RelV x u → RelV y v → rd x y H Q → wpAny (model X.prog X.w) X.A (inplaceOp op u v) (EP X pins σ Q) X.xe s
/-- e.f op= value -/
def sFldAug (K : PySem.W.Frag) (ta tv : TE) (rd : V → V → Hp → VK → Prop) (f : Str) : TS := fun D σ H => ta σ H fun x H1 => ∃ a C dx fs v, x = .ref a ∧ H1 a = some (.ins C dx fs) ∧ Cls K C ∧ NoAttr K C f ∧ fs.lookup f = some v ∧
  tv σ H1 fun y H2 => rd v y H2 fun z H3 => ∃ dx' fs', H3 a = some (.ins C dx' fs') ∧ fs'.length < 1000 ∧ D.nx σ (upd H3 a (.ins C dx' (putF f z fs')))
section
variable {X : Cx} {o e value : Expr} {f : Str} {pos pos' tpos : Pos} {ta tv : TE}
theorem pe_fld (he : PE X e ta) (hb : attributeBase e f X.env (eval e X.env) = eval e X.env) : PE X (.Attribute e f pos) (tFld X.K ta f) := by
  intro pins s σ H Q I h
  refine attr_of hb (thn (he pins s σ H _ I h) fun u s1 ⟨x, H1, I1, rx, a, C, dx, fs, v, ex, ea, c, n, l, q⟩ => ?_)
  subst ex
  obtain rfl : u = Value.ref a := rx
  exact getattr_ok I1 ea c n l fun u' s2 I2 ru => ⟨v, H1, I2, ru, q⟩
theorem ps_fld (ha : PE X o ta) (hv : PE X value tv) (hs : swapsWith value (some (.Attribute o f pos')) pos.line X.env = pure false) : PS X (.Assign [.Attribute o f pos'] value pos) (sFld X.K ta tv f) := by
  intro pins s σ H D I h
  refine plainObj_wpAny_Assign_Attribute (thn (hv pins s σ H _ I h) fun u s1 ⟨y, H1, I1, ry, q⟩ => thn (ha pins s1 σ H1 _ I1 q) fun ov s2 ⟨x, H2, I2, rx, a, C, dx, fs, ex, ea, c, n, l, q2⟩ => ?_) hs
  subst ex
  obtain rfl : ov = Value.ref a := rx
  exact setattr_ok I2 ea c n l ry fun s3 I3 => ⟨σ, _, I3, q2⟩
theorem ps_fldaug {op : Operator} {rd : V → V → Hp → VK → Prop} (ha : PE X o ta) (hv : PE X value tv) (hop : InOp X op rd) : PS X (.AugAssign (.Attribute o f tpos) op value pos) (sFldAug X.K ta tv rd f) := by
  intro pins s σ H D I h
  refine wpAny_AugAssign_AttributeAny (thn (ha pins s σ H _ I h) fun ov s1 ⟨x, H1, I1, rx, a, C, dx, fs, v, ex, ea, c, n, l, q⟩ => ?_)
  subst ex
  obtain rfl : ov = Value.ref a := rx
  refine getattr_ok I1 ea c n l fun u s2 I2 ru => thn (hv pins s2 σ H1 _ I2 q) fun w3 s3 ⟨y, H2, I3, ry, q3⟩ => thn (hop pins s3 σ H2 v y u w3 _ I3 ru ry q3) fun w4 s4 ⟨z, H3, I4, rz, dx', fs', ea', l', q4⟩ => ?_
  exact setattr_ok I4 ea' c n l' rz fun s5 I5 => ⟨σ, _, I5, q4⟩
def rAdd : V → V → Hp → VK → Prop := fun x y H Q => ∃ i j, x = .int i ∧ y = .int j ∧ Q (.int (i + j)) H
theorem in_add : InOp X .Add rAdd := by
  rintro pins s σ H x y u v Q I rx ry ⟨i, j, rfl, rfl, q⟩
  obtain ⟨t, rfl⟩ := (show ∃ t, u = Value.int i t from rx)
  obtain ⟨t', rfl⟩ := (show ∃ t', v = Value.int j t' from ry)
  exact PyProof.Rows.iadd_int ⟨.int (i + j), H, I.tok _, ⟨_, rfl⟩, q⟩
end
/-! ### isinstance -/
section
variable {X : Cx} {pins : List (Addr × Obj)} {σ : St} {H : Hp} {s : Shared} {A : Around} {E : Value → Shared → Prop} {Q : Value → Shared → Prop} {c : Value} {b : Bool}
/-- the type of a value, as the fragment's deciders take it; for an instance its class -/
inductive TyOf (K : PySem.W.Frag) (H : Hp) : V → Value → Prop where
  | non : TyOf K H .non (.type "NoneType")
  | bl (x : Bool) : TyOf K H (.bl x) (.type "bool")
  | int (i : Int) : TyOf K H (.int i) (.type "int")
  | str (x : Str) : TyOf K H (.str x) (.type "str")
  | flt (x : UInt64) : TyOf K H (.flt x) (.type "float")
  | lst {a : Addr} {xs : List V} (e : H a = some (.lst xs)) : TyOf K H (.ref a) (.type "list")
  | frz {a : Addr} {o : Obj} {xs : List V} (e : H a = some (.frz o (.lst xs))) : TyOf K H (.ref a) (.type "list")
  | tup {a : Addr} {xs : List V} (e : H a = some (.tup xs)) : TyOf K H (.ref a) (.type "tuple")
  | dK {a : Addr} {kvs : List (Key × V)} (e : H a = some (.dK kvs)) : TyOf K H (.ref a) (.type "dict")
  | dT {a : Addr} {kvs : List (List Key × V)} (e : H a = some (.dT kvs)) : TyOf K H (.ref a) (.type "dict")
  | ins {a C dx : Addr} {fs : List (Str × V)} (e : H a = some (.ins C dx fs)) (cl : Cls K C) (ha : PySem.W.findIn K (.ref C) "__class__" = some (some (.builtin "object.__class__")))
      (hn : PySem.W.specialIn K (.builtin "object.__class__") "__get__" = some (some (.builtin "getset_descriptor.__get__"))) (htk : PySem.W.takesIn K (.builtin "object.__class__") = some true)
      (hm : PySem.W.mroIn K C (.type "object") = some true) : TyOf K H (.ref a) (.ref C)
end
end L2
namespace L2
open PySem PySem.Spec PyProof.Rows
/-! ### room -/
structure Room (k : Nat) (A : Around) : Prop where
  hd : A.handled = none
  dp : A.depth + 3 * k + 5 < recursionLimit
  un : A.units + 16 * k + 200 < cLine
theorem Room.mono {j k : Nat} {A : Around} (r : Room k A) (h : j ≤ k) : Room j A := ⟨r.hd, by have := r.dp; omega, by have := r.un; omega⟩
theorem Room.deeper {k : Nat} {A : Around} (r : Room (k + 1) A) (env : Env) : Room k (A.deeper env) :=
  ⟨r.hd, by have := r.dp; show A.depth + 1 + 3 * k + 5 < _; omega, by have := r.un; show A.units + 3 + 16 * k + 200 < _; omega⟩
theorem Room.in1 {k : Nat} {A : Around} (r : Room (k + 1) A) : Room k A.in1 :=
  ⟨r.hd, by have := r.dp; show A.depth + 3 * k + 5 < _; omega, by have := r.un; show A.units + 1 + 16 * k + 200 < _; omega⟩
theorem make_depth {A : Around} {C : Addr} {us : List Value} {kw : List (Str × Value)} : (A.under (.builtin "type.__call__" ⟨.ref C :: us, kw⟩)).depth = A.depth + 1 := by
  first | rfl | simp [Around.under, Code.weight, Code.isCreation, Code.isGuard, Code.isCaller, Code.frames, Code.isFrame, guardIds]
theorem make_units {A : Around} {C : Addr} {us : List Value} {kw : List (Str × Value)} : (A.under (.builtin "type.__call__" ⟨.ref C :: us, kw⟩)).units = A.units + 1 := by
  first | rfl | simp [Around.under, Code.cUnits, Code.frames, Code.isFrame]
theorem Room.make {k : Nat} {A : Around} (r : Room (k + 1) A) (C : Addr) (us : List Value) (kw : List (Str × Value)) : Room k (A.under (.builtin "type.__call__" ⟨.ref C :: us, kw⟩)) :=
  ⟨r.hd, by have := r.dp; rw [make_depth]; omega, by have := r.un; rw [make_units]; omega⟩
theorem Room.depth {k : Nat} {A : Around} (r : Room k A) : A.depth < recursionLimit := by have := r.dp; omega
theorem Room.units {k : Nat} {A : Around} (r : Room k A) : A.units + 64 < cLine := by have := r.un; omega
/-! ### argument lists and displays -/
def tNil : TA := fun _ H Q => Q [] H
def tCons (ta : TE) (tr : TA) : TA := fun σ H Q => ta σ H fun x H1 => tr σ H1 fun xs H2 => Q (x :: xs) H2
section
variable {X : Cx} {e : Expr} {es : List Expr} {te : TE} {t : TA} {pos : Pos}
theorem pa_nil : PA X [] tNil := fun _ _ _ _ H Q I h => Calls.spliced_nil ⟨[], H, I, .nil, h⟩
theorem pa_cons (ha : PE X e te) (hr : PA X es t) (hs : starEach (e :: es) X.env = (false, eval e X.env) :: starEach es X.env := by rfl) : PA X (e :: es) (tCons te t) := by
  intro pos pins s σ H Q I h
  rw [hs]
  show wpAny _ _ (spliced ((false, eval e X.env) :: backTo pos (starEach es X.env))) _ _ s
  refine Calls.spliced_cons (thn (ha pins s σ H _ I h) fun u s1 ⟨x, H1, I1, r1, q1⟩ => ?_)
  exact thn (hr pos pins s1 σ H1 _ I1 q1) fun us s2 ⟨xs, H2, I2, r2, q2⟩ => ⟨x :: xs, H2, I2, .cons r1 r2, q2⟩
/-- a tuple, a list of written items -/
def tTup (t : TA) : TE := fun σ H Q => t σ H fun xs H1 => xs.length ≤ sizeLine ∧ ∀ p, H1 p = none → Q (.ref p) (upd H1 p (.tup xs))
def tLst (t : TA) : TE := fun σ H Q => t σ H fun xs H1 => xs.length ≤ sizeLine ∧ ∀ p, H1 p = none → Q (.ref p) (upd H1 p (.lst xs))
theorem pe_lst (h : PA X es t) : PE X (.List es pos) (tLst t) := by
  intro pins s σ H Q I hq
  refine wpAny_List_spliced (thn (h pos pins s σ H _ I hq) fun us s1 ⟨xs, H1, I1, r, z, q⟩ => ⟨by rw [← r.length]; exact z, ?_⟩)
  have hf : H1 s1.heap.objs.size = none := I1.hok.fresh (Nat.le_refl _)
  refine ⟨.ref s1.heap.objs.size, upd H1 s1.heap.objs.size (.lst xs), I1.laid (t' := s1.toks) (fun b u e => Heap.get?_push_of_some _ e) (Nat.le_refl _) ?_, rfl, q _ hf⟩
  exact ⟨z, us, 0, r, Heap.get?_push_size _ rfl⟩
end
/-! ### what a def promises -/
/-- a def's promise: the bound arguments in the parameters' order, the heap, the wanted end, the wanted exception -/
abbrev Sp := List V → Hp → VK → XK → Prop
/-- how an exception lies behind a call (file 08 gives it): the callers' frames, abstract heap and state ahead of the call, the wish, the exception, the state -/
abbrev CXT := List Env → Hp → Shared → XK → Value → Shared → Prop
/-- the state at a call -/
structure Env0 (P : Program) (w : World) (K : PySem.W.Frag) (mg : Str → Option Value) (base : Heap) (A : Around) (outer : List Env) (s : Shared) (H : Hp) : Prop where
  frames : A.frames = some outer
  mod : Mod K mg base
  bs : ∀ b o, base.get? b = some o → s.heap.get? b = some o ∧ H b = none
  bsz : base.objs.size ≤ s.heap.objs.size
  funs : s.heap.FunFrames base outer
  frf : ∀ b ∈ frs outer, H b = none
  hok : HOk P w H s.heap
  bare : AllBare s.gens
/-- a call's end -/
def CE (outer : List Env) (P : Program) (w : World) (H : Hp) (s : Shared) (Q : VK) (u : Value) (s' : Shared) : Prop :=
  ∃ v H', s'.os = s.os ∧ AllBare s'.gens ∧ Un (frs outer) [] H H' s.heap s'.heap ∧ HOk P w H' s'.heap ∧ RelV v u ∧ Q v H'
def CR (CX : CXT) (outer : List Env) (P : Program) (w : World) (H : Hp) (s : Shared) (Q : VK) (E : XK) (r : Result) (s' : Shared) : Prop :=
  match r with
  | .ok (.ret u) => CE outer P w H s Q u s'
  | .ok _ => False
  | .error e => CX outer H s E e s'
structure FnOk (P : Program) (w : World) (K : PySem.W.Frag) (mg : Str → Option Value) (base : Heap) (CX : CXT) (k : Nat) (f : Addr) (fd : FuncData) (ps : List Str) (sp : Sp) : Prop where
  len : ∀ vs H Q E, sp vs H Q E → vs.length = ps.length
  run : ∀ (A : Around) (outer : List Env) (s : Shared) (H : Hp) (args : Args) (us : List Value) (vs : List V) (Q : VK) (E : XK), Room k A → Env0 P w K mg base A outer s H → BindsTo s fd args (ps.zip us) → Vals vs us → sp vs H Q E →
    codeAny (model P w) A (.call (.ref f) args) (CR CX outer P w H s Q E) s
theorem FnOk.mono {P : Program} {w : World} {K : PySem.W.Frag} {mg : Str → Option Value} {base : Heap} {CX : CXT} {j k : Nat} {f : Addr} {fd : FuncData} {ps : List Str} {sp : Sp} (F : FnOk P w K mg base CX j f fd ps sp) (h : j ≤ k) :
    FnOk P w K mg base CX k f fd ps sp := ⟨F.len, fun A outer s H args us vs Q E hr => F.run A outer s H args us vs Q E (hr.mono h)⟩
/-- a weaker promise -/
theorem FnOk.imp {P : Program} {w : World} {K : PySem.W.Frag} {mg : Str → Option Value} {base : Heap} {CX : CXT} {k : Nat} {f : Addr} {fd : FuncData} {ps : List Str} {sp sp' : Sp} (F : FnOk P w K mg base CX k f fd ps sp)
    (h : ∀ vs H Q E, sp' vs H Q E → sp vs H Q E) : FnOk P w K mg base CX k f fd ps sp' :=
  ⟨fun vs H Q E q => F.len vs H Q E (h _ _ _ _ q), fun A outer s H args us vs Q E hr he hb hv hs => F.run A outer s H args us vs Q E hr he hb hv (h _ _ _ _ hs)⟩
theorem Env0.make {P : Program} {w : World} {K : PySem.W.Frag} {mg : Str → Option Value} {base : Heap} {A : Around} {outer : List Env} {s : Shared} {H : Hp} (e : Env0 P w K mg base A outer s H) (C : Addr) (us : List Value) (kw : List (Str × Value)) :
    Env0 P w K mg base (A.under (.builtin "type.__call__" ⟨.ref C :: us, kw⟩)) outer s H := ⟨by first | exact e.frames | (simpa [Around.under, Code.envs, Code.isFrame, pushEnvs] using e.frames), e.mod, e.bs, e.bsz, e.funs, e.frf, e.hok, e.bare⟩
theorem Env0.in1 {P : Program} {w : World} {K : PySem.W.Frag} {mg : Str → Option Value} {base : Heap} {A : Around} {outer : List Env} {s : Shared} {H : Hp} (e : Env0 P w K mg base A outer s H) :
    Env0 P w K mg base A.in1 outer s H := ⟨e.frames, e.mod, e.bs, e.bsz, e.funs, e.frf, e.hok, e.bare⟩
section
variable {X : Cx} {pins : List (Addr × Obj)} {σ : St} {H : Hp} {s s' : Shared}
/-- from a body: what a callee wants -/
theorem Inv.env0 (I : Inv X pins σ H s) : Env0 X.prog X.w X.K X.mg X.base X.A X.stack s H :=
  ⟨I.ok.frames, I.ok.mod, I.bs, Nat.le_trans I.ok.bsz I.sz, I.stack, I.stkFree, I.hok, I.bare⟩
/-- behind a call -/
theorem Inv.after {Q : VK} {u : Value} (I : Inv X pins σ H s) (h : CE X.stack X.prog X.w H s Q u s') : EP X pins σ Q u s' := by
  obtain ⟨v, H', os, bare, un, hok, r, q⟩ := h
  obtain ⟨hh, g, d, t, os'⟩ := s'
  obtain rfl : os' = s.os := os
  exact ⟨v, H', I.call (h' := hh) (g' := g) (d' := d) (t' := t) (ch := []) un hok bare (fun b z => absurd z (by simp)), r, q⟩
end
/-! ### calls -/
/-- f(..): the written arguments, then the defaults dvs; E: what is wanted of an exception -/
def tCall (sp : Sp) (dvs : List V) (E : XK) (t : TA) : TE := fun σ H Q => t σ H fun vs H1 => sp (vs ++ dvs) H1 Q E
/-- o.m(..) of an instance of the class at C -/
def tMeth (C : Addr) (m : Str) (sp : Sp) (dvs : List V) (E : XK) (ta : TE) (t : TA) : TE := fun σ H Q => ta σ H fun x H1 => ∃ a dx fs, x = .ref a ∧ H1 a = some (.ins C dx fs) ∧ fs.lookup m = none ∧
  t σ H1 fun vs H2 => sp (x :: (vs ++ dvs)) H2 Q E
/-- C(..): a new instance and its dict, then __init__ -/
def tMake (C : Addr) (sp : Sp) (dvs : List V) (E : XK) (t : TA) : TE := fun σ H Q => t σ H fun vs H1 => ∀ x dx, H1 x = none → H1 dx = none → dx ≠ x →
  sp (.ref x :: (vs ++ dvs)) (upd (upd H1 dx (.own x)) x (.ins C dx [])) (fun v H2 => v = .non ∧ Q (.ref x) H2) E
/-- how the parameters are bound: us the positional arguments, kw the keywords' values by name, ds the defaults that fill up -/
def Binds (K : PySem.W.Frag) (fd : FuncData) (ps : List Str) (ds : List Value) : Prop :=
  ∀ (s : Shared) (us : List Value), K.In s.heap → (us ++ ds).length = ps.length → BindsTo s fd ⟨us, []⟩ (ps.zip (us ++ ds))
/-- every parameter is given -/
theorem Binds.all {K : PySem.W.Frag} {fd : FuncData} {ps : List Str} (h : ∀ us : List Value, us.length = ps.length → bindArgs fd ⟨us, []⟩ = pure (ps.zip us)) : Binds K fd ps [] := fun s us _ hl => by
  rw [List.append_nil] at hl ⊢
  exact .of_eq (h us hl)
/-- an exception of a callee reaches what this body wants of exceptions -/
def Passes (CX : CXT) (X : Cx) (E : XK) : Prop := ∀ (pins : List (Addr × Obj)) (σ : St) (H : Hp) (s : Shared) (e : Value) (s' : Shared), Inv X pins σ H s → CX X.stack H s E e s' → X.xe e s'
section
variable {X : Cx} {CX : CXT} {k : Nat} {f C : Addr} {fd : FuncData} {ps : List Str} {sp : Sp} {dvs : List V} {ds : List Value} {E : XK} {x m : Str} {p pos apos : Pos} {e o : Expr} {es : List Expr} {ta : TE} {t : TA}
/-- the callee runs -/
theorem run_fn {pins : List (Addr × Obj)} {σ : St} {H : Hp} {s : Shared} {Q : VK} {us : List Value} {vs : List V} (F : FnOk X.prog X.w X.K X.mg X.base CX k f fd ps sp) (hr : Room k X.A) (hb : Binds X.K fd ps ds) (hd : Vals dvs ds) (hx : Passes CX X E)
    (I : Inv X pins σ H s) (r : Vals vs us) (h : sp (vs ++ dvs) H Q E) : wpAny (model X.prog X.w) X.A (call (.ref f) us) (EP X pins σ Q) X.xe s := by
  have r2 : Vals (vs ++ dvs) (us ++ ds) := r.append hd
  have hl : (us ++ ds).length = ps.length := by rw [← r2.length]; exact F.len _ _ _ _ h
  refine wpAny_call (codeAny_mono (F.run X.A X.stack s H ⟨us, []⟩ (us ++ ds) (vs ++ dvs) Q E hr I.env0 (hb s us I.kIn hl) r2 h) fun r s' hq => ?_)
  cases r with
  | error e => exact hx pins σ H s e s' I hq
  | ok fl =>
    cases fl with
    | ret u => exact I.after hq
    | next => exact False.elim hq
    | brk => exact False.elim hq
    | cont => exact False.elim hq
theorem pe_call (F : FnOk X.prog X.w X.K X.mg X.base CX k f fd ps sp) (hr : Room k X.A) (hg : Gl X x) (hm : X.mg x = some (.ref f)) (hk : PySem.W.keepIn X.K (.ref f) = true) (hb : Binds X.K fd ps ds) (hd : Vals dvs ds) (hx : Passes CX X E)
    (ha : PA X (e :: es) t) (hdb : (x == ("__debug__" : Str)) = false := by decide) (he : starEach (e :: es) X.env = (false, eval e X.env) :: starEach es X.env := by rfl) (hpl : (backTo pos (starEach es X.env)).any (·.1) = false := by rfl) :
    PE X (.Call (.Name x p) (e :: es) [] pos) (tCall sp dvs E t) := by
  intro pins s σ H Q I h
  refine wpAny_Call_Name_kw (ld_glob I hg hm ?_ hdb)
  refine PySem.W.callWith_K (h₀ := X.base) I.ok.mod.kin hk (thn (ha pos pins s σ H _ I h) fun us s1 ⟨vs, H1, I1, r, q⟩ => ⟨I1.kIn, ?_⟩) he hpl
  exact run_fn F hr hb hd hx I1 r q
/-- o.m(e, ..) -/
theorem pe_meth {pl : Sem Bool} (he : PE X o ta) (c : Cls X.K C) (hm : Meth X.K C m f) (F : FnOk X.prog X.w X.K X.mg X.base CX k f fd ps sp) (hr : Room k X.A) (hb : Binds X.K fd ps ds) (hd : Vals dvs ds) (hx : Passes CX X E) (ha : PA X (e :: es) t)
    (hst : starEach (e :: es) X.env = (false, eval e X.env) :: starEach es X.env := by rfl) (hpl : (backTo pos (starEach es X.env)).any (·.1) = false := by rfl)
    (ht : eval (.Call (.Attribute o m apos) (e :: es) [] pos) X.env = (do
      let ov ← eval o X.env
      standAt apos.atName
      let (f, first) ← holding [ov] (getMethod ov m pl)
      callWith pos f first (backTo pos (starEach (e :: es) X.env)) (backToKw pos (keywordEach [] X.env))) := by rfl) :
    PE X (.Call (.Attribute o m apos) (e :: es) [] pos) (tMeth C m sp dvs E ta t) := by
  intro pins s σ H Q I h
  refine PySem.W.methodCall_KW (pl := pl) (thn (he pins s σ H _ I h) fun u s1 ⟨x, H1, I1, rx, a, dx, fs, ex, ea, l, q⟩ => ?_) ht
  subst ex
  obtain rfl : u = Value.ref a := rx
  refine getmeth_ok I1 ea c hm l ?_
  refine PySem.W.callWith_K (first := [.ref a]) (h₀ := X.base) I.ok.mod.kin hm.kp (thn (ha pos pins s1 σ H1 _ I1 q) fun us s2 ⟨vs, H2, I2, r, q2⟩ => ⟨I2.kIn, ?_⟩) hst hpl
  exact run_fn (us := .ref a :: us) (vs := .ref a :: vs) F hr hb hd hx I2 (.cons rfl r) q2
/-- what a class must have to be made -/
structure Mk (K : PySem.W.Frag) (C f : Addr) : Prop where
  makes : PySem.W.makesIn K C = true
  init : PySem.W.findIn K (.ref C) "__init__" = some (some (.ref f))
  fn : PySem.W.isFn K (.ref f) = true
  kp : PySem.W.keepIn K (.ref C) = true
theorem run_make {pins : List (Addr × Obj)} {σ : St} {H : Hp} {s : Shared} {Q : VK} {us : List Value} {vs : List V} (M : Mk X.K C f) (F : FnOk X.prog X.w X.K X.mg X.base CX k f fd ps sp) (hr : Room (k + 1) X.A) (hb : Binds X.K fd ps ds) (hd : Vals dvs ds)
    (hx : Passes CX X E) (I : Inv X pins σ H s) (r : Vals vs us)
    (h : ∀ x dx, H x = none → H dx = none → dx ≠ x → sp (.ref x :: (vs ++ dvs)) (upd (upd H dx (.own x)) x (.ins C dx [])) (fun v H2 => v = .non ∧ Q (.ref x) H2) E) :
    wpAny (model X.prog X.w) X.A (call (.ref C) us) (EP X pins σ Q) X.xe s := by
  have hq := h (s.heap.objs.size + 1) s.heap.objs.size (I.hok.fresh (Nat.le_succ _)) (I.hok.fresh (Nat.le_refl _)) (Nat.ne_of_lt (Nat.lt_succ_self _))
  have I2 := Inv.made (C := C) I
  have r2 : Vals (V.ref (s.heap.objs.size + 1) :: (vs ++ dvs)) (Value.ref (s.heap.objs.size + 1) :: (us ++ ds)) := .cons rfl (r.append hd)
  have hl : (Value.ref (s.heap.objs.size + 1) :: us ++ ds).length = ps.length := by
    have e := r2.length
    rw [F.len _ _ _ _ hq] at e
    exact e.symm
  refine wpAny_call (make_map (f := f) I.kIn M.makes M.init (beq_iff_eq.mp M.fn) (codeAny_mono (F.run _ X.stack _ _ ⟨Value.ref (s.heap.objs.size + 1) :: us, []⟩ (Value.ref (s.heap.objs.size + 1) :: (us ++ ds)) _ _ E (hr.make C us [])
    (I2.env0.make C us []) (hb _ (Value.ref (s.heap.objs.size + 1) :: us) I2.kIn hl) r2 hq) fun r s' hq' => ?_))
  cases r with
  | error e => exact hx pins σ _ _ e s' I2 hq'
  | ok fl =>
    cases fl with
    | ret u =>
      obtain ⟨v, H', I3, rv, ev, q3⟩ := I2.after hq'
      subst ev
      exact ⟨rv, ⟨V.ref (s.heap.objs.size + 1), H', I3, rfl, q3⟩⟩
    | next => exact False.elim hq'
    | brk => exact False.elim hq'
    | cont => exact False.elim hq'
theorem pe_make0 (M : Mk X.K C f) (F : FnOk X.prog X.w X.K X.mg X.base CX k f fd ps sp) (hr : Room (k + 1) X.A) (hg : Gl X x) (hm : X.mg x = some (.ref C)) (hb : Binds X.K fd ps ds) (hd : Vals dvs ds) (hx : Passes CX X E)
    (hdb : (x == ("__debug__" : Str)) = false := by decide) : PE X (.Call (.Name x p) [] [] pos) (tMake C sp dvs E tNil) := by
  intro pins s σ H Q I h
  refine wpAny_Call_Name_kw (ld_glob I hg hm ?_ hdb)
  exact PySem.W.callWith_K0 I.kIn M.kp (run_make (us := []) M F hr hb hd hx I .nil h)
end
/-! ### keywords -/
section
variable {X : Cx} {CX : CXT} {k : Nat} {f C : Addr} {fd : FuncData} {ps ks : List Str} {sp : Sp} {E : XK} {x m : Str} {p pos apos kpos : Pos} {e o : Expr} {es : List Expr} {kws : List Keyword} {te ta : TE} {t tk : TA} {nm : Option Str}
/-- how a call with keywords binds: g puts the positional values us and the keywords' values ws (names ks) in the parameters' order, defaults among them -/
structure KBinds (K : PySem.W.Frag) (fd : FuncData) (ps ks : List Str) (g : List Value → List Value → List Value) (gV : List V → List V → List V) : Prop where
  to : ∀ (s : Shared) (us ws : List Value), K.In s.heap → (g us ws).length = ps.length → BindsTo s fd ⟨us, ks.zip ws⟩ (ps.zip (g us ws))
  rel : ∀ {vs : List V} {us : List Value} {zs : List V} {ws : List Value}, Vals vs us → Vals zs ws → Vals (gV vs zs) (g us ws)
variable {g : List Value → List Value → List Value} {gV : List V → List V → List V}
end
/-! ### a def's body keeps its promise -/
/-- names: the parameters first -/
structure FnScope (N P : List Str) (sc : Scope) : Prop where
  kind : sc.kind = .function
  co : sc.isCoroutine = false
  gen : sc.isGenerator = false
  nd : N.Nodup
  pre : N.take P.length = P
  par : ∀ x ∈ P, sc.names.lookup x = some .local ∨ sc.names.lookup x = some .cell
  nofree : ∀ y ∈ sc.names, y.2 ≠ .free
theorem bindL_out {kindOf : Str → Option NameKind} {x : Str} : ∀ {binds : List (Str × Value)} {m : Str → Option Value}, (∀ v, (x, v) ∉ binds) → bindL kindOf binds m x = m x
  | [], _, _ => rfl
  | (n, v) :: r, m, h => by
    unfold bindL
    rw [bindL_out fun w hw => h w (List.mem_cons_of_mem _ hw)]
    split
    · have : x ≠ n := by rintro rfl; exact h v List.mem_cons_self
      simp [this]
    · rfl
theorem bindC_out {kindOf : Str → Option NameKind} {x : Str} : ∀ {binds : List (Str × Value)} {m : Str → Option Value}, (∀ v, (x, v) ∉ binds) → bindC kindOf binds m x = m x
  | [], _, _ => rfl
  | (n, v) :: r, m, h => by
    unfold bindC
    rw [bindC_out fun w hw => h w (List.mem_cons_of_mem _ hw)]
    split
    · rfl
    · have : x ≠ n := by rintro rfl; exact h v List.mem_cons_self
      simp [this]
theorem bindL_get {kindOf : Str → Option NameKind} {x : Str} {v : Value} : ∀ {P : List Str} {vs : List Value} {i : Nat} {m : Str → Option Value}, P.Nodup → P[i]? = some x → vs[i]? = some v → kindOf x = some .local →
    bindL kindOf (P.zip vs) m x = some v
  | [], _, _, _, _, h, _, _ => by simp at h
  | _ :: _, [], _, _, _, _, h, _ => by simp at h
  | p :: P, w :: vs, 0, m, nd, h1, h2, hk => by
    simp at h1 h2; subst h1; subst h2
    show bindL kindOf ((p, w) :: P.zip vs) m p = _
    unfold bindL
    rw [bindL_out fun v hv => (List.nodup_cons.mp nd).1 (List.of_mem_zip hv).1, if_pos hk]
    simp
  | p :: P, w :: vs, i + 1, m, nd, h1, h2, hk => by
    show bindL kindOf ((p, w) :: P.zip vs) m x = _
    unfold bindL
    exact bindL_get (i := i) (List.nodup_cons.mp nd).2 (by simpa using h1) (by simpa using h2) hk
theorem bindC_get {kindOf : Str → Option NameKind} {x : Str} {v : Value} : ∀ {P : List Str} {vs : List Value} {i : Nat} {m : Str → Option Value}, P.Nodup → P[i]? = some x → vs[i]? = some v → kindOf x ≠ some .local →
    bindC kindOf (P.zip vs) m x = some v
  | [], _, _, _, _, h, _, _ => by simp at h
  | _ :: _, [], _, _, _, _, h, _ => by simp at h
  | p :: P, w :: vs, 0, m, nd, h1, h2, hk => by
    simp at h1 h2; subst h1; subst h2
    show bindC kindOf ((p, w) :: P.zip vs) m p = _
    unfold bindC
    rw [bindC_out fun v hv => (List.nodup_cons.mp nd).1 (List.of_mem_zip hv).1, if_neg hk]
    simp
  | p :: P, w :: vs, i + 1, m, nd, h1, h2, hk => by
    show bindC kindOf ((p, w) :: P.zip vs) m x = _
    unfold bindC
    exact bindC_get (i := i) (List.nodup_cons.mp nd).2 (by simpa using h1) (by simpa using h2) hk
/-- the names' values at the entry -/
def start (N : List Str) (vs : List V) : St := vs.map some ++ List.replicate (N.length - vs.length) none
/-- the context of a def's body, at its entry; an exception leaves the frame, then lies as CX says -/
def cxOf (CX : CXT) (P : Program) (w : World) (K : PySem.W.Frag) (mg : Str → Option Value) (base : Heap) (N : List Str) (qual : Str) (scope : Scope) (f : Addr) (cd : Value) (A : Around) (outer : List Env) (s : Shared) (H : Hp) (E : XK) : Cx where
  prog := P
  w := w
  K := K
  mg := mg
  base := base
  A := A.deeper (envOfC qual scope s.heap.objs.size f cd)
  N := N
  s_0 := s
  H_0 := H
  env := envOfC qual scope s.heap.objs.size f cd
  outer := outer
  stack := envOfC qual scope s.heap.objs.size f cd :: outer
  ex := []
  calm := true
  fn := fun _ => true
  pn := []
  xe := fun e s' => wpAny (model P w) (A.deeper (envOfC qual scope s.heap.objs.size f cd)) (leaving (envOfC qual scope s.heap.objs.size f cd) e) (fun _ s'' => CX outer H s E e s'') (fun e' s'' => CX outer H s E e' s'') s'
theorem cell_has {sc : Scope} {n : Nat} {x : Str} (h : sc.names.lookup x = some .cell) : ∃ c, (cellsFrom n sc.names []).lookup x = some c := by
  have q := PySem.W.cellsFrom_some sc.names n [] (.inl h)
  exact Option.isSome_iff_exists.mp q
theorem inv_start {CX : CXT} {P : Program} {w : World} {K : PySem.W.Frag} {mg : Str → Option Value} {base : Heap} {N ps : List Str} {qual : Str} {scope : Scope} {f : Addr} {cd : Value} {A : Around} {outer : List Env} {s s1 : Shared} {H : Hp} {E : XK} {us : List Value} {vs : List V}
    (S : FnScope N ps scope) (hd : A.handled = none) (e0 : Env0 P w K mg base A outer s H) (hl : vs.length = ps.length) (r : Vals vs us)
    (x : InCallC s s.heap.objs.size (bindL (envOfC qual scope s.heap.objs.size f cd).kindOf (ps.zip us) fun _ => none) (cellsFrom (s.heap.objs.size + 1) scope.names []) (bindC (envOfC qual scope s.heap.objs.size f cd).kindOf (ps.zip us) fun _ => none) s1) :
    Inv (cxOf CX P w K mg base N qual scope f cd A outer s H E) [] (start N vs) H s1 := by
  have hpl : ps.length ≤ N.length := by have := congrArg List.length S.pre; rw [List.length_take] at this; omega
  obtain ⟨h1, tk, rfl, hk⟩ := x.done
  have noA : ∀ b : Addr, b ∉ (cxOf CX P w K mg base N qual scope f cd A outer s H E).ex := fun b z => absurd (show b ∈ ([] : List Addr) from z) (by simp)
  refine ⟨⟨e0.mod, S.kind, rfl, rfl, Nat.le_refl _, fun y z c h1 h2 => ?_, fun y hy => ?_, fun y c _ h => ?_, fun _ => hd, Around.frames_deeper e0.frames, .inr ⟨rfl, rfl⟩, fun b z => absurd z (noA b), e0.bs, e0.bsz, fun b _ _ => noA b, fun b z => absurd z (noA b), e0.funs, e0.frf⟩,
    rfl, e0.bare, Un.kept hk, ⟨_, x.toInCall.ns, fun i y v h1 h2 h3 => ?_⟩, fun y c h => ⟨_, x.cell y c h⟩, e0.hok.fresh (Nat.le_refl _), fun y c h => ?_, fun p hp => absurd (show p ∈ ([] : List (Addr × Obj)) from hp) (by simp), e0.hok.kept hk, ?_⟩
  · exact name_of_addr x.apart (PySem.mem_of_lookup h1) (PySem.mem_of_lookup h2)
  · have hy : scope.names.lookup y = some .cell ∨ scope.names.lookup y = some .free := hy
    rcases hy with hy | hy
    · exact cell_has hy
    · exact absurd rfl (S.nofree _ (PySem.mem_of_lookup hy))
  · exact Nat.le_of_lt (x.above y c (PySem.mem_of_lookup h))
  · have hi : i < vs.length := by
      unfold start at h2
      by_cases hi : i < vs.length
      · exact hi
      · rw [List.getElem?_append_right (by simpa using hi)] at h2
        rw [List.getElem?_replicate] at h2
        split at h2 <;> cases h2
    have ha : vs[i]? = some v := by
      unfold start at h2
      rw [List.getElem?_append_left (by simpa using hi), List.getElem?_map] at h2
      cases e : vs[i]? with
      | none => rw [e] at h2; cases h2
      | some a => rw [e] at h2; cases h2; rfl
    obtain ⟨u, hu, rv⟩ := r.get ha
    have hp : ps[i]? = some y := by
      rw [← S.pre, List.getElem?_take_of_lt (by omega)]; exact h1
    have ndP : ps.Nodup := by rw [← S.pre]; exact S.nd.sublist (List.take_sublist _ _)
    refine ⟨u, rv, ?_⟩
    rcases S.par y (List.mem_of_getElem? hp) with k | k
    · exact .inl ⟨k, bindL_get ndP hp hu k⟩
    · obtain ⟨c, e⟩ := cell_has (n := s.heap.objs.size + 1) k
      refine .inr ⟨.inl k, c, e, ?_⟩
      have q := x.cell y c e
      rw [bindC_get ndP hp hu (by show scope.names.lookup y ≠ _; rw [k]; decide)] at q
      exact q
  · exact e0.hok.fresh (Nat.le_of_lt (x.above y c (PySem.mem_of_lookup h)))
  · unfold start
    show _ = N.length
    rw [List.length_append, List.length_map, List.length_replicate]
    omega
/-- THE RULE: a def (or a method) of the text, by its body. The body's reading t is chosen for each entry; it is run at the parameters' values -/
theorem fn_of {CX : CXT} {P : Program} {w : World} {K : PySem.W.Frag} {mg : Str → Option Value} {base : Heap} {k : Nat} {f : Addr} {name qual : Str} {params : Arguments} {body : List Stmt} {scope : Scope} {dV kV doc pm cdv ct oc : Value} {an od : Option Addr}
    {osl : Array (Option Value)} {N ps : List Str} {sp : Sp} (lk : K.lookup f = some ⟨oc, od, .func (PySem.W.fnOf name qual params body scope dV kV doc pm an cdv ct), osl⟩) (hcd : PySem.W.codeIn K cdv qual = true) (S : FnScope N ps scope)
    (len : ∀ vs H Q E, sp vs H Q E → vs.length = ps.length)
    (hbody : ∀ (A : Around) (outer : List Env) (s : Shared) (H : Hp) (vs : List V) (Q : VK) (E : XK), Room k (A.deeper (envOfC qual scope s.heap.objs.size f cdv)) → sp vs H Q E →
      ∃ t, PSs (cxOf CX P w K mg base N qual scope f cdv A outer s H E) body t ∧ t { nx := fun _ H' => Q .non H', rt := Q } (start N vs) H) :
    FnOk P w K mg base CX (k + 1) f (PySem.W.fnOf name qual params body scope dV kV doc pm an cdv ct) ps sp := by
  refine ⟨len, fun A outer s H args us vs Q E hr e0 hb r hsp => ?_⟩
  have hl := len _ _ _ _ hsp
  have KX : K.In s.heap := e0.mod.kin.keeps fun b o e => (e0.bs b o e).1
  have lim : s.heap.NoLimit := e0.mod.nolimit.keeps fun b o e => (e0.bs b o e).1
  have hkind : ∀ y ∈ ps.zip us, scope.names.lookup y.1 = some .local ∨ (scope.names.lookup y.1 = some .cell ∧ ((cellsFrom (s.heap.objs.size + 1) scope.names []).lookup y.1).isSome = true) := fun ⟨n, v⟩ hy => by
    rcases S.par n (List.of_mem_zip hy).1 with q | q
    · exact .inl q
    · exact .inr ⟨q, PySem.W.cellsFrom_some _ _ _ (.inl q)⟩
  refine codeAny_call_function hr.depth (KX _ _ lk) rfl S.co S.gen rfl (PySem.W.codeRec_of KX hcd) (hb _ _ _ _ ?_)
  refine wpAny_newFunctionEnv_cells S.kind hkind fun env he s1 x => ?_
  subst he
  refine ⟨lim.keeps x.toInCall.keep, codeAny_func ?_⟩
  obtain ⟨t, ht, hq⟩ := hbody A outer s H vs Q E (hr.deeper _) hsp
  have I : Inv (cxOf CX P w K mg base N qual scope f cdv A outer s H E) [] (start N vs) H s1 := inv_start S hr.hd e0 hl r x
  refine wpAny_mono (ht [] s1 (start N vs) H _ I hq) (fun fl s' hs => ?_) fun e s' hs => hs
  have fin : ∀ {σ' : St} {H' : Hp} {v : V} {u : Value}, Inv (cxOf CX P w K mg base N qual scope f cdv A outer s H E) [] σ' H' s' → RelV v u → Q v H' → CE outer P w H s Q u s' :=
    fun {σ' H' v u} J rv q => ⟨v, H', J.os, J.bare, J.base, J.hok, rv, q⟩
  cases fl with
  | ret u =>
    obtain ⟨v, σ', H', J, rv, q⟩ := hs
    exact fin J rv q
  | next =>
    obtain ⟨σ', H', J, q⟩ := hs
    exact fin (v := V.non) (u := Value.none) J rfl q
  | brk =>
    obtain ⟨_, _, _, q⟩ := hs
    exact False.elim q
  | cont =>
    obtain ⟨_, _, _, q⟩ := hs
    exact False.elim q
end L2
namespace L2
open PySem PySem.Spec PyProof.Rows
section
variable {X : Cx} {x : Str} {p pos : Pos} {e : Expr} {es : List Expr} {t : TA} {id T : String} {r : List V → Hp → VK → Prop}
def tCB (r : List V → Hp → VK → Prop) (t : TA) : TE := fun σ H Q => t σ H fun vs H1 => r vs H1 Q
/-- f(e, ..), f a built-in function -/
theorem pe_callB (hc : CallR X (.builtin id) r) (hg : Gl X x) (hm : X.mg x = none) (hv : bootBuiltins x = some (.builtin id)) (ha : PA X (e :: es) t) (hn : x ≠ "__name__" := by decide) (hdb : (x == ("__debug__" : Str)) = false := by decide)
    (he : starEach (e :: es) X.env = (false, eval e X.env) :: starEach es X.env := by rfl) (hpl : (backTo pos (starEach es X.env)).any (·.1) = false := by rfl) : PE X (.Call (.Name x p) (e :: es) [] pos) (tCB r t) := by
  intro pins s σ H Q I h
  refine wpAny_Call_Name_kw (ld_blt I hg hm hv ?_ hn hdb)
  exact PyProof.Rows.callWith_builtin1 (thn (ha pos pins s σ H _ I h) fun us s1 ⟨vs, H1, I1, r1, q1⟩ => hc pins s1 σ H1 vs us Q I1 r1 q1) he hpl
/-- T(e, ..), T a built-in type -/
theorem pe_callTy (hc : CallR X (.type T) r) (hg : Gl X x) (hm : X.mg x = none) (hv : bootBuiltins x = some (.type T)) (ha : PA X (e :: es) t) (hn : x ≠ "__name__" := by decide) (hdb : (x == ("__debug__" : Str)) = false := by decide)
    (he : starEach (e :: es) X.env = (false, eval e X.env) :: starEach es X.env := by rfl) (hpl : (backTo pos (starEach es X.env)).any (·.1) = false := by rfl) : PE X (.Call (.Name x p) (e :: es) [] pos) (tCB r t) := by
  intro pins s σ H Q I h
  refine wpAny_Call_Name_kw (ld_blt I hg hm hv ?_ hn hdb)
  exact PyProof.Rows.callWith_type1 (thn (ha pos pins s σ H _ I h) fun us s1 ⟨vs, H1, I1, r1, q1⟩ => hc pins s1 σ H1 vs us Q I1 r1 q1) he hpl
end
end L2
namespace HT
open PySem PyProof.Rows
section
open PySem.SeqAt
open PySem.AutoSeq1 (wpAny_loadPart')
open PySem.MeetsSeq PySem.MeetsSeq2 PySem.MeetsSeq3
end
section
variable {prog : Program} {w : World} {A : Around} {E : Value → Shared → Prop} {s : Shared}
/-! ### t[a:b], not the whole -/
/-- a slice's bound as a place among n (d where it is left out) -/
def sIx (n d : Nat) : Option Int → Nat
  | none => d
  | some v => if v < 0 then (v + (n : Int)).toNat else min v.toNat n
end
end HT
namespace L2
open PySem PySem.Spec PyProof.Rows
/-! ### the parts of a slice -/
abbrev TO := St → Hp → (Option Int → Hp → Prop) → Prop
/-- a slice's part (left out, or an int) -/
def PO (X : Cx) (e : Option Expr) (t : TO) : Prop :=
  ∀ (pins : List (Addr × Obj)) (s : Shared) (σ : St) (H : Hp) (Q : Option Int → Hp → Prop), Inv X pins σ H s → t σ H Q →
    wpAny (model X.prog X.w) X.A (evalPart e X.env) (fun u s' => ∃ o H', Inv X pins σ H' s' ∧ IsPart u o ∧ Q o H') X.xe s
def tNoPart : TO := fun _ H Q => Q none H
def tPart (t : TE) : TO := fun σ H Q => t σ H fun x H1 => ∃ i, x = .int i ∧ Q (some i) H1
section
variable {X : Cx} {e : Expr} {te : TE} {lo hi : Option Expr} {tl th : TO} {pos p2 : Pos}
theorem po_none : PO X none tNoPart := by
  intro pins s σ H Q I h
  rw [evalPart_none]
  exact wpAny_pure ⟨none, H, I, .none, h⟩
theorem po_some (h : PE X e te) : PO X (some e) (tPart te) := by
  intro pins s σ H Q I hw
  rw [evalPart_some]
  refine thn (h pins s σ H _ I hw) fun u s1 ⟨x, H1, I1, r1, q1⟩ => ?_
  obtain ⟨i, rfl, q⟩ := q1
  obtain ⟨t, rfl⟩ := r1
  exact ⟨some i, H1, I1, .int i t, q⟩
/-- what a slice of a value is, by values: the slice object stands at sl -/
def SlR (X : Cx) (r : V → Option Int → Option Int → Hp → VK → Prop) : Prop :=
  ∀ (pins : List (Addr × Obj)) (s : Shared) (σ : St) (H : Hp) (x : V) (v vl vu : Value) (lo hi : Option Int) (sl : Addr) (Q : VK), Inv X pins σ H s → RelV x v → s.heap.IsSliceOf sl vl vu .none → IsPart vl lo → IsPart vu hi → r x lo hi H Q →
    ∃ T id, typeLookup (.type T) "__getitem__" = pure (some (.builtin id)) ∧ s.TypeIs v T ∧ wpAny (model X.prog X.w) X.A (getItem v (.ref sl)) (EP X pins σ Q) X.xe s
def tSl (r : V → Option Int → Option Int → Hp → VK → Prop) (te : TE) (tl th : TO) : TE := fun σ H Q => te σ H fun x H1 => tl σ H1 fun l H2 => th σ H2 fun u H3 => r x l u H3 Q
/-- a[lo:hi], any a -/
theorem pe_slice {r : V → Option Int → Option Int → Hp → VK → Prop} (hr : SlR X r) (he : PE X e te) (hl : PO X lo tl) (hu : PO X hi th) : PE X (.Subscript e (.Slice lo hi none p2) pos) (tSl r te tl th) := by
  intro pins s σ H Q I h
  refine Subscript_ (thn (he pins s σ H _ I h) fun v s1 ⟨x, H1, I1, r1, q1⟩ => ?_)
  refine wpAny_Slice (thn (hl pins s1 σ H1 _ I1 q1) fun vl s2 ⟨l, H2, I2, pl, q2⟩ => thn (hu pins s2 σ H2 _ I2 q2) fun vu s3 ⟨u, H3, I3, pu, q3⟩ => ?_)
  rw [evalPart_none]
  refine wpAny_pure ?_
  have I4 : Inv X pins σ H3 { s3 with heap := s3.heap.push { cls := .type "slice", data := .fields #[vl, vu, .none] } } := I3.kept (t' := s3.toks) fun b ob q => Heap.get?_push_of_some _ q
  obtain ⟨T, id, hT, ht, hg⟩ := hr pins { s3 with heap := s3.heap.push { cls := .type "slice", data := .fields #[vl, vu, .none] } } σ H3 x v vl vu l u s3.heap.objs.size Q I4 r1 (Heap.IsSliceOf.new ..) pl pu q3
  show wpAny (model X.prog X.w) X.A (subscriptTail e (.Slice lo hi none p2) v (.ref s3.heap.objs.size)) (EP X pins σ Q) X.xe { s3 with heap := s3.heap.push { cls := .type "slice", data := .fields #[vl, vu, .none] } }
  exact tail_any (ops := [.ref s3.heap.objs.size, v]) ht hT hg (by with_unfolding_all rfl)
/-- the items of xs[lo:hi] -/
def cutV (xs : List V) (lo hi : Option Int) : List V := (xs.drop (HT.sIx xs.length 0 lo)).take (HT.sIx xs.length xs.length hi - HT.sIx xs.length 0 lo)
theorem cutV_length (xs : List V) (lo hi : Option Int) : (cutV xs lo hi).length ≤ xs.length := by
  unfold cutV
  rw [List.length_take, List.length_drop]
  omega
/-! ### t < u, t + u -/
end
end L2
namespace L2
open PySem PySem.Spec PyProof.Rows
/-! ### places -/
/-- the place that an index of any sign means -/
def ixN (n : Nat) (i : Int) : Option Nat := if 0 ≤ i then (if i < n then some i.toNat else none) else if -(n : Int) ≤ i then some (i + n).toNat else none
def atI {α : Type} (xs : List α) (i : Int) : Option α := (ixN xs.length i).bind fun j => xs[j]?
theorem ixN_seq {n : Nat} {i : Int} {j : Nat} (h : ixN n i = some j) : seqIndex? i n = some j ∧ j < n ∧ -(n : Int) ≤ i ∧ i < n := by
  unfold ixN at h
  by_cases h0 : 0 ≤ i
  · rw [if_pos h0] at h
    by_cases h1 : i < n
    · rw [if_pos h1] at h
      have e : i.toNat = j := Option.some.inj h
      exact ⟨by rw [seqIndex_of h0 h1, e], by omega, by omega, h1⟩
    · rw [if_neg h1] at h; cases h
  · rw [if_neg h0] at h
    by_cases h1 : -(n : Int) ≤ i
    · rw [if_pos h1] at h
      have e : (i + n).toNat = j := Option.some.inj h
      exact ⟨by rw [seqIndex_neg (by omega) h1, e], by omega, h1, by omega⟩
    · rw [if_neg h1] at h; cases h
theorem atI_get {α : Type} {xs : List α} {i : Int} {v : α} (h : atI xs i = some v) : ∃ j, seqIndex? i xs.length = some j ∧ xs[j]? = some v ∧ j < xs.length ∧ -(xs.length : Int) ≤ i ∧ i < xs.length := by
  unfold atI at h
  cases e : ixN xs.length i with
  | none => rw [e] at h; cases h
  | some j =>
    rw [e] at h
    obtain ⟨h1, h2, h3, h4⟩ := ixN_seq e
    exact ⟨j, h1, h, h2, h3, h4⟩
theorem atI_nat {α : Type} {xs : List α} {j : Nat} {v : α} (h : xs[j]? = some v) : atI xs (j : Int) = some v := by
  have hj : j < xs.length := (List.getElem?_eq_some_iff.mp h).1
  have e : ixN xs.length (j : Int) = some j := by
    unfold ixN
    rw [if_pos (by omega), if_pos (by omega)]; simp
  unfold atI; rw [e]; exact h
/-! ### what may be subscripted -/
/-- what stands as an index of a plain subscript -/
def PlainIx (b : Expr) : Prop := ∀ o i, subscripted b false o i = operate [o, i] (getItem o i)
/-- a subscript by values -/
def IxR (X : Cx) (r : R2) : Prop :=
  ∀ (value slice : Expr) (pins : List (Addr × Obj)) (s : Shared) (σ : St) (H : Hp) (x y : V) (v u : Value) (Q : VK), Inv X pins σ H s → RelV x v → RelV y u → r x y H Q →
    subscripted slice false v u = operate [v, u] (getItem v u) → wpAny (model X.prog X.w) X.A (subscriptTail value slice v u) (EP X pins σ Q) X.xe s
/-- a call of a builtin's method by values: the receiver, the arguments -/
def MtR (X : Cx) (id : String) (r : V → List V → Hp → VK → Prop) : Prop :=
  ∀ (pins : List (Addr × Obj)) (s : Shared) (σ : St) (H : Hp) (x : V) (xs : List V) (v : Value) (us : List Value) (Q : VK), Inv X pins σ H s → RelV x v → Vals xs us → r x xs H Q →
    wpAny (model X.prog X.w) X.A (call (.builtin id) (v :: us)) (EP X pins σ Q) X.xe s
section
variable {X : Cx} {a b : Expr} {ta tb : TE} {pos : Pos}
/-- a[b] -/
theorem pe_ix {r : R2} (hr : IxR X r) (ha : PE X a ta) (hb : PE X b tb) (hs : PlainIx b) : PE X (.Subscript a b pos) (tOp r ta tb) := by
  intro pins s σ H Q I h
  exact Subscript_ (binT ha hb I h fun v u s2 x y H2 I2 rx ry q => hr a b pins s2 σ H2 x y v u Q I2 rx ry q (hs _ _))
def rIxL (K : PySem.W.Frag) : R2 := fun x y H Q => ∃ p xs i v, x = .ref p ∧ y = .int i ∧ SqL K H p xs ∧ atI xs i = some v ∧ Q v H
def rIxT (K : PySem.W.Frag) : R2 := fun x y H Q => ∃ p xs i v, x = .ref p ∧ y = .int i ∧ SqT K H p xs ∧ atI xs i = some v ∧ Q v H
theorem ix_list : IxR X (rIxL X.K) := by
  intro value slice pins s σ H x y v u Q I rx ry h hs
  obtain ⟨p, xs, i, z, rfl, rfl, hq, he, q⟩ := h
  cases rx
  obtain ⟨t, rfl⟩ := ry
  obtain ⟨its, r, pl, hz⟩ := I.list hq
  obtain ⟨j, h1, h2, h3, h4, h5⟩ := atI_get he
  obtain ⟨w, ew, rw'⟩ := r.get h2
  have hl := r.length
  have hn := line63
  have fin : EP X pins σ Q w s := ⟨z, H, I, rw', q⟩
  by_cases h0 : 0 ≤ i
  · have hj : i.toNat = j := by
      rw [seqIndex_of h0 h5] at h1
      exact Option.some.inj h1
    exact item_listR pl.isList h0 (by omega) (by rw [hj]; simpa using ew) fin hs
  · have hj : (i + (its.toArray.size : Int)).toNat = j := by
      rw [seqIndex_neg (by omega) h4] at h1
      rw [List.size_toArray, ← hl]
      exact Option.some.inj h1
    exact subscriptTail_builtinR (x := w) pl.isList.typeIs slot_list_getitem.lookup
      (wpAny_getItem_list_neg (Q := fun r s' => r = w ∧ EP X pins σ Q r s') pl.isList (by omega) (by rw [List.size_toArray] <;> omega) (by omega) (by rw [hj]; simpa using ew) ⟨rfl, fin⟩) hs
theorem ix_tup : IxR X (rIxT X.K) := by
  intro value slice pins s σ H x y v u Q I rx ry h hs
  obtain ⟨p, xs, i, z, rfl, rfl, hq, he, q⟩ := h
  cases rx
  obtain ⟨t, rfl⟩ := ry
  obtain ⟨its, r, pl, hz⟩ := I.tuple hq
  obtain ⟨j, h1, h2, h3, h4, h5⟩ := atI_get he
  obtain ⟨w, ew, rw'⟩ := r.get h2
  have hl := r.length
  have hn := line63
  have fin : EP X pins σ Q w s := ⟨z, H, I, rw', q⟩
  exact subscriptTail_builtinR (x := w) pl.typeIs slot_tuple_getitem.lookup
    (getItem_tuple (j := j) (Q := fun r s' => r = w ∧ EP X pins σ Q r s') pl (by omega) (by omega) (by rw [List.size_toArray, ← hl]; exact h1) (by simpa using ew) ⟨rfl, fin⟩) hs
/-! ### xs[i] = v, any sign -/
/-- the list's object behind a store -/
theorem mapSeq_set (its : List Value) (n j : Nat) (u : Value) : Obj.mapSeq (·.setIfInBounds j u) { cls := .type "list", data := .seq its.toArray n } = { cls := .type "list", data := .seq (its.set j u).toArray n } := by
  simp [Obj.mapSeq]
theorem Inv.lst {pins : List (Addr × Obj)} {σ : St} {H : Hp} {s : Shared} {p : Addr} {xs : List V} (I : Inv X pins σ H s) (h : H p = some (.lst xs)) :
    ∃ (its : List Value) (n : Nat), Vals xs its ∧ s.heap.get? p = some { cls := .type "list", data := .seq its.toArray n } ∧ xs.length ≤ sizeLine := by
  obtain ⟨z, its, n, r, e⟩ := I.hok p _ h
  exact ⟨its, n, r, e, z⟩
/-- the list at p is written by an update of its object -/
theorem Inv.lstUpd {pins : List (Addr × Obj)} {σ : St} {H : Hp} {s : Shared} {p : Addr} {xs ys : List V} {its its' : List Value} {n n' : Nat} {f : Obj → Obj} (I : Inv X pins σ H s) (h : H p = some (.lst xs))
    (ho : s.heap.get? p = some { cls := .type "list", data := .seq its.toArray n }) (hf : f { cls := .type "list", data := .seq its.toArray n } = { cls := .type "list", data := .seq its'.toArray n' }) (r : Vals ys its') (hz : ys.length ≤ sizeLine) (t : Nat) :
    Inv X pins σ (upd H p (.lst ys)) { s with heap := s.heap.update p f, toks := t } := by
  have e : (s.heap.update p f).get? p = some { cls := .type "list", data := .seq its'.toArray n' } := by
    rw [Heap.get?_update_self f ho (by rw [hf] <;> rfl), hf]
  refine I.write (x := p) (e := p) (by rw [h]; trivial) (.inl rfl) (fun b u hb q => (Heap.get?_update_other _ _ (Ne.symm hb)).trans q) ⟨_, e⟩ ?_
  exact ⟨hz, its', n', r, e⟩
def rSetL : V → V → V → Hp → (Hp → Prop) → Prop := fun o i v H Q => ∃ p xs k j, o = .ref p ∧ i = .int k ∧ H p = some (.lst xs) ∧ ixN xs.length k = some j ∧ Q (upd H p (.lst (xs.set j v)))
theorem set_list : PSet X rSetL := by
  intro pins s σ H o i v ov iv u Q I ro ri rv h
  obtain ⟨p, xs, k, j, rfl, rfl, hp, hj, q⟩ := h
  cases ro
  obtain ⟨t, rfl⟩ := ri
  obtain ⟨its, n, r, ho, hz⟩ := I.lst hp
  obtain ⟨h1, h2, h3, h4⟩ := ixN_seq hj
  have hl := r.length
  have hn := line63
  have I' : Inv X pins σ (upd H p (.lst (xs.set j v))) { s with heap := s.heap.update p (Obj.mapSeq (·.setIfInBounds j u)) } :=
    I.lstUpd hp ho (mapSeq_set its n j u) (r.set rv j) (by rw [List.length_set]; exact hz) s.toks
  by_cases h0 : 0 ≤ k
  · have hk : k.toNat = j := by
      rw [seqIndex_of h0 h4] at h1
      exact Option.some.inj h1
    exact PySem.W.ki_setAt ho h0 (by omega) (by rw [List.size_toArray, ← hl]; exact h4) (by rw [hk]; exact ⟨_, I', q⟩)
  · have hk : (k + (its.toArray.size : Int)).toNat = j := by
      rw [seqIndex_neg (by omega) h3] at h1
      rw [List.size_toArray, ← hl]
      exact Option.some.inj h1
    exact PySem.W.ki_setBack ho (by omega) (by rw [List.size_toArray, ← hl]; exact h3) (by omega) (by rw [hk]; exact ⟨_, I', q⟩)
/-! ### slices -/
theorem slice_bounds (lo hi : Option Int) (n : Nat) : (sliceBounds lo hi none n).1 = ((HT.sIx n 0 lo : Nat) : Int) ∧ (sliceBounds lo hi none n).2.1 = ((HT.sIx n n hi : Nat) : Int) ∧ (sliceBounds lo hi none n).2.2 = 1 := by
  refine ⟨?_, ?_, rfl⟩
  · cases lo with
    | none => simp [sliceBounds, HT.sIx]
    | some i =>
      simp only [sliceBounds, HT.sIx, Option.getD_none, show (1 : Int) > 0 by decide, if_true]
      by_cases h : i < 0
      · simp only [h, if_true] <;> omega
      · simp only [h, if_false] <;> omega
  · cases hi with
    | none => simp [sliceBounds, HT.sIx]
    | some i =>
      simp only [sliceBounds, HT.sIx, Option.getD_none, show (1 : Int) > 0 by decide, if_true]
      by_cases h : i < 0
      · simp only [h, if_true] <;> omega
      · simp only [h, if_false] <;> omega
theorem slicePick_cut (its : List Value) (lo hi : Option Int) : slicePick its.toArray lo hi none = ((its.drop (HT.sIx its.length 0 lo)).take (HT.sIx its.length its.length hi - HT.sIx its.length 0 lo)).toArray := by
  obtain ⟨h1, h2, h3⟩ := slice_bounds lo hi its.toArray.size
  unfold slicePick
  rw [h1, h2, h3]
  simp only [sliceRange_one, pick_run, List.size_toArray] <;> rfl
/-- xs[lo:hi] of a list: a new list -/
def rSlL (K : PySem.W.Frag) : V → Option Int → Option Int → Hp → VK → Prop := fun x lo hi H Q => ∃ a xs, x = .ref a ∧ SqL K H a xs ∧ ∀ p, H p = none → Q (.ref p) (upd H p (.lst (cutV xs lo hi)))
theorem sl_list : SlR X (rSlL X.K) := by
  intro pins s σ H x v vl vu lo hi sl Q I rx hs pl pu h
  obtain ⟨a, xs, rfl, hx, q⟩ := h
  cases rx
  obtain ⟨its, r, ht, hz⟩ := I.list hx
  have hlen := r.length
  refine ⟨"list", _, slot_list_getitem.lookup, ht.isList.typeIs, ?_⟩
  refine wpAny_getItem_list_slice ht.isList hs pl pu .none (by simp) ?_ (by rw [List.size_toArray] <;> omega)
  rw [slicePick_cut, ← hlen]
  refine ⟨.ref s.heap.objs.size, _, I.laid (t' := s.toks) (o := .lst (cutV xs lo hi)) (fun b ob q => Heap.get?_push_of_some _ q) (Nat.le_refl _) ?_, rfl, q _ (I.hok.fresh (Nat.le_refl _))⟩
  exact ⟨Nat.le_trans (cutV_length xs lo hi) hz, _, 0, (r.drop (HT.sIx xs.length 0 lo)).take (HT.sIx xs.length xs.length hi - HT.sIx xs.length 0 lo), Heap.get?_push_size _ rfl⟩
/-! ### in, not in: flat items -/
def flatV : V → Bool
  | .non => true
  | .bl _ => true
  | .int _ => true
  | .str _ => true
  | _ => false
/-- == of flat values -/
def eqV : V → V → Bool
  | .non, .non => true
  | .bl a, .bl b => a == b
  | .bl a, .int b => (if a then 1 else 0) == b
  | .int a, .bl b => a == (if b then 1 else 0)
  | .int a, .int b => a == b
  | .str a, .str b => a == b
  | _, _ => false
theorem eqAt_V {A : Around} {s : Shared} {y x : V} {u v : Value} (ry : RelV y u) (rx : RelV x v) (fy : flatV y = true) (fx : flatV x = true) : SeqAt.EqAt A s u v (eqV y x) := by
  cases y with
  | non =>
    cases ry
    cases x with
    | non => cases rx; exact SeqAt.EqAt.same _
    | bl b => cases rx; exact SeqAt.EqAt.none_bool b
    | int b => obtain ⟨t, rfl⟩ := rx; exact SeqAt.EqAt.none_int b t
    | str b => obtain ⟨t, rfl⟩ := rx; exact SeqAt.EqAt.none_str b t
    | _ => exact absurd (show false = true from fx) Bool.false_ne_true
  | bl a =>
    cases ry
    cases x with
    | non => cases rx; exact SeqAt.EqAt.bool_none a
    | bl b => cases rx; exact SeqAt.EqAt.bool_bool a b
    | int b => obtain ⟨t, rfl⟩ := rx; exact SeqAt.EqAt.bool_int a b t
    | str b => obtain ⟨t, rfl⟩ := rx; exact SeqAt.EqAt.bool_str a b t
    | _ => exact absurd (show false = true from fx) Bool.false_ne_true
  | int a =>
    obtain ⟨t', rfl⟩ := ry
    cases x with
    | non => cases rx; exact SeqAt.EqAt.int_none a t'
    | bl b => cases rx; exact SeqAt.EqAt.int_bool a t' b
    | int b => obtain ⟨t, rfl⟩ := rx; exact SeqAt.EqAt.int_int a t' b t
    | str b => obtain ⟨t, rfl⟩ := rx; exact SeqAt.EqAt.int_str a t' b t
    | _ => exact absurd (show false = true from fx) Bool.false_ne_true
  | str a =>
    obtain ⟨t', rfl⟩ := ry
    cases x with
    | non => cases rx; exact SeqAt.EqAt.str_none a t'
    | bl b => cases rx; exact SeqAt.EqAt.str_bool a t' b
    | int b => obtain ⟨t, rfl⟩ := rx; exact SeqAt.EqAt.str_int a t' b t
    | str b => obtain ⟨t, rfl⟩ := rx; exact SeqAt.EqAt.str_str a t' b t
    | _ => exact absurd (show false = true from fx) Bool.false_ne_true
  | _ => exact absurd (show false = true from fy) Bool.false_ne_true
/-- the items' answers, read off the values (a value's own answer does not lean on its token) -/
def eqU (x : V) (u : Value) : Bool := match u with
  | .none => eqV .non x
  | .bool b => eqV (.bl b) x
  | .int i _ => eqV (.int i) x
  | .str z _ => eqV (.str z) x
  | _ => false
theorem eqU_of {x y : V} {u : Value} (r : RelV y u) (f : flatV y = true) : eqU x u = eqV y x := by
  cases y with
  | non => cases r; rfl
  | bl b => cases r; rfl
  | int i => obtain ⟨t, rfl⟩ := r; rfl
  | str z => obtain ⟨t, rfl⟩ := r; rfl
  | _ => exact absurd (show false = true from f) Bool.false_ne_true
theorem any_eqU {x : V} : ∀ {xs : List V} {us : List Value}, Vals xs us → xs.all flatV = true → us.any (eqU x) = xs.any fun y => eqV y x
  | _, _, .nil, _ => rfl
  | y :: xs, u :: us, .cons r t, f => by
    rw [List.all_cons, Bool.and_eq_true] at f
    rw [List.any_cons, List.any_cons, eqU_of r f.1, any_eqU t f.2]
theorem mem_eqAt {A : Around} {s : Shared} {x : V} {v : Value} (rx : RelV x v) (fx : flatV x = true) : ∀ {xs : List V} {us : List Value}, Vals xs us → xs.all flatV = true → ∀ u ∈ us, SeqAt.EqAt A s u v (eqU x u)
  | _, _, .nil, _ => fun u hu => by cases hu
  | y :: xs, u :: us, .cons r t, f => fun u' hu => by
    rw [List.all_cons, Bool.and_eq_true] at f
    rcases List.mem_cons.mp hu with rfl | hu
    · rw [eqU_of r f.1]; exact eqAt_V r rx f.1 fx
    · exact mem_eqAt rx fx t f.2 u' hu
def inV (x : V) (xs : List V) : Bool := xs.any fun y => eqV y x
/-- x in a list or tuple of flat items -/
def rIn (K : PySem.W.Frag) (neg : Bool) : R2 := fun x y H Q => ∃ p xs, y = .ref p ∧ (SqL K H p xs ∨ SqT K H p xs) ∧ flatV x = true ∧ xs.all flatV = true ∧ Q (.bl (if neg then !inV x xs else inV x xs)) H
theorem op_in_seq : OpR X (compareOp .In) (rIn X.K false) := by
  intro pins s σ H x y v u Q I rx ry h
  obtain ⟨p, xs, rfl, hq, fx, fs, q⟩ := h
  cases ry
  rcases hq with hq | hq
  · obtain ⟨its, r, pl, hz⟩ := I.list hq
    refine SeqAt.in_listAt (eqU x) pl.isList (fun w hw => mem_eqAt rx fx r fs w (by simpa using hw)) ⟨.bl _, H, I, rfl, ?_⟩
    rw [show its.toArray.any (eqU x) = its.any (eqU x) by simp, any_eqU r fs]
    exact q
  · obtain ⟨its, r, pl, hz⟩ := I.tuple hq
    refine SeqAt.in_tupleAt (eqU x) pl (fun w hw => mem_eqAt rx fx r fs w (by simpa using hw)) ⟨.bl _, H, I, rfl, ?_⟩
    rw [show its.toArray.any (eqU x) = its.any (eqU x) by simp, any_eqU r fs]
    exact q
/-! ### len, list(x), tuple(x) of any list or tuple that is read -/
theorem call_len_seq : CallR X (.builtin "len") (fun xs H Q => ∃ p ys, xs = [.ref p] ∧ (SqL X.K H p ys ∨ SqT X.K H p ys) ∧ Q (.int ys.length) H) := by
  intro pins s σ H xs us Q I r h
  obtain ⟨p, ys, rfl, hq, q⟩ := h
  obtain ⟨u, rfl, rx⟩ := vals1 r
  cases rx
  have hn := line63
  rcases hq with hq | hq
  · obtain ⟨its, r', pl, hz⟩ := I.list hq
    have hlen := r'.length
    exact Calls.call_len_list pl.isList (by simp only [List.size_toArray] <;> omega) ⟨.int ys.length, H, I.tok _, ⟨s.toks + 1, by rw [List.size_toArray, hlen]⟩, q⟩
  · obtain ⟨its, r', pl, hz⟩ := I.tuple hq
    have hlen := r'.length
    exact len_tuple pl (by simp only [List.size_toArray] <;> omega) ⟨.int ys.length, H, I.tok _, ⟨s.toks + 1, by rw [List.size_toArray, hlen]⟩, q⟩
theorem call_list_of : CallR X (.type "list") (fun xs H Q => ∃ p ys, xs = [.ref p] ∧ (SqL X.K H p ys ∨ SqT X.K H p ys) ∧ ∀ l, H l = none → Q (.ref l) (upd H l (.lst ys))) := by
  intro pins s σ H xs us Q I r h
  obtain ⟨p, ys, rfl, hq, q⟩ := h
  obtain ⟨u, rfl, rx⟩ := vals1 r
  cases rx
  have fin : ∀ (its : List Value), Vals ys its → ys.length ≤ sizeLine → ∀ (h' : Heap) (c' : Nat), (∀ b o', s.heap.get? b = some o' → h'.get? b = some o') →
      h'.get? s.heap.objs.size = some { cls := .type "list", dict := none, data := .seq its.toArray c', slots := #[] } → EP X pins σ Q (.ref s.heap.objs.size) { s with heap := h' } := fun its r' hz h' c' kp e =>
    ⟨.ref s.heap.objs.size, _, I.laid (t' := s.toks) kp (Nat.le_refl _) (show ObjOk X.prog X.w _ h' _ (.lst ys) from ⟨hz, its, c', r', e⟩), rfl, q _ (I.hok.fresh (Nat.le_refl _))⟩
  rcases hq with hq | hq
  · obtain ⟨its, r', pl, hz⟩ := I.list hq
    have hlen := r'.length
    obtain ⟨o, ho, hc, n, hd⟩ := pl.isList
    exact call_list_seq p (.inl rfl) ho hc hd (fun h' c' kp e => fin its r' hz h' c' kp e) (by simp only [List.size_toArray] <;> omega)
  · obtain ⟨its, r', pl, hz⟩ := I.tuple hq
    have hlen := r'.length
    obtain ⟨o, ho, hc, n, hd⟩ := pl
    exact call_list_seq p (.inr rfl) ho hc hd (fun h' c' kp e => fin its r' hz h' c' kp e) (by simp only [List.size_toArray] <;> omega)
theorem call_tuple_of : CallR X (.type "tuple") (fun xs H Q => ∃ p ys, xs = [.ref p] ∧ ((SqL X.K H p ys ∧ ∀ l, H l = none → Q (.ref l) (upd H l (.tup ys))) ∨ (SqT X.K H p ys ∧ Q (.ref p) H))) := by
  intro pins s σ H xs us Q I r h
  obtain ⟨p, ys, rfl, h⟩ := h
  obtain ⟨u, rfl, rx⟩ := vals1 r
  cases rx
  rcases h with ⟨hq, q⟩ | ⟨hq, q⟩
  · obtain ⟨its, r', pl, hz⟩ := I.list hq
    have hlen := r'.length
    refine call_tuple_list pl.isList (fun h' kp => ?_) (by simp only [List.size_toArray] <;> omega)
    have I1 : Inv X pins σ H { s with heap := h' } := I.kept (t' := s.toks) kp
    have I2 : Inv X pins σ (upd H h'.objs.size (.tup ys)) { s with heap := h'.push { cls := .type "tuple", data := .seq its.toArray } } :=
      I1.laid (t' := s.toks) (fun b o e => Heap.get?_push_of_some _ e) (Nat.le_refl _) (show ObjOk X.prog X.w _ _ _ (.tup ys) from ⟨hz, its, r', IsTup.new _ _⟩)
    exact ⟨.ref h'.objs.size, _, I2, rfl, q _ (I1.hok.fresh (Nat.le_refl _))⟩
  · obtain ⟨its, r', pl, hz⟩ := I.tuple hq
    exact call_tuple_same pl ⟨.ref p, H, I, rfl, q⟩
/-! ### the call of a builtin's method: o.m(..) -/
/-- the value is of that builtin type -/
def tyV (K : PySem.W.Frag) (T : String) (x : V) (H : Hp) : Prop := match x with
  | .str _ => T = "str"
  | .int _ => T = "int"
  | .ref p => (T = "list" ∧ ∃ xs, SqL K H p xs) ∨ (T = "tuple" ∧ ∃ o, K.lookup p = some o ∧ o.cls = .type "tuple" ∧ o.dict = none) ∨
      (T = "dict" ∧ ((∃ kvs, H p = some (.dK kvs)) ∨ ∃ kvs, H p = some (.dT kvs))) ∨ (T = "set" ∧ ∃ S n, H p = some (.set S n))
  | _ => False
theorem tyV_is {pins : List (Addr × Obj)} {σ : St} {H : Hp} {s : Shared} {T : String} {x : V} {v : Value} (I : Inv X pins σ H s) (r : RelV x v) (ty : tyV X.K T x H) :
    s.TypeIs v T ∧ ∀ a, v = .ref a → ∃ ob, s.heap.get? a = some ob ∧ ob.dict = none := by
  cases x with
  | str z =>
    obtain ⟨t, rfl⟩ := r
    cases (show T = "str" from ty)
    exact ⟨typeIs_str s z t, fun _ e => nomatch e⟩
  | int i =>
    obtain ⟨t, rfl⟩ := r
    cases (show T = "int" from ty)
    exact ⟨typeIs_int s i t, fun _ e => nomatch e⟩
  | ref p =>
    cases r
    rcases ty with ⟨rfl, xs, hq⟩ | ⟨rfl, o, hk, hc, hd⟩ | ⟨rfl, hk⟩ | ⟨rfl, S, n, hk⟩
    · obtain ⟨its, _, pl, _⟩ := I.list hq
      refine ⟨pl.isList.typeIs, fun a e => ?_⟩
      cases e
      obtain ⟨o, n, e, c, hd, _⟩ := pl
      exact ⟨o, e, hd⟩
    · refine ⟨⟨o, I.kIn p o hk, hc⟩, fun a e => ?_⟩
      cases e
      exact ⟨o, I.kIn _ o hk, hd⟩
    · have z : ∃ o, s.heap.get? p = some o ∧ o.ExactDict := by
        rcases hk with ⟨kvs, hk⟩ | ⟨kvs, hk⟩
        · obtain ⟨_, _, _, _, o, _, _, e, ex, _⟩ := I.hok p _ hk
          exact ⟨o, e, ex⟩
        · obtain ⟨_, _, _, _, o, _, _, e, ex, _⟩ := I.hok p _ hk
          exact ⟨o, e, ex⟩
      obtain ⟨o, e, ex⟩ := z
      refine ⟨⟨o, e, ex.1⟩, fun a e2 => ?_⟩
      cases e2
      exact ⟨o, e, ex.2.1⟩
    · obtain ⟨o, _, _, _, e, ex, _⟩ := I.hok p _ hk
      refine ⟨⟨o, e, ex.1⟩, fun a e2 => ?_⟩
      cases e2
      exact ⟨o, e, ex.2.1⟩
  | _ => exact False.elim ty
def tBM (K : PySem.W.Frag) (T : String) (r : V → List V → Hp → VK → Prop) (to : TE) (t : TA) : TE := fun σ H Q => to σ H fun x H1 => tyV K T x H1 ∧ t σ H1 fun xs H2 => r x xs H2 Q
variable {o e : Expr} {es : List Expr} {to : TE} {t : TA} {name : Str} {apos cpos : Pos} {T id : String} {r : V → List V → Hp → VK → Prop}
theorem pe_bm (pa : PlainAttrs T) (slot : Slot T name id) (hty : typeOf (.builtin id) = pure (.type "method_descriptor")) (hm : MtR X id r) (ho : PE X o to) (ha : PA X (e :: es) t)
    (hbase : attributeBase o name X.env (eval o X.env) = eval o X.env := by rfl)
    (hfew : ((backTo cpos (starEach (e :: es) X.env)).all (fun x => !x.1) && (backToKw cpos (keywordEach [] X.env)).all (fun x => x.1.isSome)
      && decide ((e :: es).length + ([] : List Keyword).length + (if ([] : List Keyword).isEmpty then 0 else 1) < 30)) = true := by rfl)
    (hline : (apos.endLine == cpos.line) = true := by rfl) (hs : starEach (e :: es) X.env = (false, eval e X.env) :: starEach es X.env := by rfl) (hplain : (backTo cpos (starEach es X.env)).any (·.1) = false := by rfl) :
    PE X (.Call (.Attribute o name apos) (e :: es) [] cpos) (tBM X.K T r to t) := by
  intro pins s σ H Q I h
  refine wpAny_Call_method_late hbase hfew hline rfl (thn (ho pins s σ H _ I h) fun v s1 ⟨x, H1, I1, r1, ty, q1⟩ => ?_)
  obtain ⟨h1, h2⟩ := tyV_is I1 r1 ty
  refine ⟨T, id, pa, slot, hty, h1, h2, ?_⟩
  have hA := ha cpos pins s1 σ H1 _ I1 q1
  rw [hs] at hA ⊢
  refine Calls.callWith_builtin (by show (false || (backTo cpos (starEach es X.env)).any (·.1)) = false; rw [hplain] <;> rfl) (Calls.evalArgs_plain ?_)
  exact thn hA fun us s2 ⟨vs, H2, I2, r2, q2⟩ => hm pins s2 σ H2 x vs v us Q I2 r1 r2 q2
/- xs.append(e), list.index on a module's tuple .. are MtR facts of 06m -/
end
end L2
namespace L2
open PySem PySem.Spec PyProof.Rows
def MtM (X : Cx) (id : String) (r : V → List V → Hp → VK → Prop) : Prop :=
  ∀ (pins : List (Addr × Obj)) (s : Shared) (σ : St) (H : Hp) (x : V) (xs : List V) (v : Value) (us : List Value) (Q : VK), Inv X pins σ H s → RelV x v → Vals xs us → r x xs H Q →
    wpAny (model X.prog X.w) X.A (call (.builtin id) (v :: us)) (EP X pins σ Q) X.xe s
/-! ### lists of values -/
theorem Vals.one : ∀ {x : V} {us : List Value}, Vals [x] us → ∃ u, us = [u] ∧ RelV x u
  | _, _, .cons r .nil => ⟨_, rfl, r⟩
theorem Vals.eraseIdx : ∀ {xs : List V} {us : List Value} (i : Nat), Vals xs us → Vals (xs.eraseIdx i) (us.eraseIdx i)
  | _, _, _, .nil => .nil
  | _, _, 0, .cons _ t => t
  | _, _, i + 1, .cons r t => .cons r (Vals.eraseIdx i t)
theorem Vals.rep {xs : List V} {us : List Value} (h : Vals xs us) : ∀ k : Nat, Vals (List.replicate k xs).flatten (List.replicate k us).flatten
  | 0 => .nil
  | k + 1 => by
    rw [List.replicate_succ, List.replicate_succ, List.flatten_cons, List.flatten_cons]
    exact Vals.append h (Vals.rep h k)
theorem len_erase {α : Type} : ∀ (l : List α) (i : Nat), (l.eraseIdx i).length ≤ l.length
  | [], _ => Nat.le_refl _
  | _ :: _, 0 => Nat.le_succ _
  | _ :: r, i + 1 => Nat.succ_le_succ (len_erase r i)
theorem foldl_rep (its : List Value) : ∀ (k : Nat) (acc : List Value),
    List.foldl (fun x1 x2 => x1 ++ x2) acc.toArray (List.replicate k its.toArray) = (acc ++ (List.replicate k its).flatten).toArray
  | 0, acc => by simp
  | k + 1, acc => by
    have e : acc.toArray ++ its.toArray = (acc ++ its).toArray := by simp
    have e2 : (acc ++ its) ++ (List.replicate k its).flatten = acc ++ (List.replicate (k + 1) its).flatten := by
      rw [List.replicate_succ, List.flatten_cons, List.append_assoc]
    rw [← e2, ← foldl_rep its k (acc ++ its), ← e, List.replicate_succ, List.foldl_cons]
section
variable {X : Cx} {pins : List (Addr × Obj)} {σ : St} {H : Hp} {s : Shared} {l b : Addr} {xs ys zs : List V}
/-! ### the two steps: a tracked list is rewritten, a new list is laid -/
theorem Inv.lset {its its' : List Value} {n : Nat} {f : Array Value → Array Value} {t' : Nat} (I : Inv X pins σ H s) (hH : H l = some (.lst xs))
    (e : s.heap.get? l = some { cls := .type "list", data := .seq its.toArray n }) (hf : f its.toArray = its'.toArray) (hv : Vals ys its') (hz : ys.length ≤ sizeLine) :
    Inv X pins σ (upd H l (.lst ys)) { s with heap := s.heap.update l (Obj.mapSeq f), toks := t' } := by
  have q := PySem.IsL.update e f
  rw [hf] at q
  refine I.write (x := l) (e := l) (by rw [hH]; exact trivial) (.inl rfl) (fun b' u hb hu => (Heap.get?_update_other s.heap (Obj.mapSeq f) (Ne.symm hb)).trans hu) ⟨_, q⟩ ?_
  exact ⟨hz, its', _, hv, q⟩
theorem Inv.lnew {its : List Value} {t' : Nat} (I : Inv X pins σ H s) (hv : Vals ys its) (hz : ys.length ≤ sizeLine) :
    Inv X pins σ (upd H s.heap.objs.size (.lst ys)) { s with heap := s.heap.push { cls := .type "list", data := .seq its.toArray }, toks := t' } :=
  I.laid (fun _ _ q => Heap.get?_push_of_some _ q) (Nat.le_refl _) ⟨hz, its, 0, hv, Heap.get?_push_size _ rfl⟩
theorem Inv.fresh (I : Inv X pins σ H s) : H s.heap.objs.size = none := I.hok.fresh (Nat.le_refl _)
theorem Inv.lstM (I : Inv X pins σ H s) (hH : H l = some (.lst xs)) : xs.length ≤ sizeLine ∧ ∃ (its : List Value) (n : Nat), Vals xs its ∧ xs.length = its.length ∧ s.heap.get? l = some { cls := .type "list", data := .seq its.toArray n } := by
  obtain ⟨z, its, n, r, e⟩ := I.hok l _ hH
  exact ⟨z, its, n, r, r.length, e⟩
theorem notLongL {n : Nat} (h : n ≤ sizeLine) : Builtin.List.listTooLong n = false := by
  unfold Builtin.List.listTooLong
  exact decide_eq_false (by omega)
end
section
variable {X : Cx}
/-! ### methods -/
def rAppend : V → List V → Hp → VK → Prop := fun x vs H Q => ∃ l xs y, x = .ref l ∧ vs = [y] ∧ H l = some (.lst xs) ∧ xs.length < sizeLine ∧ Q .non (upd H l (.lst (xs ++ [y])))
theorem mt_append : MtM X "list.append" rAppend := by
  intro pins s σ H x vs v us Q I rx rv h
  obtain ⟨l, xs, y, rfl, rfl, hH, hz, q⟩ := h
  cases rx
  obtain ⟨u, rfl, ru⟩ := rv.one
  obtain ⟨z, its, n, r, hl, e⟩ := I.lstM hH
  refine call_meets F.slot_list_append ⟨_, e, rfl⟩ F.entry_list_append (F.args_list_append_2 _ _) (PySem.list_append l its.toArray n u (by rw [List.size_toArray]; omega)) ⟨e, ?_⟩
  refine ⟨.non, _, I.lset (its' := its ++ [u]) hH e (by simp) (r.append (.cons ru .nil)) ?_, rfl, q⟩
  rw [List.length_append, List.length_singleton]
  omega
def rExtend : V → List V → Hp → VK → Prop := fun x vs H Q => ∃ l b xs zs, x = .ref l ∧ vs = [.ref b] ∧ H l = some (.lst xs) ∧ H b = some (.lst zs) ∧ xs.length + zs.length ≤ sizeLine ∧ Q .non (upd H l (.lst (xs ++ zs)))
theorem mt_extend : MtM X "list.extend" rExtend := by
  intro pins s σ H x vs v us Q I rx rv h
  obtain ⟨l, b, xs, zs, rfl, rfl, hH, hB, hz, q⟩ := h
  cases rx
  obtain ⟨u, rfl, ru⟩ := rv.one
  cases ru
  obtain ⟨z, its, n, r, hl, e⟩ := I.lstM hH
  obtain ⟨z2, its2, n2, r2, hl2, e2⟩ := I.lstM hB
  have hsz : its.toArray.size + its2.toArray.size ≤ sizeLine := by rw [List.size_toArray, List.size_toArray]; omega
  have hlong : ¬ (!its.toArray.isEmpty && Builtin.List.listTooLong (its.toArray.size + its2.toArray.size)) = true := by
    rw [notLongL hsz, Bool.and_false]
    exact Bool.false_ne_true
  refine call_meets F.slot_list_extend ⟨_, e, rfl⟩ F.entry_list_extend (F.args_list_extend_2 _ _)
    (AutoSeq1.list_extend_list_list_0 l its.toArray n b its2.toArray n2 hlong (by rw [List.size_toArray]; omega) (by omega)) ⟨e, e2, ?_⟩
  refine ⟨.non, _, I.lset (its' := its ++ its2) hH e (by simp) (r.append r2) ?_, rfl, q⟩
  rw [List.length_append]
  omega
/-! ### list + list, list += list, list * int -/
def rCat : R2 := fun x y H Q => ∃ l b xs zs, x = .ref l ∧ y = .ref b ∧ H l = some (.lst xs) ∧ H b = some (.lst zs) ∧ xs.length + zs.length ≤ sizeLine ∧ ∀ p, H p = none → Q (.ref p) (upd H p (.lst (xs ++ zs)))
theorem op_cat : OpR X (binaryOp .Add) rCat := by
  intro pins s σ H x y v u Q I rx ry h
  obtain ⟨l, b, xs, zs, rfl, rfl, hH, hB, hz, q⟩ := h
  cases rx
  cases ry
  obtain ⟨z, its, n, r, hl, e⟩ := I.lstM hH
  obtain ⟨z2, its2, n2, r2, hl2, e2⟩ := I.lstM hB
  refine PySem.P.add_list e e2 ?_ (by rw [List.size_toArray, List.size_toArray]; omega)
  have ea : its.toArray ++ its2.toArray = (its ++ its2).toArray := by simp
  rw [ea]
  exact ⟨.ref _, _, I.lnew (t' := s.toks) (r.append r2) (by rw [List.length_append]; omega), rfl, q _ I.fresh⟩
/-- a list times an int (a negative one is nothing) -/
def rRep : R2 := fun x y H Q => ∃ l k xs, x = .ref l ∧ y = .int k ∧ H l = some (.lst xs) ∧ -(2 ^ 63) ≤ k ∧ k < 2 ^ 63 ∧ xs.length * k.toNat ≤ sizeLine ∧
  ∀ p, H p = none → Q (.ref p) (upd H p (.lst (List.replicate k.toNat xs).flatten))
theorem len_rep {α : Type} (xs : List α) (k : Nat) : (List.replicate k xs).flatten.length = k * xs.length := by
  induction k with
  | zero => simp
  | succ k ih => rw [List.replicate_succ, List.flatten_cons, List.length_append, ih, Nat.succ_mul, Nat.add_comm]
theorem op_rep : OpR X (binaryOp .Mult) rRep := by
  intro pins s σ H x y v u Q I rx ry h
  obtain ⟨l, k, xs, rfl, rfl, hH, h1, h2, hz, q⟩ := h
  cases rx
  obtain ⟨t, rfl⟩ := ry
  obtain ⟨z, its, n, r, hl, e⟩ := I.lstM hH
  have hlen : its.toArray.size * k.toNat ≤ sizeLine := by rw [List.size_toArray, ← hl]; exact hz
  have hcap : ¬ its.toArray.size * k.toNat > (2 ^ 63 - 1) / 8 := by
    have : (sizeLine : Nat) ≤ (2 ^ 63 - 1) / 8 := by decide
    omega
  have hfit : ¬ (!Builtin.List.listFitsIndex k) = true := by
    rw [fitsIndex_both h1 h2]
    exact Bool.false_ne_true
  have hlong : ¬ Builtin.List.listTooLong (its.toArray.size * k.toNat) = true := by
    rw [notLongL hlen]
    exact Bool.false_ne_true
  have hnew : List.foldl (fun x1 x2 => x1 ++ x2) #[] (List.replicate (if its.toArray.isEmpty = true then 0 else k.toNat) its.toArray) = (List.replicate k.toNat its).flatten.toArray := by
    have f0 : ∀ m : Nat, List.foldl (fun x1 x2 => x1 ++ x2) #[] (List.replicate m its.toArray) = (List.replicate m its).flatten.toArray := fun m => by
      have := foldl_rep its m []
      rw [List.nil_append] at this
      exact this
    rw [f0]
    cases its with
    | nil => simp
    | cons a r' => rw [if_neg (by simp)]
  refine wpAny_binaryOp_repeat_ref (T := "list") (U := "int") (by decide) ⟨_, e, rfl⟩ (fun s' => typeIs_int s' k t) noFill_list_mul F.fills_int_mul F.slot_int_rmul repeat_list F.slot_int_index.lookup
    (call_meets F.slot_int_rmul (typeIs_int s k t) F.entry_int_rmul (F.args_int_rmul_2 _ _) (int___rmul___int_list k t l its.toArray n)
      ⟨e, rfl, ⟨_, e, rfl⟩, call_meets F.slot_list_mul ⟨_, e, rfl⟩ F.entry_list_mul (F.args_list_mul_2 _ _) (AutoListH.list___mul___list_int_3 l its.toArray n k t hfit hcap hlong) ⟨e, ?_⟩⟩)
  rw [hnew]
  exact ⟨.ref _, _, I.lnew (t' := s.toks) (r.rep k.toNat) (by rw [len_rep, Nat.mul_comm]; exact hz), rfl, q _ I.fresh⟩
/-! ### del xs[i] -/
end
/-! ### xs[a:b] = ys -/
section
variable {prog : Program} {w : World} {A : Around} {E : Value → Shared → Prop} {s : Shared}
set_option maxRecDepth 100000 in
end
section
variable {X : Cx}
end
end L2
namespace L2
open PySem PySem.Spec PyProof.Rows
theorem Vals.ints : ∀ {ns : List Int} {us : List Value}, Vals (ns.map V.int) us → IntsAre us ns
  | [], us, h => by
    rw [List.map_nil] at h
    cases h
    exact IntsAre.nil
  | n :: ns, us, h => by
    rw [List.map_cons] at h
    cases h with
    | cons r t =>
      obtain ⟨k, rfl⟩ := r
      exact IntsAre.cons n k (Vals.ints t)
theorem Vals.bls : ∀ {bs : List Bool} {us : List Value}, Vals (bs.map V.bl) us → us = bs.map Value.bool
  | [], us, h => by
    rw [List.map_nil] at h
    cases h
    rfl
  | b :: bs, us, h => by
    rw [List.map_cons] at h
    cases h with
    | cons r t =>
      cases r
      rw [Vals.bls t, List.map_cons]
theorem Vals.ref1 {a : Addr} {us : List Value} (r : Vals [V.ref a] us) : us = [Value.ref a] := by
  cases r with
  | cons r t =>
    cases t
    cases r
    rfl
/-! ### the library's walks over a list of ints, kept objects alone -/
section
variable {prog : Program} {w : World} {A : Around} {E : Value → Shared → Prop} {s : Shared} {l : Addr} {its : List Value} {ns : List Int} {Q : Value → Shared → Prop}
theorem sum_raw (hh : A.handled = none) (hl : s.heap.IsList l its.toArray) (hi : IntsAre its ns)
    (h : ∀ h' tk t', (∀ b o, s.heap.get? b = some o → h'.get? b = some o) → Q (.int ns.sum t') { s with heap := h', toks := tk }) : wpAny (model prog w) A (call (.builtin "sum") [.ref l]) Q E s := by
  obtain ⟨xs, e⟩ := hi.allInts.items
  have hn : numsOf (intItems xs).toList = ns := by rw [← e]; exact hi.numsOf
  rw [nums_intItems] at hn
  rw [e] at hl
  refine PySem.sum_intListG hh hl fun h' tk t' hk => ?_
  have := h h' tk t' hk
  rw [preSum_eq, List.take_of_length_le (by simp), hn]; exact this
end
/-! ### the calls, by values (CallR of 03t; MtR of 06l) -/
section
variable {X : Cx}
/-- sum(xs) of a list of ints -/
def rSum (K : PySem.W.Frag) : List V → Hp → VK → Prop := fun vs H Q => ∃ (a : Addr) (ns : List Int), vs = [V.ref a] ∧ SqL K H a (ns.map V.int) ∧ Q (.int ns.sum) H
theorem cr_sum (hc : X.calm = true) : CallR X (.builtin "sum") (rSum X.K) := by
  intro pins s σ H vs us Q I r h
  obtain ⟨a, ns, rfl, hs, q⟩ := h
  obtain ⟨its, rv, hl, _⟩ := I.list hs
  rw [Vals.ref1 r]
  exact sum_raw (I.ok.hd hc) hl.isList rv.ints fun h' tk t' hk => ⟨.int _, H, I.kept hk, ⟨_, rfl⟩, q⟩
/-! sorted, sort (fewer than 64 items: the library's own bound) -/
end
/-! ### list.index, flat items -/
section
variable {X : Cx}
end
/-! ### type(x) of an own instance; is, is not of a module's class -/
section
variable {X : Cx}
end
/-! ### any(xs), all(xs) of a list of bools -/
theorem iter_any {prog : Program} {w : World} {A : Around} {E : Value → Shared → Prop} {s : Shared} {l : Addr} {items : Array Value} {Q : Value → Shared → Prop} (hl : s.heap.IsList l items)
    (h : ∀ s₂ : Shared, s₂ = { s with heap := s.heap.push { cls := .type "list_iterator", data := .fields #[.ref l, .int 0 0] } } →
      (s₂.heap.IsListIter s.heap.objs.size l 0 ∧ s₂.heap.IsList l items) → l ≠ s.heap.objs.size → Q (.ref s.heap.objs.size) s₂) : wpAny (model prog w) A (pyIter (.ref l)) Q E s := by
  have hlt : l < s.heap.objs.size := by obtain ⟨_, e, _⟩ := hl; exact Heap.lt_size e
  exact wpAny_pyIter_list hl (h _ rfl ⟨⟨_, Heap.get?_push_size _ rfl, rfl, rfl⟩, hl.push _⟩ (Nat.ne_of_lt hlt))
theorem truth_bools {prog : Program} {w : World} {A : Around} {bs : List Bool} {its : List Value} (e : its = bs.map Value.bool) :
    TruthOf prog w A (fun i v => its.toArray[i]? = some v) (fun i => bs.getD i false) := fun i v s Q E hv hq => by
  have hv' : its[i]? = some v := by simpa using hv
  rw [e, List.getElem?_map] at hv'
  obtain ⟨b, hb, rfl⟩ := Option.map_eq_some_iff.mp hv'
  have hg : bs.getD i false = b := by rw [List.getD_eq_getElem?_getD, hb] <;> rfl
  have hq' : Q (bs.getD i false) s := hq
  rw [hg] at hq'
  exact wpAny_truthy_bool hq'
theorem any_range : ∀ bs : List Bool, (List.range bs.length).any (fun i => bs.getD i false) = bs.any id
  | [] => rfl
  | b :: bs => by
    rw [List.length_cons, List.range_succ_eq_map, List.any_cons, List.any_map, List.any_cons, ← any_range bs]
    all_goals rfl
theorem all_range : ∀ bs : List Bool, (List.range bs.length).all (fun i => bs.getD i false) = bs.all id
  | [] => rfl
  | b :: bs => by
    rw [List.length_cons, List.range_succ_eq_map, List.all_cons, List.all_map, List.all_cons, ← all_range bs]
    all_goals rfl
section
variable {X : Cx}
def rAny (K : PySem.W.Frag) : List V → Hp → VK → Prop := fun vs H Q => ∃ (a : Addr) (bs : List Bool), vs = [V.ref a] ∧ SqL K H a (bs.map V.bl) ∧ Q (.bl (bs.any id)) H
def rAll (K : PySem.W.Frag) : List V → Hp → VK → Prop := fun vs H Q => ∃ (a : Addr) (bs : List Bool), vs = [V.ref a] ∧ SqL K H a (bs.map V.bl) ∧ Q (.bl (bs.all id)) H
theorem cr_any (hc : X.calm = true) : CallR X (.builtin "any") (rAny X.K) := by
  intro pins s σ H vs us Q I r h
  obtain ⟨a, bs, rfl, hs, q⟩ := h
  obtain ⟨its, rv, hl, _⟩ := I.list hs
  rw [Vals.ref1 r]
  have hb := rv.bls
  refine call_any_walk (iter_any hl.isList fun s₂ e2 st hne => ?_)
  subst e2
  refine ⟨_, _, _, _, _, _, _, rfl, Walks.list (A := X.A.in1) (I.ok.hd hc) _ a hne its.toArray, st, truth_bools hb, fun h' tk hk => ?_⟩
  refine ⟨.bl _, H, I.kept fun b o eo => hk b o (fun hmem => ?_) (Heap.get?_push_of_some _ eo), ?_, q⟩
  · rcases List.mem_cons.mp hmem with e1 | hmem
    · exact absurd (e1 ▸ Heap.lt_size eo) (Nat.lt_irrefl _)
    · cases hmem
  · show Value.bool _ = Value.bool _
    rw [← any_range, hb, List.size_toArray, List.length_map]
theorem cr_all (hc : X.calm = true) : CallR X (.builtin "all") (rAll X.K) := by
  intro pins s σ H vs us Q I r h
  obtain ⟨a, bs, rfl, hs, q⟩ := h
  obtain ⟨its, rv, hl, _⟩ := I.list hs
  rw [Vals.ref1 r]
  have hb := rv.bls
  refine call_all_walk (iter_any hl.isList fun s₂ e2 st hne => ?_)
  subst e2
  refine ⟨_, _, _, _, _, _, _, rfl, Walks.list (A := X.A.in1) (I.ok.hd hc) _ a hne its.toArray, st, truth_bools hb, fun h' tk hk => ?_⟩
  refine ⟨.bl _, H, I.kept fun b o eo => hk b o (fun hmem => ?_) (Heap.get?_push_of_some _ eo), ?_, q⟩
  · rcases List.mem_cons.mp hmem with e1 | hmem
    · exact absurd (e1 ▸ Heap.lt_size eo) (Nat.lt_irrefl _)
    · cases hmem
  · show Value.bool _ = Value.bool _
    rw [← all_range, hb, List.size_toArray, List.length_map]
end
/-! ### == and != of data at any depth: none, bools, ints, texts, lists, tuples -/
mutual
inductive Dp (K : PySem.W.Frag) (H : Hp) : V → PyData → Prop
  | non : Dp K H .non .none
  | bl (b : Bool) : Dp K H (.bl b) (.bool b)
  | int (i : Int) : Dp K H (.int i) (.int i)
  | str (x : Str) : Dp K H (.str x) (.str x)
  | lst {a : Addr} {xs : List V} {ds : List PyData} : SqL K H a xs → DpAll K H xs ds → Dp K H (.ref a) (.list ds)
  | tup {a : Addr} {xs : List V} {ds : List PyData} : SqT K H a xs → DpAll K H xs ds → Dp K H (.ref a) (.tuple ds)
inductive DpAll (K : PySem.W.Frag) (H : Hp) : List V → List PyData → Prop
  | nil : DpAll K H [] []
  | cons {v : V} {vs : List V} {d : PyData} {ds : List PyData} : Dp K H v d → DpAll K H vs ds → DpAll K H (v :: vs) (d :: ds)
end
section
variable {X : Cx} {pins : List (Addr × Obj)} {σ : St} {H : Hp} {s : Shared}
mutual
theorem Dp.reads (I : Inv X pins σ H s) : ∀ (d : PyData) (v : V) (u : Value), Dp X.K H v d → RelV v u → ∃ as, Reads s.heap u d as
  | .none, _, _, h, r => by
    cases h
    cases r
    exact ⟨_, Reads.none⟩
  | .bool b, _, _, h, r => by
    cases h
    cases r
    exact ⟨_, Reads.bool b⟩
  | .int i, _, _, h, r => by
    cases h
    obtain ⟨t, rfl⟩ := r
    exact ⟨_, Reads.int i t⟩
  | .str x, _, _, h, r => by
    cases h
    obtain ⟨t, rfl⟩ := r
    exact ⟨_, Reads.str x t⟩
  | .list ds, _, _, h, r => by
    cases h with
    | lst hs ha =>
      cases r
      obtain ⟨its, rv, ⟨o, n, ho, hc, _, hd⟩, _⟩ := I.list hs
      obtain ⟨as, hr⟩ := Dp.readsAll I ds _ its ha rv
      exact ⟨_, Reads.list ho hc hd hr⟩
  | .tuple ds, _, _, h, r => by
    cases h with
    | tup hs ha =>
      cases r
      obtain ⟨its, rv, ⟨o, ho, hc, n, hd⟩, _⟩ := I.tuple hs
      obtain ⟨as, hr⟩ := Dp.readsAll I ds _ its ha rv
      exact ⟨_, Reads.tuple ho hc hd hr⟩
  | .dict _, _, _, h, _ => by cases h
theorem Dp.readsAll (I : Inv X pins σ H s) : ∀ (ds : List PyData) (vs : List V) (us : List Value), DpAll X.K H vs ds → Vals vs us → ∃ as, ReadsAll s.heap us ds as
  | [], _, _, h, r => by
    cases h
    cases r
    exact ⟨_, ReadsAll.nil⟩
  | d :: ds, _, _, h, r => by
    cases h with
    | cons h1 h2 =>
      cases r with
      | cons r1 r2 =>
        obtain ⟨as, q1⟩ := Dp.reads I d _ _ h1 r1
        obtain ⟨bs, q2⟩ := Dp.readsAll I ds _ _ h2 r2
        exact ⟨_, ReadsAll.cons q1 q2⟩
end
end
section
variable {X : Cx}
end
end L2
namespace L2
open PySem PySem.Spec PyProof.Rows
abbrev CellAt (h : Heap) (c : Addr) (v : Option Value) : Prop := h.IsCell c v
def relS (scope sc : Scope) : Scope :=
  { scope with names := scope.names.map fun (n, k) => if (k == .free && sc.kind == .function && sc.names.lookup n == some .cell) then (n, .cell) else (n, k) }
def cloFrom (cells : List (Str × Addr)) : List (Str × NameKind) → List (Str × Addr) → List (Str × Addr)
  | [], acc => acc
  | (n, k) :: r, acc => if k == .free then cloFrom cells r ((n, (cells.lookup n).getD 0) :: acc) else cloFrom cells r acc
theorem closure_loop (env : Env) (f : Str × NameKind → List (Str × Addr) → Sem (ForInStep (List (Str × Addr))))
    (hf : ∀ n k c, f (n, k) c = if k == .free then (do let a ← cellOf env n; pure (.yield ((n, a) :: c))) else pure (.yield c)) :
    ∀ (names : List (Str × NameKind)) (acc : List (Str × Addr)), (∀ y ∈ names, y.2 = .free → ∃ c, env.cells.lookup y.1 = some c) → forIn names acc f = pure (cloFrom env.cells names acc)
  | [], acc, _ => by rw [List.forIn_nil]; rfl
  | (n, k) :: r, acc, h => by
    rw [List.forIn_cons, hf]
    have ih := fun acc => closure_loop env f hf r acc fun y hy => h y (List.mem_cons_of_mem _ hy)
    unfold cloFrom
    by_cases hk : (k == NameKind.free) = true
    · rw [if_pos hk, if_pos hk]
      obtain ⟨c, hc⟩ := h (n, k) List.mem_cons_self (by simpa using hk)
      have e : cellOf env n = pure c := by unfold cellOf; rw [hc]
      rw [e]
      have e2 : (env.cells.lookup n).getD 0 = c := by rw [hc]; rfl
      rw [e2]
      exact ih _
    · rw [if_neg hk, if_neg hk]
      exact ih _
theorem closure_ok {scope : Scope} {env : Env} (h : ∀ y ∈ scope.names, y.2 = .free → ∃ c, env.cells.lookup y.1 = some c) : closureFor scope env = pure (cloFrom env.cells scope.names []) := by
  simp only [closureFor]
  rw [closure_loop env _ (fun n k c => rfl) scope.names [] h]
  rfl
theorem mem_lookup {α : Type} : ∀ {l : List (Str × α)} {n : Str} {c : α}, (n, c) ∈ l → ∃ c', l.lookup n = some c'
  | (k, v) :: r, n, c, h => by
    rw [List.lookup_cons]
    cases hb : n == k with
    | true => exact ⟨_, rfl⟩
    | false =>
      rcases List.mem_cons.mp h with e | h
      · cases e; simp at hb
      · exact mem_lookup h
theorem cloFrom_mem {cells : List (Str × Addr)} : ∀ {names : List (Str × NameKind)} {acc : List (Str × Addr)} {n : Str} {c : Addr}, (n, c) ∈ cloFrom cells names acc → (n, c) ∈ acc ∨ ((n, .free) ∈ names ∧ c = (cells.lookup n).getD 0)
  | [], _, _, _, h => .inl h
  | (m, k) :: r, acc, n, c, h => by
    unfold cloFrom at h
    split at h
    · rename_i hk
      have hk : k = .free := by simpa using hk
      rcases cloFrom_mem h with h | ⟨h1, h2⟩
      · rcases List.mem_cons.mp h with e | h
        · cases e; exact .inr ⟨hk ▸ List.mem_cons_self, rfl⟩
        · exact .inl h
      · exact .inr ⟨List.mem_cons_of_mem _ h1, h2⟩
    · rcases cloFrom_mem h with h | ⟨h1, h2⟩
      · exact .inl h
      · exact .inr ⟨List.mem_cons_of_mem _ h1, h2⟩
theorem cloFrom_acc {cells : List (Str × Addr)} : ∀ {names : List (Str × NameKind)} {acc : List (Str × Addr)} {p : Str × Addr}, p ∈ acc → p ∈ cloFrom cells names acc
  | [], _, _, h => h
  | (m, k) :: r, acc, p, h => by
    unfold cloFrom
    split
    · exact cloFrom_acc (List.mem_cons_of_mem _ h)
    · exact cloFrom_acc h
theorem cloFrom_has {cells : List (Str × Addr)} : ∀ {names : List (Str × NameKind)} {acc : List (Str × Addr)} {n : Str}, (n, .free) ∈ names → (n, (cells.lookup n).getD 0) ∈ cloFrom cells names acc
  | (m, k) :: r, acc, n, h => by
    unfold cloFrom
    rcases List.mem_cons.mp h with e | h
    · cases e
      exact cloFrom_acc List.mem_cons_self
    · split
      · exact cloFrom_has h
      · exact cloFrom_has h
theorem cells_mem : ∀ {names : List (Str × NameKind)} {h : Heap} {acc : List (Str × Addr)} {x : Str} {c : Addr}, (x, c) ∈ cellsFrom h.objs.size names acc →
    (x, c) ∈ acc ∨ ((x, .cell) ∈ names ∧ h.objs.size ≤ c ∧ CellAt (pushCells h names) c none)
  | [], _, _, _, _, h => .inl h
  | (n, k) :: r, h, acc, x, c, hm => by
    unfold cellsFrom at hm
    unfold pushCells
    split at hm
    · rename_i hk
      rw [if_pos hk]
      have hk : k = .cell := by simpa using hk
      rw [← Heap.size_push h { cls := .type "cell", data := .cell none }] at hm
      rcases cells_mem hm with hm | ⟨h1, h2, h3⟩
      · rcases List.mem_cons.mp hm with e | hm
        · cases e
          exact .inr ⟨hk ▸ List.mem_cons_self, Nat.le_refl _, _, pushCells_keeps r _ _ _ (Heap.get?_push_size _ rfl), rfl⟩
        · exact .inl hm
      · rw [Heap.size_push] at h2
        exact .inr ⟨List.mem_cons_of_mem _ h1, Nat.le_of_succ_le h2, h3⟩
    · rename_i hk
      rw [if_neg hk]
      rcases cells_mem hm with hm | ⟨h1, h2, h3⟩
      · exact .inl hm
      · exact .inr ⟨List.mem_cons_of_mem _ h1, h2, h3⟩
theorem cells_acc : ∀ {names : List (Str × NameKind)} {n : Nat} {acc : List (Str × Addr)} {p : Str × Addr}, p ∈ acc → p ∈ cellsFrom n names acc
  | [], _, _, _, h => h
  | (m, k) :: r, n, acc, p, h => by
    unfold cellsFrom
    split
    · exact cells_acc (List.mem_cons_of_mem _ h)
    · exact cells_acc h
theorem cells_has : ∀ {names : List (Str × NameKind)} {n : Nat} {acc : List (Str × Addr)} {x : Str}, (x, .cell) ∈ names → ∃ c, (x, c) ∈ cellsFrom n names acc
  | (m, k) :: r, n, acc, x, h => by
    unfold cellsFrom
    rcases List.mem_cons.mp h with e | h
    · cases e
      exact ⟨n, cells_acc List.mem_cons_self⟩
    · split
      · exact cells_has h
      · exact cells_has h
theorem cells_inj : ∀ {names : List (Str × NameKind)} {h : Heap} {acc : List (Str × Addr)} {x y : Str} {c : Addr}, (∀ p ∈ acc, p.2 < h.objs.size) → (∀ x y c, (x, c) ∈ acc → (y, c) ∈ acc → x = y) →
    (x, c) ∈ cellsFrom h.objs.size names acc → (y, c) ∈ cellsFrom h.objs.size names acc → x = y
  | [], _, _, _, _, _, _, hi, h1, h2 => hi _ _ _ h1 h2
  | (n, k) :: r, h, acc, x, y, c, hl, hi, h1, h2 => by
    unfold cellsFrom at h1 h2
    split at h1
    · rename_i hk
      rw [if_pos hk] at h2
      rw [← Heap.size_push h { cls := .type "cell", data := .cell none }] at h1 h2
      refine cells_inj (h := h.push _) (fun p hp => ?_) (fun x y c a b => ?_) h1 h2
      · rw [Heap.size_push]
        rcases List.mem_cons.mp hp with rfl | hp
        · exact Nat.lt_succ_self _
        · exact Nat.lt_succ_of_lt (hl p hp)
      · rcases List.mem_cons.mp a with e | a <;> rcases List.mem_cons.mp b with e' | b
        · cases e; cases e'; rfl
        · cases e; exact absurd (hl _ b) (Nat.lt_irrefl _)
        · cases e'; exact absurd (hl _ a) (Nat.lt_irrefl _)
        · exact hi _ _ _ a b
    · rename_i hk
      rw [if_neg hk] at h2
      exact cells_inj hl hi h1 h2
theorem newEnv_comp {M : Model} {A : Around} {E : Value → Shared → Prop} {s : Shared} {scope : Scope} {globals : Addr} {closure : List (Str × Addr)} {qual : Str} {func : Option Addr} {code : Value} {around : Env} {builtins : Addr} {Q : Env → Shared → Prop}
    (h : Q (newEnv scope s.heap.objs.size globals (cellsFrom (s.heap.objs.size + 1) scope.names closure) qual func code (some around) builtins)
      { s with heap := pushCells (s.heap.push { cls := .type "dict", data := .dict #[] }) scope.names }) :
    wpAny M A (newFunctionEnv scope globals closure [] qual func code (some around) builtins) Q E s := by
  simp only [newFunctionEnv, Option.isSome_some, if_true]
  refine wpAny_bind (wpAny_alloc ?_)
  refine wpAny_bind (wpAny_layCells _ (fun n k c => rfl) scope.names closure _ _ ?_)
  rw [show ({ s with heap := s.heap.push { cls := .type "dict", data := .dict #[] } } : Shared).heap.objs.size = s.heap.objs.size + 1 from Heap.size_push ..]
  rw [List.forIn_nil]
  exact wpAny_bind (wpAny_pure (wpAny_pure h))
/-- every name of the written scope, in the scope that runs -/
theorem lookup_relS {sc : Scope} : ∀ {names : List (Str × NameKind)} {x : Str} {k : NameKind},
    (names.map fun (n, k) => if (k == NameKind.free && sc.kind == .function && sc.names.lookup n == some .cell) then (n, NameKind.cell) else (n, k)).lookup x = some k →
    ∃ k', names.lookup x = some k' ∧ (k = k' ∨ (k' = .free ∧ k = .cell))
  | [], _, _, h => by simp at h
  | (n, k₀) :: r, x, k, h => by
    have ih := @lookup_relS sc r x k
    have h' : List.lookup x ((if (k₀ == NameKind.free && sc.kind == .function && sc.names.lookup n == some .cell) = true then (n, NameKind.cell) else (n, k₀)) :: (r.map _)) = some k := h
    cases hx : x == n with
    | true =>
      simp only [List.lookup_cons, hx]
      by_cases hc : (k₀ == NameKind.free && sc.kind == .function && sc.names.lookup n == some .cell) = true
      · rw [if_pos hc] at h'
        simp only [List.lookup_cons, hx] at h'
        cases h'
        simp only [Bool.and_eq_true, beq_iff_eq] at hc
        exact ⟨k₀, rfl, .inr ⟨hc.1.1, rfl⟩⟩
      · rw [if_neg hc] at h'
        simp only [List.lookup_cons, hx] at h'
        cases h'
        exact ⟨_, rfl, .inl rfl⟩
    | false =>
      simp only [List.lookup_cons, hx]
      by_cases hc : (k₀ == NameKind.free && sc.kind == .function && sc.names.lookup n == some .cell) = true
      · rw [if_pos hc] at h'
        simp only [List.lookup_cons, hx] at h'
        exact ih h'
      · rw [if_neg hc] at h'
        simp only [List.lookup_cons, hx] at h'
        exact ih h'
/-- the names of a comprehension's block: its own (with their places in N), or captured -/
structure BlkOk (N : List Str) (sc scope : Scope) (own : List (Str × Nat)) : Prop where
  kind : scope.kind = .function
  uniq : ∀ y ∈ scope.names, scope.names.lookup y.1 = some y.2
  ix : ∀ p ∈ own, N[p.2]? = some p.1
  free : ∀ y ∈ scope.names, y.2 = .free → sc.names.lookup y.1 = some .cell ∨ sc.names.lookup y.1 = some .free
  own : ∀ y ∈ scope.names, y.2 = .local ∨ y.2 = .cell → y.1 ∈ own.map (·.1) ∨ y.1 ∉ N
/-- the slots of the block's own names forgotten -/
def wipe (σ : St) : List Nat → St
  | [] => σ
  | v :: vs => (wipe σ vs).set v none
theorem wipe_length (σ : St) : ∀ vs : List Nat, (wipe σ vs).length = σ.length
  | [] => rfl
  | v :: vs => by unfold wipe; rw [List.length_set, wipe_length σ vs]
theorem wipe_some {σ : St} {i : Nat} {x : V} : ∀ {vs : List Nat}, (wipe σ vs)[i]? = some (some x) → σ[i]? = some (some x) ∧ i ∉ vs
  | [], h => ⟨h, by simp⟩
  | v :: vs, h => by
    unfold wipe at h
    by_cases hi : v = i
    · subst hi
      by_cases hv : v < (wipe σ vs).length
      · rw [List.getElem?_set_self hv] at h; cases h
      · rw [List.getElem?_eq_none (by simpa using hv)] at h; cases h
    · rw [List.getElem?_set_ne hi] at h
      obtain ⟨h1, h2⟩ := wipe_some h
      exact ⟨h1, by simp only [List.mem_cons, not_or]; exact ⟨fun e => hi e.symm, h2⟩⟩
/-- the context of a block that starts at s, its iterator's objects at fp -/
abbrev Cx.blk (X : Cx) (s : Shared) (H : Hp) (scope : Scope) (cenv : Env) (fp : List Addr) : Cx := { X with s_0 := s, H_0 := H, env := cenv, outer := X.stack, ex := fp, fn := fun x => scope.names.lookup x == some .cell, pn := [], xe := fun _ _ => False }
section
variable {X : Cx} {pins : List (Addr × Obj)} {σ : St} {H : Hp} {s : Shared}
theorem block_start {scope : Scope} {own : List (Str × Nat)} {fp : List Addr} (I : Inv X pins σ H s) (ok : BlkOk X.N X.env.scope scope own) (hN : X.N.Nodup) (hfp : ∀ b ∈ fp, FpOk X pins H b ∧ b < s.heap.objs.size) :
    Inv (X.blk s H scope (compEnvC scope (cellsFrom (s.heap.objs.size + 1) scope.names (cloFrom X.env.cells scope.names [])) s.heap.objs.size X.env) fp) [] (wipe σ (own.map (·.2))) H { s with heap := pushCells (s.heap.push { cls := .type "dict", data := .dict #[] }) scope.names } := by
  have hfree : ∀ y ∈ scope.names, y.2 = .free → ∃ c, X.env.cells.lookup y.1 = some c := fun y hy e => by
    rcases ok.free y hy e with k | k
    · exact I.ok.has _ (.inl k)
    · exact I.ok.has _ (.inr k)
  generalize hcenv : compEnvC scope (cellsFrom (s.heap.objs.size + 1) scope.names (cloFrom X.env.cells scope.names [])) s.heap.objs.size X.env = cenv
  have kp : ∀ b o, s.heap.get? b = some o → (pushCells (s.heap.push { cls := .type "dict", data := .dict #[] }) scope.names).get? b = some o := fun b o e => pushCells_keeps _ _ _ _ (Heap.get?_push_of_some _ e)
  have hL : cenv.locals = s.heap.objs.size := by rw [← hcenv]; rfl
  have hcl : cenv.cells = cellsFrom (s.heap.objs.size + 1) scope.names (cloFrom X.env.cells scope.names []) := by rw [← hcenv]; rfl
  have hsc : cenv.scope = relS scope X.env.scope := by rw [← hcenv]; rfl
  rw [← Heap.size_push s.heap { cls := .type "dict", data := .dict #[] }] at hcl
  have cm : ∀ {y c}, (y, c) ∈ cloFrom X.env.cells scope.names [] → X.env.cells.lookup y = some c ∧ c < s.heap.objs.size := fun {y c} hm => by
    rcases cloFrom_mem hm with hm | ⟨h1, rfl⟩
    · cases hm
    · obtain ⟨c, hc⟩ := hfree _ h1 rfl
      rw [hc]
      obtain ⟨w, z⟩ := I.cell _ _ hc
      exact ⟨rfl, z.lt⟩
  have mem : ∀ {y c}, cenv.cells.lookup y = some c → (X.env.cells.lookup y = some c ∧ c < s.heap.objs.size) ∨ (s.heap.objs.size + 1 ≤ c ∧ CellAt (pushCells (s.heap.push { cls := .type "dict", data := .dict #[] }) scope.names) c none) := fun {y c} e => by
    rw [hcl] at e
    rcases cells_mem (PySem.mem_of_lookup e) with hm | ⟨_, h2, h3⟩
    · exact .inl (cm hm)
    · rw [Heap.size_push] at h2; exact .inr ⟨h2, h3⟩
  have look : ∀ {y}, scope.names.lookup y = some .free → ∃ c, cenv.cells.lookup y = some c ∧ X.env.cells.lookup y = some c := fun {y} hl => by
    have hy : (y, NameKind.free) ∈ scope.names := PySem.mem_of_lookup hl
    obtain ⟨c', e'⟩ := mem_lookup (cells_acc (names := scope.names) (n := (s.heap.push { cls := .type "dict", data := .dict #[] }).objs.size) (cloFrom_has (cells := X.env.cells) (acc := []) hy))
    rw [← hcl] at e'
    refine ⟨c', e', ?_⟩
    rw [hcl] at e'
    rcases cells_mem (PySem.mem_of_lookup e') with hm | ⟨h1, _, _⟩
    · exact (cm hm).1
    · have := ok.uniq _ h1
      rw [hl] at this; cases this
  have okB : (X.blk s H scope cenv fp).Ok := by
    refine ⟨I.ok.mod, by show cenv.scope.kind = _; rw [hsc]; exact ok.kind, by show cenv.globals = _; rw [← hcenv]; exact I.ok.glob, by show cenv.builtins = _; rw [← hcenv]; exact I.ok.blt, by show s.heap.objs.size ≤ cenv.locals; rw [hL]; exact Nat.le_refl _,
      fun y z c e1 e2 => ?_, fun y hy => ?_, fun y c z e => ?_, I.ok.hd, I.ok.frames, .inl rfl, fun b hb => ⟨?_, fun y c e z => ?_⟩, I.bs, Nat.le_trans I.ok.bsz I.sz, fun b o e hb => ?_, fun b hb z => ?_, I.stack, I.stkFree⟩
    · have e1 : cenv.cells.lookup y = some c := e1
      have e2 : cenv.cells.lookup z = some c := e2
      rw [hcl] at e1 e2
      refine cells_inj (fun p hp => ?_) (fun y z c a b => I.ok.inj y z c (cm a).1 (cm b).1) (PySem.mem_of_lookup e1) (PySem.mem_of_lookup e2)
      rw [Heap.size_push]
      exact Nat.lt_succ_of_lt (cm (y := p.1) (c := p.2) hp).2
    · show ∃ c, cenv.cells.lookup y = some c
      have key : ∀ k, cenv.kindOf y = some k → (k = .cell ∨ k = .free) → ∃ c, cenv.cells.lookup y = some c := fun k hk hk' => by
        unfold Env.kindOf at hk
        rw [hsc] at hk
        obtain ⟨k', e, r⟩ := lookup_relS hk
        have : k' = .cell ∨ k' = .free := by
          rcases r with rfl | ⟨rfl, _⟩
          · exact hk'
          · exact .inr rfl
        rcases this with rfl | rfl
        · obtain ⟨c, hm⟩ := cells_has (n := (s.heap.push { cls := .type "dict", data := .dict #[] }).objs.size) (acc := cloFrom X.env.cells scope.names []) (PySem.mem_of_lookup e)
          obtain ⟨c', e'⟩ := mem_lookup hm
          exact ⟨c', by rw [hcl]; exact e'⟩
        · obtain ⟨c, h1, _⟩ := look e
          exact ⟨c, h1⟩
      rcases hy with hy | hy
      · exact key _ hy (.inl rfl)
      · exact key _ hy (.inr rfl)
    · have z : (scope.names.lookup y == some NameKind.cell) = true := z
      have z : scope.names.lookup y = some .cell := by simpa using z
      have e : cenv.cells.lookup y = some c := e
      rw [hcl] at e
      rcases cells_mem (PySem.mem_of_lookup e) with hm | ⟨_, h2, _⟩
      · rcases cloFrom_mem hm with hm | ⟨h1, _⟩
        · cases hm
        · have q := ok.uniq _ h1
          rw [z] at q; cases q
      · rw [Heap.size_push] at h2
        exact Nat.le_of_succ_le h2
    · show b ≠ cenv.locals
      rw [hL]; exact Nat.ne_of_lt (hfp b hb).2
    · have e : cenv.cells.lookup y = some c := e
      rcases mem e with ⟨h1, _⟩ | ⟨h1, _⟩
      · exact (hfp b hb).1.2.2.2.2.1 y c h1 z
      · have h2 : s.heap.objs.size + 1 ≤ b := by rw [← z]; exact h1
        exact absurd (Nat.lt_of_lt_of_le (hfp b hb).2 (Nat.le_of_succ_le h2)) (Nat.lt_irrefl _)
    · rcases (hfp b hb).1.2.2.2.1 with z | z
      · exact I.ok.noex b o e z
      · exact absurd (Nat.lt_of_lt_of_le (Heap.lt_size e) (Nat.le_trans I.ok.bsz z)) (Nat.lt_irrefl _)
    · rcases List.mem_cons.mp (I.stkSub b z) with z | z
      · exact (hfp b hb).1.2.1 z
      · exact (hfp b hb).1.2.2.1 z
  refine ⟨okB, rfl, I.bare, Un.kept kp, ⟨fun _ => none, ?_, fun i y av e1 e2 e3 => ?_⟩, fun y c e => ?_, ?_, fun y c e => ?_, fun p hp => ?_, I.hok.kept kp, by rw [wipe_length]; exact I.len⟩
  · show Heap.Ns _ cenv.locals _
    rw [hL]
    exact Heap.Ns.keeps (Heap.Ns.new ..) fun b o e => pushCells_keeps _ _ _ _ e
  · obtain ⟨e2, hne⟩ := wipe_some e2
    have hfr : scope.names.lookup y = some .free ∧ (cenv.kindOf y = some .cell ∨ cenv.kindOf y = some .free) := by
      have key : ∀ k, cenv.scope.names.lookup y = some k → k = .local ∨ k = .cell ∨ k = .free → scope.names.lookup y = some .free ∧ (cenv.kindOf y = some .cell ∨ cenv.kindOf y = some .free) := fun k hk hk' => by
        have hk0 := hk
        rw [hsc] at hk
        obtain ⟨k', e, r⟩ := lookup_relS hk
        have no : ¬ (k' = .local ∨ k' = .cell) := fun hh => by
          rcases ok.own _ (PySem.mem_of_lookup e) hh with e' | e'
          · obtain ⟨p, hp, hpy⟩ := List.mem_map.mp e'
            have e3 := ok.ix p hp
            have : p.1 = y := hpy
            rw [this] at e3
            exact hne (List.mem_map.mpr ⟨p, hp, nodup_ix hN e3 e1⟩)
          · exact e' (List.mem_of_getElem? e1)
        rcases r with rfl | ⟨rfl, rfl⟩
        · rcases hk' with rfl | rfl | rfl
          · exact absurd (.inl rfl) no
          · exact absurd (.inr rfl) no
          · exact ⟨e, .inr hk0⟩
        · exact ⟨e, .inl hk0⟩
      have e3 : Vis cenv.scope y := e3
      rcases e3 with e3 | e3 | e3
      · exact key _ e3 (.inl rfl)
      · exact key _ e3 (.inr (.inl rfl))
      · exact key _ e3 (.inr (.inr rfl))
    obtain ⟨m, hn, hl⟩ := I.loc
    have hvis : Vis X.env.scope y := (ok.free _ (PySem.mem_of_lookup hfr.1) rfl).elim (fun k => .inr (.inl k)) (fun k => .inr (.inr k))
    obtain ⟨w, r, q⟩ := hl i y av e1 e2 hvis
    refine ⟨w, r, .inr ⟨hfr.2, ?_⟩⟩
    obtain ⟨c, h1, h2⟩ := look hfr.1
    rcases q with ⟨k, _⟩ | ⟨_, c', e', z⟩
    · have k : X.env.scope.names.lookup y = some .local := k
      rcases ok.free _ (PySem.mem_of_lookup hfr.1) rfl with k' | k' <;> rw [show X.env.scope.names.lookup y = _ from k'] at k <;> cases k
    · rw [h2] at e'; cases e'
      exact ⟨c, h1, z.keeps kp⟩
  · have e : cenv.cells.lookup y = some c := e
    rcases mem e with ⟨h1, _⟩ | ⟨_, z⟩
    · obtain ⟨w, z⟩ := I.cell y c h1
      exact ⟨w, z.keeps kp⟩
    · exact ⟨_, z⟩
  · show H cenv.locals = none
    rw [hL]; exact I.hok.fresh (Nat.le_refl _)
  · have e : cenv.cells.lookup y = some c := e
    rcases mem e with ⟨h1, _⟩ | ⟨h1, _⟩
    · exact I.freeC y c h1
    · exact I.hok.fresh (Nat.le_of_succ_le h1)
  · exact absurd (show p ∈ ([] : List (Addr × Obj)) ++ [] from hp) (by simp)
/-- an item appended to a tracked list -/
theorem app_ok {E : Value → Shared → Prop} {D : Addr} {xs : List V} {y : V} {v : Value} {Q : Value → Shared → Prop} (I : Inv X pins σ H s) (hD : H D = some (.lst xs)) (hz : xs.length < sizeLine) (r : RelV y v)
    (h : ∀ s', Inv X pins σ (upd H D (.lst (xs ++ [y]))) s' → Q .none s') : wpAny (model X.prog X.w) X.A (call (.builtin "list.append") [.ref D, v]) Q E s := by
  obtain ⟨hz', its, n, ri, e⟩ := I.hok D _ hD
  have hl := ri.length
  refine append_at (hsz := by rw [List.size_toArray]; omega) e fun h' sb ho' => ?_
  refine h { s with heap := h' } (I.write (t' := s.toks) (by rw [hD]; trivial) (.inl rfl) (fun b u hb q => (sb.2 b hb).trans q) ⟨_, ho'⟩ ⟨by rw [List.length_append]; exact hz, its ++ [v], n + 1, ri.append (.cons r .nil), ?_⟩)
  rw [ho']
  simp
/-- a clause's tests -/
def PTs (X : Cx) (ifs : List Expr) (t : TT) : Prop :=
  ∀ (pins : List (Addr × Obj)) (s : Shared) (σ : St) (H : Hp) (Q : Bool → Hp → Prop), Inv X pins σ H s → t σ H Q →
    wpAny (model X.prog X.w) X.A (forIn ifs true fun c r => if r = true then do let ok ← isTrue c X.env (eval c X.env); pure (ForInStep.yield ok) else pure (ForInStep.yield r)) (TP X pins σ Q) X.xe s
def tYes : TT := fun _ H Q => Q true H
theorem pts_nil : PTs X [] tYes := fun _ _ _ H _ I h => wpAny_tests_nil ⟨H, I, h⟩
theorem pts_one {c : Expr} {t : TT} (h : PT X c t) : PTs X [c] t := fun pins s σ H Q I hw => wpAny_tests_one (h pins s σ H Q I hw)
end
theorem thnF {α : Type} {t : Sem α} {Q Q' : α → Shared → Prop} {M : Model} {A : Around} {E : Value → Shared → Prop} {s : Shared} (h : wpAny M A t Q (fun _ _ => False) s) (hQ : ∀ a s, Q a s → Q' a s) : wpAny M A t Q' E s := wpAny_mono h hQ fun _ _ z => False.elim z
/-- the loop of a list comprehension's block, the target of any form (codeAny_compLoop_tests asks a target that no tuple goes to; statement and proof follow it, PyProof/CompMap.lean:41-61, with the step letOwnedTupleGo kept) -/
theorem compLoop_any {prog : Program} {w : World} {A : Around} {R : Result → Shared → Prop} {s : Shared} {elt target iter : Expr} {ifs : List Expr} {scope : Scope} {pos : Pos} {it acc : Value} {env : Env} (I : Nat → Shared → Prop)
    (turn : ∀ n s, I n s → wpAny (model prog w) A (pyNext it) (fun r s₁ => match r with
      | none => R (.ok .next) s₁
      | some v => wpAny (model prog w) A (letOwnedTupleGo target it v) (fun _ s₁' => wpAny (model prog w) A (assign target env v) (fun _ s₂ =>
          wpAny (model prog w) A (forIn ifs true fun c r => if r = true then do let ok ← isTrue c env (eval c env); pure (ForInStep.yield ok) else pure (ForInStep.yield r)) (fun ok s₃ =>
            if ok = true then wpAny (model prog w) A (eval elt env) (fun x s₄ =>
              wpAny (model prog w) A (call (.builtin "list.append") [acc, x]) (fun _ s₅ => ∃ m, m < n ∧ I m s₅) (notedBy (model prog w) A env fun e s' => R (.error e) s') s₄) (notedBy (model prog w) A env fun e s' => R (.error e) s') s₃
            else ∃ m, m < n ∧ I m s₃) (notedBy (model prog w) A env fun e s' => R (.error e) s') s₂) (notedBy (model prog w) A env fun e s' => R (.error e) s') s₁') (notedBy (model prog w) A env fun e s' => R (.error e) s') s₁) (notedBy (model prog w) A env fun e s' => R (.error e) s') s)
    (n : Nat) (h : I n s) :
    codeAny (model prog w) A (.compLoop (.ListComp elt [⟨target, iter, ifs, 0⟩] scope pos) 0 it acc env) R s := by
  refine codeAny_loop rfl I (fun n s hI => ?_) n h
  show wpAny _ A ((compTurn (.ListComp elt [⟨target, iter, ifs, 0⟩] scope pos) 0 it acc env).onRaise (fun x => do noteFrame x env; theTreesLotGoes x)) _ _ s
  refine wpAny_noted ?_
  rw [compTurn_list]
  refine wpAny_bind (wpAny_standAt (wpAny_bind (wpAny_mono (turn n s hI) (fun r s₁ h₁ => ?_) fun _ _ h' => h')))
  cases r with
  | none => exact wpAny_pure h₁
  | some v =>
    refine wpAny_bind (wpAny_mono h₁ (fun _ s₁' h₁' => ?_) fun _ _ h' => h')
    refine wpAny_bind (wpAny_mono h₁' (fun _ s₂ h₂ => wpAny_bind (wpAny_mono h₂ (fun ok s₃ h₃ => ?_) fun _ _ h' => h')) fun _ _ h' => h')
    cases ok with
    | false => exact wpAny_pure ⟨rfl, h₃⟩
    | true =>
      exact wpAny_bind (wpAny_bind (wpAny_mono h₃ (fun x s₄ h₄ => wpAny_bind (wpAny_mono h₄ (fun _ s₅ h₅ => wpAny_pure (wpAny_pure ⟨rfl, h₅⟩)) fun _ _ h' => h')) fun _ _ h' => h'))
section
variable {X : Cx}
/-- [elt for target in iter if ..]: D the new list; W by the turn and a measure, Nx what a turn is to reach -/
def tLc (wi : TI) (g : TG) (tt : TT) (te : TE) (vs : List Nat) : TE := fun σ H Q => wi σ H fun J H1 => ∀ D, H1 D = none → ∃ W : Nat → Nat → Hp → Prop, (∃ m, W 0 m (upd H1 D (.lst []))) ∧ ∀ i m H, W i m H →
  (J.stop i H ∧ Q (.ref D) H) ∨ (J.go i H ∧ ∃ Nx : Hp → Prop, (∀ H', Nx H' → ∃ m', m' < m ∧ W (i + 1) m' H') ∧ ∀ x H', J.yld i H x H' → g x (wipe σ vs) H' fun σ2 H2 => wipe σ2 vs = wipe σ vs ∧ tt σ2 H2 fun b H3 =>
    if b = true then te σ2 H3 fun y H4 => ∃ acc, H4 D = some (.lst acc) ∧ acc.length < sizeLine ∧ Nx (upd H4 D (.lst (acc ++ [y]))) else Nx H3)
theorem lc_core {pins : List (Addr × Obj)} {s : Shared} {σ : St} {H : Hp} {Q : VK} {elt tg iter : Expr} {ifs : List Expr} {scope : Scope} {own : List (Str × Nat)} {pos pos' : Pos} {wi : TI} {g : TG} {tt : TT} {te : TE} {use : Option (Value → Sem Unit)} {Qf : Value → Shared → Prop}
    (hc : X.calm = true) (hN : X.N.Nodup) (I : Inv X pins σ H s) (hi : PI X tg iter wi) (ok : BlkOk X.N X.env.scope scope own)
    (hg : ∀ (s : Shared) (H : Hp) (C : Addr) (cl : List (Str × Addr)) (fp : List Addr), PG (X.blk s H scope (compEnvC scope cl C X.env) fp) tg g) (ht : ∀ (s : Shared) (H : Hp) (C : Addr) (cl : List (Str × Addr)) (fp : List Addr), PTs (X.blk s H scope (compEnvC scope cl C X.env) fp) ifs tt)
    (he : ∀ (s : Shared) (H : Hp) (C : Addr) (cl : List (Str × Addr)) (fp : List Addr), PE (X.blk s H scope (compEnvC scope cl C X.env) fp) elt te) (hs : ∀ x, foldedSetIterable iter X.env x = pure x)
    (h : tLc wi g tt te (own.map (·.2)) σ H Q)
    (hRR : ∀ D C s' m H', Inv X pins σ H' s' → Q (.ref D) H' → s'.heap.Ns C m → FpOk X pins H' C → compPost (model X.prog X.w) X.A X.xe use Qf (.ref D) C (.ok .next) s') :
    wpAny (model X.prog X.w) X.A (comprehension (.ListComp elt [⟨tg, iter, ifs, 0⟩] scope pos) scope X.env pos' (newList []) false (eval iter X.env) use) Qf X.xe s := by
  have hfree : ∀ y ∈ scope.names, y.2 = .free → ∃ c, X.env.cells.lookup y.1 = some c := fun y hy e => by
    rcases ok.free y hy e with k | k
    · exact I.ok.has _ (.inl k)
    · exact I.ok.has _ (.inr k)
  refine wpAny_comprehension_free (use := use) rfl hs (closure_ok hfree) ok.kind (fun y hy e => by rw [ok.uniq y hy, e])
    (thn (hi pins s σ H _ I h) fun xv s1 hx => thn hx fun itv s2 h2 => ?_)
  obtain ⟨it, fp, tn, J, H2, e, I2, T, st2, f2, q⟩ := h2
  subst e
  refine wpAny_newObj_type (newEnv_comp ?_) (by show 0 ≤ sizeLine; decide)
  generalize hD : s2.heap.objs.size = D
  have hDn : H2 D = none := I2.hok.fresh (Nat.le_of_eq hD)
  obtain ⟨W, ⟨m0, w0⟩, turn⟩ := q D hDn
  -- the new list
  generalize hs3 : ({ s2 with heap := s2.heap.push { cls := .type "list", data := .seq ([] : List Value).toArray } } : Shared) = s3
  have I3 : Inv X pins σ (upd H2 D (.lst [])) s3 := by
    rw [← hs3]
    refine I2.laid (t' := s2.toks) (fun b o e => Heap.get?_push_of_some _ e) (Nat.le_of_eq hD) ⟨Nat.zero_le _, [], 0, .nil, ?_⟩
    rw [← hD]
    exact Heap.get?_push_size _ rfl
  have h3 : s3.heap = s2.heap.push { cls := .type "list", data := .seq ([] : List Value).toArray } := by rw [← hs3]
  have sz : ∀ b ∈ fp, b < s2.heap.objs.size := fun b hb => by
    obtain ⟨o, e, _⟩ := T.obj _ _ st2 b hb
    exact Heap.lt_size e
  have f3 : ∀ b ∈ fp, FpOk X pins (upd H2 D (.lst [])) b ∧ b < s3.heap.objs.size := fun b hb => by
    have hlt := sz b hb
    refine ⟨⟨?_, (f2 b hb).2⟩, by rw [h3, Heap.size_push]; exact Nat.lt_succ_of_lt hlt⟩
    rw [upd_ne (by rw [← hD]; exact Nat.ne_of_lt hlt)]
    exact (f2 b hb).1
  have st3 : tn 0 s3.heap := T.keep _ _ _ st2 fun b _ o e => by rw [h3]; exact Heap.get?_push_of_some _ e
  have I4 := block_start I3 ok hN f3
  have pg := hg s3 (upd H2 D (.lst [])) s3.heap.objs.size (cellsFrom (s3.heap.objs.size + 1) scope.names (cloFrom X.env.cells scope.names [])) fp
  have pt := ht s3 (upd H2 D (.lst [])) s3.heap.objs.size (cellsFrom (s3.heap.objs.size + 1) scope.names (cloFrom X.env.cells scope.names [])) fp
  have pe := he s3 (upd H2 D (.lst [])) s3.heap.objs.size (cellsFrom (s3.heap.objs.size + 1) scope.names (cloFrom X.env.cells scope.names [])) fp
  show codeAny _ _ (.compStart (.ListComp elt [⟨tg, iter, ifs, 0⟩] scope pos) 0 (.ref it) (.ref D) (compEnvC scope (cellsFrom (s3.heap.objs.size + 1) scope.names (cloFrom X.env.cells scope.names [])) s3.heap.objs.size X.env)) (compPost (model X.prog X.w) X.A X.xe use Qf (.ref D) s3.heap.objs.size) { s3 with heap := pushCells (s3.heap.push { cls := .type "dict", data := .dict #[] }) scope.names }
  have nfp : ∀ b ∈ fp, (upd H2 D (.lst [])) b = none := fun b hb => (f3 b hb).1.1
  generalize hce : compEnvC scope (cellsFrom (s3.heap.objs.size + 1) scope.names (cloFrom X.env.cells scope.names [])) s3.heap.objs.size X.env = ce at I4 pg pt pe ⊢
  have cL : ce.locals = s3.heap.objs.size := by subst hce; rfl
  generalize hH3 : upd H2 D (.lst []) = H3 at I3 I4 pg pt pe w0 nfp f3
  generalize hs4 : ({ s3 with heap := pushCells (s3.heap.push { cls := .type "dict", data := .dict #[] }) scope.names } : Shared) = s4 at I4 ⊢
  have st4 : tn 0 s4.heap := T.keep _ _ _ st3 fun b _ o e => by rw [← hs4]; exact pushCells_keeps _ _ _ _ (Heap.get?_push_of_some _ e)
  have stat : ∀ {σ' : St} {H' : Hp} {s' : Shared}, Inv (X.blk s3 H3 scope ce fp) [] σ' H' s' → (∀ b ∈ fp, H' b = none) → ∀ b ∈ fp, FpOk (X.blk s3 H3 scope ce fp) [] H' b := fun {σ' H' s'} I' hn b hb =>
    ⟨hn b hb, (I'.ok.exf b hb).1, I'.ok.exfs b hb, .inl hb, fun x c e => (I'.ok.exf b hb).2 x c e, fun p hp => absurd (show p ∈ ([] : List (Addr × Obj)) ++ [] from hp) (by simp)⟩
  have loop : codeAny (model X.prog X.w) X.A (.compLoop (.ListComp elt [⟨tg, iter, ifs, 0⟩] scope pos) 0 (.ref it) (.ref D) ce) (compPost (model X.prog X.w) X.A X.xe use Qf (.ref D) s3.heap.objs.size) s4 := by
    refine compLoop_any (fun n s' => ∃ i H', Inv (X.blk s3 H3 scope ce fp) [] (wipe σ (own.map (·.2))) H' s' ∧ tn i s'.heap ∧ (∀ b ∈ fp, H' b = none) ∧ W i n H') ?_ m0 ⟨0, H3, I4, st4, nfp, w0⟩
    rintro n s5 ⟨i, H5, I5, st5, n5, w5⟩
    rcases turn i n H5 w5 with ⟨stop, qq⟩ | ⟨go, Nx, hNx, step⟩
    · have td := T.done (X.blk s3 H3 scope ce fp) rfl rfl rfl hc i [] s5 _ H5 (fun _ _ => False) I5 (stat I5 n5) st5 stop
      refine thnF td fun r s6 ⟨hr, I6⟩ => ?_
      subst hr
      -- back in the def's context
      have I7 : Inv X pins σ H5 s6 := I3.call' (ch := fp) I6.os I6.base I6.hok I6.bare fun b hb => ⟨(f3 b hb).1.2.2.2.1, (f3 b hb).1.2.1, (f3 b hb).1.2.2.2.2.1, (f3 b hb).1.2.2.2.2.2⟩
      have nC : H5 s3.heap.objs.size = none := by
        have z : H5 ce.locals = none := I6.free
        rw [cL] at z
        exact z
      obtain ⟨m, hn, _⟩ := I6.loc
      have hn : s6.heap.Ns ce.locals m := hn
      rw [cL] at hn
      exact hRR D s3.heap.objs.size s6 m H5 I7 qq hn (I3.fpOk (Nat.le_refl _) nC)
    · have ti := T.item (X.blk s3 H3 scope ce fp) rfl rfl rfl hc i [] s5 _ H5 (fun _ _ => False) I5 (stat I5 n5) st5 go
      refine thnF ti fun r s6 ⟨u, hr, h6⟩ => ?_
      subst hr
      refine thnF h6 fun _ s7 ⟨x, H7, I7, r7, y7, st7, n7⟩ => ?_
      have I7' := I7.pinned (stat I7 n7) (T.obj _ _ st7)
      refine thnF (pg _ s7 _ H7 x u _ I7' r7 (step x H7 y7)) fun _ s8 ⟨σ8, H8, I8, hw8, q8⟩ => ?_
      refine thnF (pt _ s8 σ8 H8 _ I8 q8) fun b s9 ⟨H9, I9, q9⟩ => ?_
      -- the turn's end
      have fin : ∀ {s' : Shared} {H' : Hp}, Inv (X.blk s3 H3 scope ce fp) ([] ++ pinsAt fp s7.heap) σ8 H' s' → Nx H' → ∃ m, m < n ∧ ∃ i H', Inv (X.blk s3 H3 scope ce fp) [] (wipe σ (own.map (·.2))) H' s' ∧ tn i s'.heap ∧ (∀ b ∈ fp, H' b = none) ∧ W i m H' := fun {s' H'} I' nx => by
        obtain ⟨m', hm, w'⟩ := hNx H' nx
        have pin' : ∀ b ∈ fp, ∀ o, s7.heap.get? b = some o → s'.heap.get? b = some o ∧ H' b = none := fun b hb o e =>
          let z := I'.pin (b, o) (List.mem_append_right _ (List.mem_append_right _ (mem_pinsAt hb e)))
          ⟨z.1, z.2.1⟩
        have hl : (wipe σ (own.map (·.2))).length = σ8.length := by rw [← hw8, wipe_length]
        refine ⟨m', hm, i + 1, H', (I'.unpinned (pins := [])).weak hl (fun j v e => ?_), T.keep _ _ _ st7 fun b hb o e => (pin' b hb o e).1, fun b hb => ?_, w'⟩
        · rw [← hw8] at e
          exact (wipe_some e).1
        · obtain ⟨o, e, _⟩ := T.obj _ _ st7 b hb
          exact (pin' b hb o e).2
      cases b with
      | false =>
        simp only [Bool.false_eq_true, if_false] at q9 ⊢
        exact fin I9 q9
      | true =>
        simp only [if_true] at q9 ⊢
        refine thnF (pe _ s9 σ8 H9 _ I9 q9) fun z s10 ⟨yv, H10, I10, r10, acc, hD10, hz10, nx⟩ => ?_
        exact app_ok (X := X.blk s3 H3 scope ce fp) I10 hD10 hz10 r10 fun s11 I11 => fin I11 nx
  exact codeAny_compStart_list loop (T.self X.A 0 _ _ _ st4 loop)
/-- as a value -/
theorem pe_lc {elt tg iter : Expr} {ifs : List Expr} {scope : Scope} {own : List (Str × Nat)} {pos : Pos} {wi : TI} {g : TG} {tt : TT} {te : TE} (hc : X.calm = true) (hN : X.N.Nodup) (hi : PI X tg iter wi) (ok : BlkOk X.N X.env.scope scope own)
    (hg : ∀ (s : Shared) (H : Hp) (C : Addr) (cl : List (Str × Addr)) (fp : List Addr), PG (X.blk s H scope (compEnvC scope cl C X.env) fp) tg g) (ht : ∀ (s : Shared) (H : Hp) (C : Addr) (cl : List (Str × Addr)) (fp : List Addr), PTs (X.blk s H scope (compEnvC scope cl C X.env) fp) ifs tt)
    (he : ∀ (s : Shared) (H : Hp) (C : Addr) (cl : List (Str × Addr)) (fp : List Addr), PE (X.blk s H scope (compEnvC scope cl C X.env) fp) elt te) (hs : ∀ x, foldedSetIterable iter X.env x = pure x := by intro _; rfl) :
    PE X (.ListComp elt [⟨tg, iter, ifs, 0⟩] scope pos) (tLc wi g tt te (own.map (·.2))) := by
  intro pins s σ H Q I h
  rw [eval_ListComp]
  refine lc_core hc hN I hi ok hg ht he hs h fun D C s' m H' I' q hn f => ⟨m, hn, fun h'' sb => ?_⟩
  obtain ⟨f0, f1, f2, f3, f4, f5⟩ := f
  exact ⟨.ref D, H', I'.turned (t' := s'.toks) (fun b o hb e => (sb.2 b hb).trans e) f0 f1 f3 f4 f5, rfl, q⟩
/-- name = [..] on one line, the name a local -/
theorem ps_setLc {i : Nat} {y : Str} {py : Pos} {elt tg iter : Expr} {ifs : List Expr} {scope : Scope} {own : List (Str × Nat)} {pos spos : Pos} {wi : TI} {g : TG} {tt : TT} {te : TE} (hc : X.calm = true) (hN : X.N.Nodup) (hy : X.N[i]? = some y) (hyl : X.env.scope.names.lookup y = some .local)
    (hsw : swapsWith (.ListComp elt [⟨tg, iter, ifs, 0⟩] scope pos) (some (.Name y py)) spos.line X.env = pure true) (hi : PI X tg iter wi) (ok : BlkOk X.N X.env.scope scope own)
    (hg : ∀ (s : Shared) (H : Hp) (C : Addr) (cl : List (Str × Addr)) (fp : List Addr), PG (X.blk s H scope (compEnvC scope cl C X.env) fp) tg g) (ht : ∀ (s : Shared) (H : Hp) (C : Addr) (cl : List (Str × Addr)) (fp : List Addr), PTs (X.blk s H scope (compEnvC scope cl C X.env) fp) ifs tt)
    (he : ∀ (s : Shared) (H : Hp) (C : Addr) (cl : List (Str × Addr)) (fp : List Addr), PE (X.blk s H scope (compEnvC scope cl C X.env) fp) elt te) (hs : ∀ x, foldedSetIterable iter X.env x = pure x := by intro _; rfl) :
    PS X (.Assign [.Name y py] (.ListComp elt [⟨tg, iter, ifs, 0⟩] scope pos) spos) (tAsg (tLc wi g tt te (own.map (·.2))) (gName i)) := by
  intro pins s σ H D I h
  rw [exec_Assign_Name_used _ _ _ _ hsw]
  refine wpAny_bind (wpAny_standAt (wpAny_bind ?_))
  show wpAny _ X.A (do let _ ← comprehension (.ListComp elt [⟨tg, iter, ifs, 0⟩] scope pos) scope X.env (firstIterPos [⟨tg, iter, ifs, 0⟩] pos) (newList []) false (eval iter X.env) (some (assign (.Name y py) X.env))) _ _ s
  have h : tLc wi g tt te (own.map (·.2)) σ H (fun x H1 => gName i x σ H1 D.nx) := h
  refine wpAny_bind (thn (lc_core (Qf := fun _ s' => SP X pins D .next s') hc hN I hi ok hg ht he hs h fun L C s' m H' I' q hn f => ?_) fun _ s' hq => wpAny_pure (wpAny_pure hq))
  show wpAny _ _ (assign (.Name y py) X.env (.ref L)) _ _ _
  refine wpAny_assign_Name (store_ok2 (v := V.ref L) I' hN hy (.inl hyl) rfl (fun s2 I2 ⟨a, sb, ha⟩ => ?_) (.inr hyl))
  obtain ⟨f0, f1, f2, f3, f4, f5⟩ := f
  have haC : C ≠ a := by
    rcases ha with z | z
    · rw [z]; exact f1
    · exact fun e => f4 y a z e.symm
  refine ⟨m, hn.sameBut sb haC, fun h3 sb3 => ?_⟩
  exact ⟨_, H', I2.turned (t' := s2.toks) (fun b o hb e => (sb3.2 b hb).trans e) f0 f1 f3 f4 f5, q⟩
theorem sw_true {elt : Expr} {gs : List Comprehension} {scope : Scope} {pos py : Pos} {y : Str} {l : Nat} {env : Env} (hk : env.scope.kind = .function) (hy : env.scope.names.lookup y = some .local) (hl : (py.line == pos.line) = true)
    (ha : (scope.names.any fun (n, k) => n == y && (k == .local || k == .cell)) = false) : swapsWith (.ListComp elt gs scope pos) (some (.Name y py)) l env = pure true := by
  have ky : env.kindOf y = some .local := hy
  have hb : env.blockKind = .function := by unfold Env.blockKind; rw [hk]; rfl
  unfold swapsWith
  simp only [hb, ky, ha, Expr.pos, hl]
  rfl
end
/-! ### the forms one uses -/
/-- over a range: Pv by the turn and the heap (the new list at D within) -/
theorem lc_range {lo : Int} {n : Nat} {g : TG} {tt : TT} {te : TE} {vs : List Nat} {σ : St} {H1 : Hp} {D : Addr} {Qd : Hp → Prop} (Pv : Nat → Hp → Prop) (h0 : Pv 0 (upd H1 D (.lst [])))
    (hs : ∀ i H, i < n → Pv i H → g (.int (lo + i)) (wipe σ vs) H fun σ2 H2 => wipe σ2 vs = wipe σ vs ∧ tt σ2 H2 fun b H3 =>
      if b = true then te σ2 H3 fun y H4 => ∃ acc, H4 D = some (.lst acc) ∧ acc.length < sizeLine ∧ Pv (i + 1) (upd H4 D (.lst (acc ++ [y]))) else Pv (i + 1) H3) (hd : ∀ H, Pv n H → Qd H) :
    ∃ W : Nat → Nat → Hp → Prop, (∃ m, W 0 m (upd H1 D (.lst []))) ∧ ∀ i m H, W i m H →
      ((Itr lo n).stop i H ∧ Qd H) ∨ ((Itr lo n).go i H ∧ ∃ Nx : Hp → Prop, (∀ H', Nx H' → ∃ m', m' < m ∧ W (i + 1) m' H') ∧ ∀ x H', (Itr lo n).yld i H x H' → g x (wipe σ vs) H' fun σ2 H2 => wipe σ2 vs = wipe σ vs ∧ tt σ2 H2 fun b H3 =>
        if b = true then te σ2 H3 fun y H4 => ∃ acc, H4 D = some (.lst acc) ∧ acc.length < sizeLine ∧ Nx (upd H4 D (.lst (acc ++ [y]))) else Nx H3) := by
  refine ⟨fun i m H => m = n - i ∧ i ≤ n ∧ Pv i H, ⟨n, by simp, Nat.zero_le _, h0⟩, ?_⟩
  rintro i m H ⟨rfl, hi, p⟩
  by_cases hlt : i < n
  · refine .inr ⟨hlt, Pv (i + 1), fun H' p' => ⟨n - (i + 1), by omega, rfl, hlt, p'⟩, fun x H' y => ?_⟩
    obtain ⟨e, y⟩ := y
    subst e y
    exact hs i _ hlt p
  · have e : i = n := by omega
    subst e
    exact .inl ⟨Nat.le_refl _, hd H p⟩
/-- over a list that the block leaves as it is -/
theorem lc_list {K : PySem.W.Frag} {a : Addr} {xs : List V} {g : TG} {tt : TT} {te : TE} {vs : List Nat} {σ : St} {H1 : Hp} {D : Addr} {Qd : Hp → Prop} (Pv : Nat → Hp → Prop) (h0 : Pv 0 (upd H1 D (.lst []))) (hl : ∀ i H, i ≤ xs.length → Pv i H → SqL K H a xs)
    (hs : ∀ i x H, xs[i]? = some x → Pv i H → g x (wipe σ vs) H fun σ2 H2 => wipe σ2 vs = wipe σ vs ∧ tt σ2 H2 fun b H3 =>
      if b = true then te σ2 H3 fun y H4 => ∃ acc, H4 D = some (.lst acc) ∧ acc.length < sizeLine ∧ Pv (i + 1) (upd H4 D (.lst (acc ++ [y]))) else Pv (i + 1) H3) (hd : ∀ H, Pv xs.length H → Qd H) :
    ∃ W : Nat → Nat → Hp → Prop, (∃ m, W 0 m (upd H1 D (.lst []))) ∧ ∀ i m H, W i m H →
      ((Itl K a).stop i H ∧ Qd H) ∨ ((Itl K a).go i H ∧ ∃ Nx : Hp → Prop, (∀ H', Nx H' → ∃ m', m' < m ∧ W (i + 1) m' H') ∧ ∀ x H', (Itl K a).yld i H x H' → g x (wipe σ vs) H' fun σ2 H2 => wipe σ2 vs = wipe σ vs ∧ tt σ2 H2 fun b H3 =>
        if b = true then te σ2 H3 fun y H4 => ∃ acc, H4 D = some (.lst acc) ∧ acc.length < sizeLine ∧ Nx (upd H4 D (.lst (acc ++ [y]))) else Nx H3) := by
  refine ⟨fun i m H => m = xs.length - i ∧ i ≤ xs.length ∧ Pv i H, ⟨xs.length, by simp, Nat.zero_le _, h0⟩, ?_⟩
  rintro i m H ⟨rfl, hi, p⟩
  have q := hl i H hi p
  by_cases hlt : i < xs.length
  · refine .inr ⟨⟨xs, xs[i], q, by simp [hlt]⟩, Pv (i + 1), fun H' p' => ⟨xs.length - (i + 1), by omega, rfl, hlt, p'⟩, fun x H' y => ?_⟩
    obtain ⟨e, y⟩ := y
    subst e
    exact hs i x _ (y xs q) p
  · have e : i = xs.length := by omega
    subst e
    exact .inl ⟨⟨xs, q, Nat.le_refl _⟩, hd H p⟩
end L2
namespace L2
open PySem PySem.Spec PyProof.Rows
section
variable {prog : Program} {w : World} {A : Around} {R : Result → Shared → Prop} {s : Shared} {elt t0 i0 t1 i1 : Expr} {ifs0 ifs1 : List Expr} {scope : Scope} {pos : Pos} {it acc : Value} {env : Env}
end
section
variable {X : Cx}
end
end L2
namespace L2
open PySem PySem.Spec PyProof.Rows
/-! ### lists of pairs as tables -/
section
variable {κ : Type} [DecidableEq κ]
def valV (kvs : List (κ × V)) (k : κ) : Option V := (kvs.find? fun kv => decide (kv.1 = k)).map (·.2)
/-- in its place, or at the end -/
def putK (kvs : List (κ × V)) (k : κ) (v : V) : List (κ × V) :=
  if (kvs.any fun kv => decide (kv.1 = k)) = true then kvs.map (fun kv => if kv.1 = k then (kv.1, v) else kv) else kvs ++ [(k, v)]
def dropK (kvs : List (κ × V)) (k : κ) : List (κ × V) := kvs.filter fun kv => decide (kv.1 ≠ k)
theorem valV_pos {p : κ × V} {r : List (κ × V)} {k : κ} (e : p.1 = k) : valV (p :: r) k = some p.2 := by simp [valV, List.find?_cons, e]
theorem valV_neg {p : κ × V} {r : List (κ × V)} {k : κ} (e : ¬ p.1 = k) : valV (p :: r) k = valV r k := by simp [valV, List.find?_cons, e]
theorem valV_any (k : κ) : ∀ kvs : List (κ × V), (kvs.any fun kv => decide (kv.1 = k)) = (valV kvs k).isSome
  | [] => rfl
  | p :: r => by
    rw [List.any_cons]
    by_cases e : p.1 = k
    · simp only [valV_pos e, decide_eq_true e, Bool.true_or, Option.isSome_some]
    · rw [valV_neg e, decide_eq_false e, Bool.false_or]; exact valV_any k r
theorem RelO.isSome_eq {o : Option V} {u : Option Value} (r : RelO o u) : o.isSome = u.isSome := by
  cases o with
  | none => cases u with
    | none => rfl
    | some _ => exact (show False from r).elim
  | some _ => cases u with
    | none => exact (show False from r).elim
    | some _ => rfl
theorem RelO.getD {o : Option V} {u : Option Value} {d : V} {d' : Value} (r : RelO o u) (rd : RelV d d') : RelV (o.getD d) (u.getD d') := by
  cases o with
  | none => cases u with
    | none => exact rd
    | some _ => exact (show False from r).elim
  | some _ => cases u with
    | none => exact (show False from r).elim
    | some _ => exact r
/-- raw tables of the same keys -/
theorem KV.val {kvs : List (κ × V)} {vs : List (κ × Value)} (r : KV kvs vs) (k : κ) : RelO (valV kvs k) (valueAt vs k) := by
  unfold KV at r
  induction r with
  | nil => exact True.intro
  | @cons p q ps qs h t ih =>
    obtain ⟨h1, h2⟩ := h
    by_cases e : p.1 = k
    · have e' : q.1 = k := h1.symm.trans e
      have b : valueAt (q :: qs) k = some q.2 := by simp [valueAt, List.find?_cons, e']
      rw [valV_pos e, b]; exact h2
    · have e' : ¬ q.1 = k := fun z => e (h1.trans z)
      have b : valueAt (q :: qs) k = valueAt qs k := by simp [valueAt, List.find?_cons, e']
      rw [valV_neg e, b]; exact ih
theorem KV.any {kvs : List (κ × V)} {vs : List (κ × Value)} (r : KV kvs vs) (k : κ) : (kvs.any fun kv => decide (kv.1 = k)) = vs.any fun kv => decide (kv.1 = k) := by
  unfold KV at r
  induction r with
  | nil => rfl
  | cons h t ih => rw [List.any_cons, List.any_cons, ih, h.1]
theorem KV.repl {kvs : List (κ × V)} {vs : List (κ × Value)} (r : KV kvs vs) (k : κ) {y : V} {u : Value} (ry : RelV y u) :
    KV (kvs.map fun kv => if kv.1 = k then (kv.1, y) else kv) (vs.map fun kv => if kv.1 = k then (kv.1, u) else kv) := by
  unfold KV at r ⊢
  induction r with
  | nil => exact .nil
  | @cons p q ps qs h t ih =>
    rw [List.map_cons, List.map_cons]
    refine .cons ?_ ih
    obtain ⟨h1, h2⟩ := h
    by_cases e : p.1 = k
    · rw [if_pos e, if_pos (h1.symm.trans e)]; exact ⟨h1, ry⟩
    · rw [if_neg e, if_neg (fun z => e (h1.trans z))]; exact ⟨h1, h2⟩
theorem KV.put {kvs : List (κ × V)} {vs : List (κ × Value)} (r : KV kvs vs) (k : κ) {y : V} {u : Value} (ry : RelV y u) : KV (putK kvs k y) (stored vs k u) := by
  unfold putK stored
  rw [r.any k]
  by_cases e : (vs.any fun kv => decide (kv.1 = k)) = true
  · rw [if_pos e, if_pos e]; exact r.repl k ry
  · rw [if_neg e, if_neg e]; exact Paired.snoc r ⟨rfl, ry⟩
theorem KV.drop {kvs : List (κ × V)} {vs : List (κ × Value)} (r : KV kvs vs) (k : κ) : KV (dropK kvs k) (without vs k) := by
  unfold KV at r ⊢
  unfold dropK without
  induction r with
  | nil => exact .nil
  | @cons p q ps qs h t ih =>
    obtain ⟨h1, h2⟩ := h
    rw [List.filter_cons, List.filter_cons]
    by_cases e : p.1 = k
    · have a : ¬ decide (p.1 ≠ k) = true := by simp [e]
      have b : ¬ decide (q.1 ≠ k) = true := by simp [h1.symm.trans e]
      rw [if_neg a, if_neg b]; exact ih
    · have e' : ¬ q.1 = k := fun z => e (h1.trans z)
      have a : decide (p.1 ≠ k) = true := by simp [e]
      have b : decide (q.1 ≠ k) = true := by simp [e']
      rw [if_pos a, if_pos b]; exact .cons ⟨h1, h2⟩ ih
theorem KV.length {kvs : List (κ × V)} {vs : List (κ × Value)} (r : KV kvs vs) : kvs.length = vs.length := Paired.length r
end
/-! ### a tracked dict, its keys ints and texts or tuples of these -/
/-- raw entries of a dict with tuple keys -/
abbrev KT (H : Hp) : List (List Key × V) → List (List Key × Addr × Value) → Prop := Paired fun p q => p.1 = q.1 ∧ H q.2.1 = some (.tup (p.1.map kV)) ∧ RelV p.2 q.2.2
theorem KT.val {H : Hp} {kvs : List (List Key × V)} {xs : List (List Key × Addr × Value)} (r : KT H kvs xs) (k : List Key) : RelO (valV kvs k) ((atKey xs k).map (·.2)) := by
  induction r with
  | nil => exact True.intro
  | @cons p q ps qs h t ih =>
    obtain ⟨h1, _, h2⟩ := h
    by_cases e : p.1 = k
    · have e' : q.1 = k := h1.symm.trans e
      have b : atKey (q :: qs) k = some q.2 := by simp [atKey, List.find?_cons, e']
      rw [valV_pos e, b]; exact h2
    · have e' : ¬ q.1 = k := fun z => e (h1.trans z)
      have b : atKey (q :: qs) k = atKey qs k := by simp [atKey, List.find?_cons, e']
      rw [valV_neg e, b]; exact ih
theorem KT.repl {H : Hp} {kvs : List (List Key × V)} {xs : List (List Key × Addr × Value)} (r : KT H kvs xs) (k : List Key) {y : V} {u : Value} (ry : RelV y u) :
    KT H (kvs.map fun kv => if kv.1 = k then (kv.1, y) else kv) (xs.map (putAt k u)) := by
  induction r with
  | nil => exact .nil
  | @cons p q ps qs h t ih =>
    rw [List.map_cons, List.map_cons]
    refine .cons ?_ ih
    obtain ⟨h1, h2, h3⟩ := h
    unfold putAt
    by_cases e : p.1 = k
    · rw [if_pos e, if_pos (h1.symm.trans e)]; exact ⟨h1, h2, ry⟩
    · rw [if_neg e, if_neg (fun z => e (h1.trans z))]; exact ⟨h1, h2, h3⟩
theorem KT.put {H : Hp} {kvs : List (List Key × V)} {xs : List (List Key × Addr × Value)} (r : KT H kvs xs) (k : List Key) {b : Addr} {y : V} {u : Value} (hb : H b = some (.tup (k.map kV))) (ry : RelV y u) :
    KT H (putK kvs k y) (storedH xs k b u) := by
  have e : (kvs.any fun kv => decide (kv.1 = k)) = (atKey xs k).isSome := by
    rw [valV_any, (r.val k).isSome_eq, Option.isSome_map]
  unfold putK storedH
  rw [e]
  by_cases q : (atKey xs k).isSome = true
  · rw [if_pos q, if_pos q]; exact r.repl k ry
  · rw [if_neg q, if_neg q]; exact Paired.snoc r ⟨rfl, hb, ry⟩
theorem KT.keeps {H H' : Hp} {kvs : List (List Key × V)} {xs : List (List Key × Addr × Value)} (r : KT H kvs xs) (ht : ∀ b ys, H b = some (.tup ys) → H' b = some (.tup ys)) : KT H' kvs xs :=
  Paired.mapP r fun _ _ z => ⟨z.1, ht _ _ z.2.1, z.2.2⟩
section
variable {P : Program} {w : World} {H : Hp} {h : Heap} {a : Addr}
end
section
variable {X : Cx} {pins : List (Addr × Obj)} {σ : St} {H : Hp} {s : Shared} {a : Addr} {y v : V} {u r : Value} {o : Option V} {A : Around} {E : Value → Shared → Prop}
end
section
variable {X : Cx} {pins : List (Addr × Obj)} {σ : St} {H : Hp} {s : Shared} {a : Addr} {kvs : List (Key × V)} {k : Key} {u : Value} {A : Around} {E : Value → Shared → Prop}
end
/-! ### readings and rules -/
/-- the element of a subscription, not a slice -/
def NoSl (i : Expr) : Prop := ∀ ov iv, subscripted i false ov iv = operate [ov, iv] (getItem ov iv)
theorem subD_of {prog : Program} {w : World} {A : Around} {E : Value → Shared → Prop} {s : Shared} {env : Env} {value slice : Expr} {pos : Pos} {T id : String} {Q : Value → Shared → Prop}
    (hl : typeLookup (.type T) "__getitem__" = pure (some (.builtin id))) (hs : NoSl slice)
    (h : wpAny (model prog w) A (eval value env) (fun o s₁ => wpAny (model prog w) A (eval slice env) (fun i s₂ => s₂.TypeIs o T ∧ wpAny (model prog w) A (getItem o i) Q E s₂) E s₁) E s) :
    wpAny (model prog w) A (eval (.Subscript value slice pos) env) Q E s := by
  refine Subscript_ (wpAny_mono h (fun o s₁ h₁ => wpAny_mono h₁ (fun i s₂ h₂ => ?_) fun _ _ x => x) fun _ _ x => x)
  obtain ⟨hT, h₂⟩ := h₂
  unfold subscriptTail
  refine wpAny_bind ?_
  rw [getitemInPython_of_ne hT.not_modules]
  refine wpAny_bind (wpAny_specialOf hT hl ?_)
  have fin : wpAny (model prog w) A (subscripted slice false o i) (fun r s₃ => wpAny (model prog w) A (letTemporaryGo value o r >>= fun _ => pure r) Q E s₃) E s₂ := by
    rw [hs o i]
    exact wpAny_operating (wpAny_mono h₂ (fun r s₃ h₃ => wpAny_bind (wpAny_letTemporaryGo (wpAny_pure h₃))) fun _ _ x => x)
  first
    | exact wpAny_pure (wpAny_bind fin)
    | exact wpAny_bind (wpAny_pure (wpAny_bind fin))
    | exact wpAny_bind fin
section
variable {X : Cx} {o i e value : Expr} {pos pos' tpos : Pos} {td ty tv : TE}
end
/-! ### displays -/
section
variable {X : Cx} {pos : Pos}
end
/-! ### methods -/
/-- a method call o.m(e) of a built-in, with one argument: what must be seen of the text -/
structure M1 (X : Cx) (o : Expr) (m : Str) (apos : Pos) (e : Expr) (cpos : Pos) : Prop where
  base : attributeBase o m X.env (eval o X.env) = eval o X.env
  few : ((backTo cpos (starEach [e] X.env)).all (fun x => !x.1) && (backToKw cpos (keywordEach [] X.env)).all (fun x => x.1.isSome)
    && decide (([e] : List Expr).length + ([] : List Keyword).length + (if ([] : List Keyword).isEmpty then 0 else 1) < 30)) = true
  line : (apos.endLine == cpos.line) = true
  trees : backTo cpos (starEach [e] X.env) = [(false, eval e X.env)]
structure M2 (X : Cx) (o : Expr) (m : Str) (apos : Pos) (e f : Expr) (cpos : Pos) : Prop where
  base : attributeBase o m X.env (eval o X.env) = eval o X.env
  few : ((backTo cpos (starEach [e, f] X.env)).all (fun x => !x.1) && (backToKw cpos (keywordEach [] X.env)).all (fun x => x.1.isSome)
    && decide (([e, f] : List Expr).length + ([] : List Keyword).length + (if ([] : List Keyword).isEmpty then 0 else 1) < 30)) = true
  line : (apos.endLine == cpos.line) = true
  trees : backTo cpos (starEach [e, f] X.env) = [(false, eval e X.env), (false, eval f X.env)]
section
variable {X : Cx} {pins : List (Addr × Obj)} {σ : St} {H : Hp} {s : Shared} {a : Addr} {y d : V} {u r : Value} {o : Option V} {A : Around} {E : Value → Shared → Prop}
end
section
variable {X : Cx} {o e f : Expr} {apos cpos : Pos} {td ty tx : TE}
end
/-! ### dict(d): a copy -/
section
variable {X : Cx} {pins : List (Addr × Obj)} {σ : St} {H : Hp} {s : Shared} {a : Addr} {kvs : List (Key × V)} {A : Around} {E : Value → Shared → Prop}
end
section
variable {X : Cx} {pins : List (Addr × Obj)} {σ : St} {H : Hp} {s : Shared} {a : Addr} {y : V} {u : Value} {A : Around} {E : Value → Shared → Prop}
end
end L2
namespace L2
open PySem PySem.Spec PyProof.Rows
section
variable {prog : Program} {w : World} {A : Around} {E : Value → Shared → Prop}
end
section
variable {X : Cx}
end
end L2
namespace L2
open PySem PySem.Spec PyProof.Rows
section
variable {X : Cx} {pins : List (Addr × Obj)} {σ : St} {H : Hp} {s : Shared} {h' : Heap}
/-- several records of ours have turned -/
theorem Inv.turnedL {t' : Nat} {ch : List Addr} (I : Inv X pins σ H s) (k : ∀ b o, b ∉ ch → s.heap.get? b = some o → h'.get? b = some o) (hf : ∀ b ∈ ch, FpOk X pins H b) : Inv X pins σ H { s with heap := h', toks := t' } := by
  have nit : ∀ b u, H b = some u → b ∉ ch := fun b u e z => by
    have q := (hf b z).1
    rw [q] at e; cases e
  refine I.step (g' := s.gens) (d' := s.drawn) (ch := ch) (fun b hb => ⟨(hf b hb).2.2.2.1, (hf b hb).2.1, (hf b hb).2.2.2.2.1, (hf b hb).2.2.2.2.2⟩) (fun b o _ _ hc e _ => k b o hc e) (fun b o _ _ hc e _ => ⟨o.slots, k b o hc e⟩)
    (fun _ _ _ _ n => n) (fun b o hc e => ⟨o, k b o hc e⟩) (fun _ _ e => e) (fun _ _ _ e => e) (fun b ps e => ⟨#[], by rw [e]; simp⟩) (fun m hm => ?_) (fun b u e => ?_) I.bare
  · obtain ⟨o, es, ep, ho, r⟩ := hm
    exact ⟨o, es, ep, k _ o (fun z => (hf _ z).2.1 rfl) ho, r⟩
  · refine (I.hok b u e).stay (fun c v hc q => k c v ?_ q) (fun _ q => q) fun _ _ q => q
    rcases hc with z | z
    · rw [z]; exact nit b u e
    · exact nit c _ z
/-- .. and one new object is laid -/
theorem Inv.turnedNew {t' : Nat} {ch : List Addr} {T : Addr} {ob : HO} (I : Inv X pins σ H s) (k : ∀ b o, b ∉ ch → s.heap.get? b = some o → h'.get? b = some o) (hf : ∀ b ∈ ch, FpOk X pins H b) (hT : s.heap.objs.size ≤ T)
    (new : ObjOk X.prog X.w (upd H T ob) h' T ob) : Inv X pins σ (upd H T ob) { s with heap := h', toks := t' } := by
  have hn : H T = none := I.hok.fresh hT
  have nit : ∀ b u, H b = some u → b ∉ ch := fun b u e z => by
    have q := (hf b z).1
    rw [q] at e; cases e
  refine I.step (g' := s.gens) (d' := s.drawn) (ch := ch) (fun b hb => ⟨(hf b hb).2.2.2.1, (hf b hb).2.1, (hf b hb).2.2.2.2.1, (hf b hb).2.2.2.2.2⟩) (fun b o _ _ hc e _ => k b o hc e) (fun b o _ _ hc e _ => ⟨o.slots, k b o hc e⟩)
    (fun b o _ e n => ?_) (fun b o hc e => ⟨o, k b o hc e⟩) (fun b xs e => ?_) (fun b o u e => ?_) (fun b ps e => ⟨#[], ?_⟩) (fun m hm => ?_) (fun b u e => ?_) I.bare
  · rw [upd_ne (Nat.ne_of_lt (Nat.lt_of_lt_of_le (Heap.lt_size e) hT))]; exact n
  · rw [upd_ne (ne_of_none e hn)]; exact e
  · rw [upd_ne (ne_of_none e hn)]; exact e
  · rw [upd_ne (ne_of_none e hn), e]; simp
  · obtain ⟨o, es, ep, ho, r⟩ := hm
    exact ⟨o, es, ep, k _ o (fun z => (hf _ z).2.1 rfl) ho, r⟩
  · by_cases hb : b = T
    · subst hb
      rw [upd_same] at e
      cases e
      exact new
    · rw [upd_ne hb] at e
      refine (I.hok b u e).stay (fun c v hc q => k c v ?_ q) (fun c q => by rw [upd_ne (ne_of_none q hn)]; exact q) fun c xs q => by rw [upd_ne (ne_of_none q hn)]; exact q
      rcases hc with z | z
      · rw [z]; exact nit b u e
      · exact nit c _ z
/-! ### locking a thing while a statement runs -/
end
section
variable {X : Cx}
/-! ### one iterator just laid -/
end
/-! ### range with a step -/
section
variable {X : Cx} {tg : Expr}
end
/-! ### reversed(list) -/
section
variable {X : Cx} {tg : Expr}
end
/-! ### a str -/
/-! ### a dict's keys: any dict's entries -/
section
variable {prog : Program} {w : World} {A : Around} {E : Value → Shared → Prop} {s : Shared}
end
/-! ### a locked dict -/
section
variable {X : Cx} {pins : List (Addr × Obj)} {σ : St} {H : Hp} {s : Shared} {d : Addr} {o : Obj}
end
section
variable {P : Program} {w : World} {K : PySem.W.Frag} {tg : Expr} {d : Addr} {o : Obj} {es : Array DictEntry} {ep : Nat}
end
/-! ### for k in d, d.keys(), d.values(), d.items() -/
section
variable {X : Cx} {tg e : Expr} {td : TE} {apos cpos : Pos}
end
/-! ### enumerate(list) -/
/-! ### zip(list, list) -/
theorem boot_zip5 : bootBuiltins "zip" = some (.type "zip") := by decide +kernel
/-- the lists at a and b as they stand at each turn, the items in new pairs -/
def Itz (K : PySem.W.Frag) (a b : Addr) : It :=
  ⟨fun i H => ∃ (xs ys : List V) (x y : V), SqL K H a xs ∧ SqL K H b ys ∧ xs[i]? = some x ∧ ys[i]? = some y,
    fun i H v H' => ∃ T x y, v = .ref T ∧ H T = none ∧ H' = upd H T (.tup [x, y]) ∧ (∀ xs, SqL K H a xs → xs[i]? = some x) ∧ ∀ ys, SqL K H b ys → ys[i]? = some y,
    fun i H => ∃ xs ys : List V, SqL K H a xs ∧ SqL K H b ys ∧ (xs.length ≤ i ∨ ys.length ≤ i)⟩
theorem turn_zip {P : Program} {w : World} {K : PySem.W.Frag} {elts : List Expr} {kk : Nat} {tpos : Pos} {a b z TI TO i1 i2 : Addr} (D : ZipApart z TI TO i1 i2 a b) :
    Turn P w K (.Tuple elts kk tpos) (Itz K a b) [z, TI, TO, i1, i2] z (fun i h => IsZip h z TI TO .none ∧ IsPair h TI (.ref i1) (.ref i2) ∧ (∃ x y, IsPair h TO x y) ∧ h.IsListIter i1 a i ∧ h.IsListIter i2 b i) where
  mem := by simp
  obj := fun i h st c hc => by
    obtain ⟨hz, hTI, ⟨x, y, hTO⟩, ⟨o1, e1, _, d1⟩, ⟨o2, e2, _, d2⟩⟩ := st
    have e' : c = z ∨ c = TI ∨ c = TO ∨ c = i1 ∨ c = i2 := by simpa using hc
    rcases e' with q | q | q | q | q
    · rw [q]; exact ⟨_, hz, fun v q => nomatch q⟩
    · rw [q]; exact ⟨_, hTI, fun v q => nomatch q⟩
    · rw [q]; exact ⟨_, hTO, fun v q => nomatch q⟩
    · rw [q]; exact ⟨o1, e1, fun v q => by rw [d1] at q; cases q⟩
    · rw [q]; exact ⟨o2, e2, fun v q => by rw [d2] at q; cases q⟩
  keep := fun i h h' st k => by
    obtain ⟨hz, hTI, ⟨x, y, hTO⟩, h1, h2⟩ := st
    exact ⟨k z (by simp) _ hz, k TI (by simp) _ hTI, ⟨x, y, k TO (by simp) _ hTO⟩, h1.at fun o q => k i1 (by simp) o q, h2.at fun o q => k i2 (by simp) o q⟩
  item := by
    intro X hP hw hK hc i pins s σ H E I hf st hg
    subst hP hw hK
    obtain ⟨hz, hTI, ⟨x0, y0, hTO⟩, h1, h2⟩ := st
    obtain ⟨xs, ys, x, y, hqx, hqy, hx, hy⟩ := hg
    obtain ⟨its, rv, p, _⟩ := I.list hqx
    obtain ⟨its2, rv2, p2, _⟩ := I.list hqy
    obtain ⟨u, hu, ru⟩ := rv.get hx
    obtain ⟨u2, hu2, ru2⟩ := rv2.get hy
    have hzl : z < s.heap.objs.size := Heap.lt_size hz
    refine wpAny_pyNext_zip_item D hz hTI hTO h1 h2 p.isList p2.isList (x := u) (y := u2) (by simpa using hu) (by simpa using hu2) fun h' z' TO' h1' h2' hT hsz hk => ?_
    refine ⟨_, rfl, wpAny_letOwnedTupleGo_zip (s := { s with heap := h' }) z' fun h'' z'' sb => ?_⟩
    have hT2 : h''.get? s.heap.objs.size = some { cls := .type "tuple", data := .seq #[u, u2] } := (sb.2 _ (Nat.ne_of_gt hzl)).trans hT
    have new : ObjOk X.prog X.w (upd H s.heap.objs.size (.tup [x, y])) h'' s.heap.objs.size (.tup [x, y]) :=
      ⟨by show 2 ≤ sizeLine; decide, [u, u2], .cons ru (.cons ru2 .nil), ⟨_, hT2, rfl, _, rfl⟩⟩
    have I1 : Inv X pins σ (upd H s.heap.objs.size (.tup [x, y])) { s with heap := h'' } :=
      I.turnedNew (t' := s.toks) (ch := [z, TI, TO, i1, i2]) (fun c o hb q => (sb.2 c (fun q' => hb (by simp [q']))).trans (hk c o (fun q' => hb (by simp [q'])) (fun q' => hb (by simp [q'])) (fun q' => hb (by simp [q'])) (fun q' => hb (by simp [q'])) q)) hf (Nat.le_refl _) new
    refine ⟨.ref s.heap.objs.size, _, I1, rfl, ⟨_, x, y, rfl, I.hok.fresh (Nat.le_refl _), rfl, fun l hl => by rw [I.list_inj hl hqx]; exact hx, fun l hl => by rw [I.list_inj hl hqy]; exact hy⟩, ⟨z'', ?_, ⟨u, u2, ?_⟩, ?_, ?_⟩, fun c hcm => ?_⟩
    · exact (sb.2 _ D.TIz).trans (hk _ _ D.TIz D.TITO D.TIi1 D.TIi2 hTI)
    · exact (sb.2 _ D.TOz).trans TO'
    · exact h1'.at fun o q => (sb.2 _ D.i1z).trans q
    · exact h2'.at fun o q => (sb.2 _ D.i2z).trans q
    · have hlt : c < s.heap.objs.size := by
        have e' : c = z ∨ c = TI ∨ c = TO ∨ c = i1 ∨ c = i2 := by simpa using hcm
        rcases e' with q | q | q | q | q
        · rw [q]; exact hzl
        · rw [q]; exact Heap.lt_size hTI
        · rw [q]; exact Heap.lt_size hTO
        · rw [q]; obtain ⟨_, e1, _⟩ := h1; exact Heap.lt_size e1
        · rw [q]; obtain ⟨_, e2, _⟩ := h2; exact Heap.lt_size e2
      rw [upd_ne (Nat.ne_of_lt hlt)]
      exact (hf c hcm).1
  done := by
    intro X hP hw hK hc i pins s σ H E I hf st hg
    subst hP hw hK
    obtain ⟨hz, hTI, ⟨x0, y0, hTO⟩, h1, h2⟩ := st
    obtain ⟨xs, ys, hqx, hqy, hend⟩ := hg
    obtain ⟨its, rv, p, _⟩ := I.list hqx
    obtain ⟨its2, rv2, p2, _⟩ := I.list hqy
    have l1 := rv.length
    have l2 := rv2.length
    have he : its.toArray[i]? = none ∨ its2.toArray[i]? = none := by
      rcases hend with q | q
      · exact .inl (by simp; omega)
      · exact .inr (by simp; omega)
    exact wpAny_pyNext_zip_end (I.ok.hd hc) D hz hTI hTO h1 h2 p.isList p2.isList he fun h' hk => ⟨rfl, I.turnedL (t' := s.toks) (ch := [z, TI, TO, i1, i2]) (fun c o hb q =>
      hk c o (fun q' => hb (by simp [q'])) (fun q' => hb (by simp [q'])) (fun q' => hb (by simp [q'])) (fun q' => hb (by simp [q'])) q) hf⟩
  self := fun A i s Q E st h => wpAny_pyIter_zip st.1 h
def iZip (K : PySem.W.Frag) (ta : TA) : TI := fun σ H R => ta σ H fun vs H1 => ∃ a b xs ys, vs = [.ref a, .ref b] ∧ SqL K H1 a xs ∧ SqL K H1 b ys ∧ R (Itz K a b) H1
theorem pi_zip {X : Cx} {e e2 : Expr} {ta : TA} {p pos tpos : Pos} {elts : List Expr} {kk : Nat} (hg : Gl X "zip") (hm : X.mg "zip" = none) (ha : PA X [e, e2] ta)
    (hs : starEach [e, e2] X.env = (false, eval e X.env) :: starEach [e2] X.env := by rfl) (hpl : (backTo pos (starEach [e2] X.env)).any (·.1) = false := by rfl) :
    PI X (.Tuple elts kk tpos) (.Call (.Name "zip" p) [e, e2] [] pos) (iZip X.K ta) := by
  intro pins s σ H R I h
  refine Call_ (ld_blt I hg hm boot_zip5 (PyProof.Rows.callWith_type1 (thn (ha pos pins s σ H _ I h) fun us s1 ⟨vs, H1, I1, r1, q1⟩ => ?_) hs hpl))
  obtain ⟨a, b, xs, ys, ex, hqx, hqy, q⟩ := q1
  subst ex
  cases r1 with
  | cons r rr =>
    cases rr with
    | cons r' rr =>
      cases rr
      cases r
      cases r'
      obtain ⟨its, rv, p1, _⟩ := I1.list hqx
      obtain ⟨its2, rv2, p2, _⟩ := I1.list hqy
      have la : a < s1.heap.objs.size := p1.lt
      have lb : b < s1.heap.objs.size := p2.lt
      refine call_zip_2 p1.isList p2.isList fun h' hz hTI hTO h1 h2 hsz hk => wpAny_pyIter_zip hz ?_
      have I2 : Inv X pins σ H1 { s1 with heap := h' } := I1.kept (t' := s1.toks) hk
      refine ⟨s1.heap.objs.size + 4, [s1.heap.objs.size + 4, s1.heap.objs.size + 2, s1.heap.objs.size + 3, s1.heap.objs.size, s1.heap.objs.size + 1], _, _, H1, rfl, I2, turn_zip (PySem.W.ktu_apart s1.heap.objs.size a b la lb), ⟨hz, hTI, ⟨_, _, hTO⟩, h1, h2⟩, fun c hcm => ?_, q⟩
      have e' : c = s1.heap.objs.size + 4 ∨ c = s1.heap.objs.size + 2 ∨ c = s1.heap.objs.size + 3 ∨ c = s1.heap.objs.size ∨ c = s1.heap.objs.size + 1 := by simpa using hcm
      have hle : s1.heap.objs.size ≤ c := by
        rcases e' with z | z | z | z | z
        · rw [z]; exact Nat.le_add_right _ _
        · rw [z]; exact Nat.le_add_right _ _
        · rw [z]; exact Nat.le_add_right _ _
        · rw [z]; exact Nat.le_refl _
        · rw [z]; exact Nat.le_add_right _ _
      exact I1.fpOk hle (I1.hok.fresh hle)
end L2
section 
namespace Bits
open PySem PyProof.Rows
end Bits
end 
section 
namespace TL
open PySem PySem.Builtin PySem.Builtin.Str PySem.StrLaws
/-! ### the list functions -/
/-- S stands at the head of l -/
def pre (S l : List Nat) : Bool := l.take S.length == S
/-- what stands before the first S, and behind it -/
def par (S : List Nat) : List Nat → List Nat → Option (List Nat × List Nat)
  | _, [] => none
  | acc, c :: r => if pre S (c :: r) = true then some (acc, (c :: r).drop S.length) else par S (acc ++ [c]) r
/-! ### the model's split and partition are these -/
/-! ### computing spl and par -/
/-! ### digits -/
/-! ### words: x.split() -/
end TL
end 
namespace L2
open PySem PySem.Spec PyProof.Rows
section
variable {X : Cx} {pins : List (Addr × Obj)} {σ : St} {H : Hp} {s : Shared} {Q : VK}
end
section
variable {X : Cx}
/-! ### of a text alone -/
/-! ### of a text and a text -/
end
section
variable {X : Cx} {o e : Expr} {to te : TE}
end
end L2
namespace L2
open PySem PySem.Spec PyProof.Rows
section
variable {X : Cx}
end
/-! ### slices of a text -/
end L2
namespace Att
open PySem PySem.W PySem.Calls PyProof.Rows
/-! ### the script -/
/-! ### the attachment: holds_open's last premise (the goal 'hc' behind k_head) from a wpAny of the law's body -/
/-! ### rules over ANY heap (no ledger) from facts about the written part K: the library's own take a ledger (News) for what they write -/
section
variable {prog : Program} {w : World} {A : Around} {E : Value → Shared → Prop} {s : Shared} {K : Frag}
/-! the whole heap as the ledger: makes every rule that writes through a ledger a rule over any heap -/
end
end Att
namespace L2
open PySem PySem.Spec PyProof.Rows
end L2
namespace L2
open PySem PySem.Spec PyProof.Rows
end L2
/- THE LAST THEOREM (shape; LID, My.* are yours):
   My.Adr: a structure of the addresses that your layer names (classes, functions); My.Txt K t: a structure (Prop) of the equations over K;
   My.txt_mk : {K} {implicit addresses ..} (e1 : nsIn K mainGlobals "law" = some (some (.ref f))) (e2 : K.lookup f = some ⟨oc, od, .func (fnOf "law" "law" params body scope dV kV doc pm an cdv ct), sl⟩) (e3 : codeIn K cdv "law" = true) .. : ∃ t, My.Txt K t
set_option maxRecDepth 100000 in
set_option maxHeartbeats 0 in
theorem PySem.Challenge.cw_LID_holds : PySem.Challenge.rw_LID.Holds := by
  w_on; o_law; k_head; (case hw => w_witness2)
  k_fill
  refine L2.walk_of (l := PySem.Challenge.rw_LID) (n := 63) (k := 40) (x := "script") (CX := fun w => ..) (sp := fun _ => My.sp_law) rfl (by decide) rfl ⟨rfl, by decide, by decide⟩ (fun w h Y => PySem.W.kIn_of Y) ?F ?S ?C
  case F =>
    intro w mg fa h KX G hmg
    have T : ∃ t, My.Txt (L2.KOf KX) t := by
      dsimp only [L2.KOf]                          -- K must stand as «<heap const> w.params» for k_is
      refine' My.txt_mk ?e1 ?e2 ?e3 ..
      (case e1 => PySem.W.k_is)                    -- in the order: a name -> its address -> its object -> its parts
      (case e2 => PySem.W.k_is)
      ..
    obtain ⟨t, T⟩ := T
    have e0 := hmg.symm.trans (PySem.W.mg_of KX G T.law)
    cases e0                                       -- fa is the law's own address
    exact ⟨_, fun s u => .of_eq rfl, fun base kb nb => My.law_fn T kb nb⟩     -- if «.of_eq rfl» comes too early: refine' ⟨_, ?b, fun base kb nb => My.law_fn T kb nb⟩; exact fun s u => .of_eq rfl
  case S => exact fun w H a ns hl hO hS => ..
  case C => exact ..
(the tactic k_is has no namespace: write k_is) -/
/-! SHORT WORDS over the layer: a def of the text, its body, what a loop and a test want. -/
namespace L2
open PySem PySem.Spec PyProof.Rows
/-! ### the text by places -/
/-- the j-th statement of a class's body -/
def inClass (s : Stmt) (j : Nat) : Stmt := match s with
  | .ClassDef _ _ _ body _ _ _ _ _ _ _ => body.getD j (.Pass ⟨0, 0, 0, 0⟩)
  | _ => .Pass ⟨0, 0, 0, 0⟩
def defArgs (s : Stmt) : Arguments := match s with
  | .FunctionDef _ a _ _ _ _ _ _ _ _ => a
  | _ => { posonlyargs := [], args := [], vararg := none, kwonlyargs := [], kw_defaults := [], kwarg := none, defaults := [] }
def defBody (s : Stmt) : List Stmt := match s with
  | .FunctionDef _ _ b _ _ _ _ _ _ _ => b
  | _ => []
def defScope (s : Stmt) : Scope := match s with
  | .FunctionDef _ _ _ _ _ _ sc _ _ _ => sc
  | _ => { kind := .function, names := [], isGenerator := false, isCoroutine := false }
/-! ### no exception leaves a def -/
abbrev CX0 : CXT := fun _ _ _ _ _ _ => False
abbrev E0 : XK := fun _ _ _ => False
theorem pass0 {X : Cx} : Passes CX0 X E0 := fun _ _ _ _ _ _ _ h => h.elim
/-! ### a def (or method) of the text as it stands behind the top -/
structure Fun (K : PySem.W.Frag) (x qual : Str) (st : Stmt) (f : Addr) (fd : FuncData) : Prop where
  ex : ∃ (oc : Value) (od : Option Addr) (kV doc pm : Value) (an : Option Addr) (cdv ct : Value) (osl : Array (Option Value)),
    fd = PySem.W.fnOf x qual (defArgs st) (defBody st) (defScope st) .none kV doc pm an cdv ct ∧ K.lookup f = some ⟨oc, od, .func fd, osl⟩ ∧ PySem.W.codeIn K cdv qual = true
  kp : PySem.W.keepIn K (.ref f) = true
section
variable {P : Program} {w : World} {K : PySem.W.Frag} {mg : Str → Option Value} {base : Heap}
/-- THE RULE for a def: its body as a term of rules, and the reading of that term -/
theorem Fun.ok {x qual : Str} {st : Stmt} {f : Addr} {fd : FuncData} {N ps : List Str} {k : Nat} {sp : Sp} (F : Fun K x qual st f fd) (S : FnScope N ps (defScope st)) (len : ∀ vs H Q E, sp vs H Q E → vs.length = ps.length)
    (hbody : ∀ (cdv : Value) (A : Around) (outer : List Env) (s : Shared) (H : Hp) (vs : List V) (Q : VK) (E : XK), Room k (A.deeper (envOfC qual (defScope st) s.heap.objs.size f cdv)) → sp vs H Q E →
      ∃ t, PSs (cxOf CX0 P w K mg base N qual (defScope st) f cdv A outer s H E).nox (defBody st) t ∧ t { nx := fun _ H' => Q .non H', rt := Q } (start N vs) H) : FnOk P w K mg base CX0 (k + 1) f fd ps sp := by
  obtain ⟨oc, od, kV, doc, pm, an, cdv, ct, osl, rfl, lk, hcd⟩ := F.ex
  refine fn_of lk hcd S len fun A outer s H vs Q E hr hsp => ?_
  obtain ⟨t, h, q⟩ := hbody cdv A outer s H vs Q E hr hsp
  exact ⟨t, h.nox, q⟩
/-- how its arguments bind (no defaults): h is «fun _ _ _ _ _ _ us hl => match us, hl with | [_, _], _ => rfl», one _ a parameter -/
theorem Fun.binds {x qual : Str} {st : Stmt} {f : Addr} {fd : FuncData} {ps : List Str} (F : Fun K x qual st f fd)
    (h : ∀ (kV doc pm : Value) (an : Option Addr) (cdv ct : Value) (us : List Value), us.length = ps.length → bindArgs (PySem.W.fnOf x qual (defArgs st) (defBody st) (defScope st) .none kV doc pm an cdv ct) ⟨us, []⟩ = pure (ps.zip us)) : Binds K fd ps [] := by
  obtain ⟨oc, od, kV, doc, pm, an, cdv, ct, osl, rfl, lk, hcd⟩ := F.ex
  exact .all (h kV doc pm an cdv ct)
theorem fun_mk {x qual : Str} {st : Stmt} {f : Addr} {oc : Value} {od an : Option Addr} {osl : Array (Option Value)} {kV doc pm cdv ct : Value} (l : K.lookup f = some ⟨oc, od, .func (PySem.W.fnOf x qual (defArgs st) (defBody st) (defScope st) .none kV doc pm an cdv ct), osl⟩)
    (c : PySem.W.codeIn K cdv qual = true) (k : PySem.W.keepIn K (.ref f) = true) : Fun K x qual st f (PySem.W.fnOf x qual (defArgs st) (defBody st) (defScope st) .none kV doc pm an cdv ct) := ⟨⟨oc, od, kV, doc, pm, an, cdv, ct, osl, rfl, l, c⟩, k⟩
end
/-! ### expressions in short: the name that stands in the i-th slot -/
section
variable {X : Cx}
theorem pv (i : Nat) {x : Str} {pos : Pos} (hN : X.N[i]? = some x := by rfl) (hv : Vis X.env.scope x := by first | exact Or.inl rfl | exact Or.inr (Or.inl rfl) | exact Or.inr (Or.inr rfl)) (hd : (x == ("__debug__" : Str)) = false := by decide)
    (hcd : (x == ("__classdict__" : Str)) = false := by decide) : PE X (.Name x pos) (tVar i) := pe_var hN hv hd hcd
end
/-! ### tests -/
/-! ### heaps -/
/-- all that was tracked is as it was -/
def Same (H H' : Hp) : Prop := ∀ b o, H b = some o → H' b = some o
theorem Same.refl (H : Hp) : Same H H := fun _ _ h => h
theorem Same.trans {H H1 H2 : Hp} (a : Same H H1) (b : Same H1 H2) : Same H H2 := fun c o h => b c o (a c o h)
theorem Same.free {H H' : Hp} (e : Same H H') {l : Addr} (h : H' l = Option.none) : H l = Option.none := by
  cases q : H l with
  | none => rfl
  | some o =>
    rw [e l o q] at h
    cases h
theorem Same.seq {K : PySem.W.Frag} {H H' : Hp} {a : Addr} {xs : List V} (e : Same H H') (h : SqL K H a xs) : SqL K H' a xs := by
  rcases h with (h | ⟨o, h⟩) | h
  · exact .inl (.inl (e _ _ h))
  · exact .inl (.inr ⟨o, e _ _ h⟩)
  · exact .inr h
/-! ### a dict's pairs: keys that differ -/
section
variable {κ : Type} [DecidableEq κ]
end
/-! ### lists -/
theorem at_of {xs : List V} {z : Int} {j : Nat} {v : V} (e : z = (j : Int)) (h : xs[j]? = some v) : atI xs z = some v := by
  rw [e]
  exact atI_nat h
theorem nd_ix {α : Type} {l : List α} (hN : l.Nodup) {i j : Nat} {x : α} (a : l[i]? = some x) (b : l[j]? = some x) : i = j := by
  obtain ⟨h1, e1⟩ := List.getElem?_eq_some_iff.mp a
  obtain ⟨h2, e2⟩ := List.getElem?_eq_some_iff.mp b
  exact (List.getElem_inj hN).mp (e1.trans e2.symm)
/-- a new instance and its __init__ leave all that was tracked as it was -/
theorem Same.made {H H1 : Hp} {x dx C : Addr} (nx : H x = Option.none) (nd : H dx = Option.none) (k : ∀ b o, (upd (upd H dx (.own x)) x (.ins C dx [])) b = some o → b ≠ x → H1 b = some o) : Same H H1 := fun b o e =>
  k b o (by rw [upd_ne (ne_of_none e nx), upd_ne (ne_of_none e nd)]; exact e) (ne_of_none e nx)
end L2
section
set_option maxHeartbeats 2000000
namespace L2
open PySem PySem.Spec PyProof.Rows
open PySem.W (WData Codec OpenSpec Well WellAll ReadsW ReadsAllW)
/-! ### an answer as data -/
mutual
/-- x stands for the datum d, lists and tuples all the way -/
inductive Dw (K : PySem.W.Frag) (H : Hp) : V → WData → Prop
  | non : Dw K H .non .none
  | bl (b : Bool) : Dw K H (.bl b) (.bool b)
  | int (i : Int) : Dw K H (.int i) (.int i)
  | str (x : Str) : Dw K H (.str x) (.str x)
  | byt (b : Array UInt8) : Dw K H (.byt b) (.bytes b.toList)
  | lst {a : Addr} {xs : List V} {ds : List WData} : SqL K H a xs → DwAll K H xs ds → Dw K H (.ref a) (.list ds)
  | tup {a : Addr} {xs : List V} {ds : List WData} : SqT K H a xs → DwAll K H xs ds → Dw K H (.ref a) (.tuple ds)
inductive DwAll (K : PySem.W.Frag) (H : Hp) : List V → List WData → Prop
  | nil : DwAll K H [] []
  | cons {v : V} {vs : List V} {d : WData} {ds : List WData} : Dw K H v d → DwAll K H vs ds → DwAll K H (v :: vs) (d :: ds)
end
theorem dw_ints {K : PySem.W.Frag} {H : Hp} : ∀ ns : List Int, DwAll K H (ns.map V.int) (ns.map WData.int)
  | [] => .nil
  | n :: r => .cons (.int n) (dw_ints r)
theorem ints_dw {K : PySem.W.Frag} {H : Hp} : ∀ (ns : List Int) (xs : List V), DwAll K H xs (ns.map WData.int) → xs = ns.map V.int
  | [], xs, h => by
    cases h
    rfl
  | n :: r, xs, h => by
    cases h with
    | cons h1 h2 =>
      cases h1
      rw [ints_dw r _ h2] <;> rfl
section
variable {P : Program} {w : World} {K : PySem.W.Frag} {H : Hp} {h : Heap} {R : PySem.W.WRecords} {cl : Str → Option Addr}
theorem sqL_at {a : Addr} {xs : List V} (hok : HOk P w H h) (KX : K.In h) (q : SqL K H a xs) : ∃ (its : List Value) (o : Obj) (n : Nat), Vals xs its ∧ h.get? a = some o ∧ o.cls = .type "list" ∧ o.data = .seq its.toArray n := by
  rcases q with q | ⟨o, its, n, e, hc, _, hd, _, hv⟩
  · obtain ⟨_, its, n, hv, e⟩ := (show ObjOk P w H h a (.lst xs) from q.ok hok)
    exact ⟨its, _, n, hv, e, rfl, rfl⟩
  · exact ⟨its.toList, o, n, hv, KX _ _ e, hc, by simp [hd]⟩
theorem sqT_at {a : Addr} {xs : List V} (hok : HOk P w H h) (KX : K.In h) (q : SqT K H a xs) : ∃ (its : List Value) (o : Obj) (n : Nat), Vals xs its ∧ h.get? a = some o ∧ o.cls = .type "tuple" ∧ o.data = .seq its.toArray n := by
  rcases q with q | ⟨o, its, n, e, hc, hd, _, hv⟩
  · obtain ⟨_, its, hv, o, e, hc, n, hd⟩ := (show ObjOk P w H h a (.tup xs) from q.ok hok)
    exact ⟨its, o, n, hv, e, hc, hd⟩
  · exact ⟨its.toList, o, n, hv, KX _ _ e, hc, by simp [hd]⟩
mutual
theorem Dw.reads (hok : HOk P w H h) (KX : K.In h) : ∀ (d : WData) (v : V) (u : Value), Dw K H v d → RelV v u → ∃ as, ReadsW R cl h u d as
  | .none, _, _, x, r => by
    cases x
    cases r
    exact ⟨_, ReadsW.none⟩
  | .bool b, _, _, x, r => by
    cases x
    cases r
    exact ⟨_, ReadsW.bool b⟩
  | .int i, _, _, x, r => by
    cases x
    obtain ⟨t, rfl⟩ := r
    exact ⟨_, ReadsW.int i t⟩
  | .str s, _, _, x, r => by
    cases x
    obtain ⟨t, rfl⟩ := r
    exact ⟨_, ReadsW.str s t⟩
  | .bytes b, _, _, x, r => by
    cases x
    obtain ⟨t, rfl⟩ := r
    exact ⟨_, ReadsW.bytes _ t⟩
  | .list ds, _, _, x, r => by
    cases x with
    | lst hs ha =>
      cases r
      obtain ⟨its, o, n, rv, ho, hc, hd⟩ := sqL_at hok KX hs
      obtain ⟨as, hr⟩ := Dw.readsAll hok KX ds _ its ha rv
      exact ⟨_, ReadsW.list ho hc hd hr⟩
  | .tuple ds, _, _, x, r => by
    cases x with
    | tup hs ha =>
      cases r
      obtain ⟨its, o, n, rv, ho, hc, hd⟩ := sqT_at hok KX hs
      obtain ⟨as, hr⟩ := Dw.readsAll hok KX ds _ its ha rv
      exact ⟨_, ReadsW.tuple ho hc hd hr⟩
  | .float _, _, _, x, _ => by cases x
  | .dict _, _, _, x, _ => by cases x
  | .bytearray _, _, _, x, _ => by cases x
  | .set _, _, _, x, _ => by cases x
  | .frozenset _, _, _, x, _ => by cases x
  | .obj _ _, _, _, x, _ => by cases x
theorem Dw.readsAll (hok : HOk P w H h) (KX : K.In h) : ∀ (ds : List WData) (vs : List V) (us : List Value), DwAll K H vs ds → Vals vs us → ∃ as, ReadsAllW R cl h us ds as
  | [], _, _, x, r => by
    cases x
    cases r
    exact ⟨_, ReadsAllW.nil⟩
  | d :: ds, _, _, x, r => by
    cases x with
    | cons h1 h2 =>
      cases r with
      | cons r1 r2 =>
        obtain ⟨as, q1⟩ := Dw.reads hok KX d _ _ h1 r1
        obtain ⟨bs, q2⟩ := Dw.readsAll hok KX ds _ _ h2 r2
        exact ⟨_, ReadsAllW.cons q1 q2⟩
end
end
/-! ### the arguments -/
mutual
/-- data that a codec tells -/
def plW : WData → Bool
  | .none => true
  | .bool _ => true
  | .int _ => true
  | .str _ => true
  | .bytes _ => true
  | .list xs => plWs xs
  | .tuple xs => plWs xs
  | _ => false
def plWs : List WData → Bool
  | [] => true
  | x :: r => plW x && plWs r
end
theorem plWs_map {α : Type} {f : α → WData} (h : ∀ a, plW (f a) = true) : ∀ l : List α, plWs (l.map f) = true
  | [] => rfl
  | x :: r => by
    show (plW (f x) && plWs (r.map f)) = true
    rw [h x, plWs_map h r] <;> rfl
theorem pl_enc : ∀ (c : Codec) (a : c.denote), plW (c.enc a) = true
  | .unit, _ => rfl
  | .bool, _ => rfl
  | .int _ _, _ => rfl
  | .nat _ _, _ => rfl
  | .u8, _ => rfl
  | .bytes _ _, _ => rfl
  | .text _ _ _ _, _ => rfl
  | .list _ _ c, a => plWs_map (fun x => pl_enc c x) a
  | .pair c d, a => by
    show (plW (c.enc a.1) && (plW (d.enc a.2) && true)) = true
    rw [pl_enc c a.1, pl_enc d a.2] <;> rfl
  | .triple c d e, a => by
    show (plW (c.enc a.1) && (plW (d.enc a.2.1) && (plW (e.enc a.2.2) && true))) = true
    rw [pl_enc c a.1, pl_enc d a.2.1, pl_enc e a.2.2] <;> rfl
  | .option c, none => rfl
  | .option c, some x => pl_enc c x
theorem pl_encAll : ∀ (cs : List Codec) (a : Codec.denoteAll cs), plWs (Codec.encAll cs a) = true
  | [], _ => rfl
  | c :: cs, a => by
    show (plW (c.enc a.1) && plWs (Codec.encAll cs a.2)) = true
    rw [pl_enc c a.1, pl_encAll cs a.2] <;> rfl
theorem weight_mem : ∀ {xs : List WData} {d : WData}, d ∈ xs → d.weight ≤ WData.weightAll xs
  | [], d, h => absurd h (by simp)
  | x :: r, d, h => by
    show d.weight ≤ x.weight + 1 + WData.weightAll r
    rcases List.mem_cons.mp h with e | m
    · rw [e]
      omega
    · have z := weight_mem m
      omega
def toV : Value → V
  | .none => .non
  | .bool b => .bl b
  | .int i _ => .int i
  | .str x _ => .str x
  | .bytes b _ => .byt b
  | .ref a => .ref a
  | _ => .non
/-- a value of the arguments, its objects among A -/
def OkU (A : List Addr) : Value → Prop
  | .none => True
  | .bool _ => True
  | .int _ _ => True
  | .str _ _ => True
  | .bytes _ _ => True
  | .ref a => a ∈ A
  | _ => False
theorem OkU.mono {A B : List Addr} (h : ∀ a ∈ A, a ∈ B) : ∀ {u : Value}, OkU A u → OkU B u := fun {u} x => by
  cases u with
  | ref a => exact h a x
  | none => trivial
  | bool b => trivial
  | int i t => trivial
  | str s t => trivial
  | bytes b t => trivial
  | _ => exact False.elim x
theorem relV_toV {A : List Addr} {u : Value} (x : OkU A u) : RelV (toV u) u := by
  cases u with
  | ref a => rfl
  | none => rfl
  | bool b => rfl
  | int i t => exact ⟨t, rfl⟩
  | str s t => exact ⟨t, rfl⟩
  | bytes b t => exact ⟨t, rfl⟩
  | _ => exact False.elim x
theorem vals_toV {A : List Addr} : ∀ {vs : List Value}, (∀ u ∈ vs, OkU A u) → Vals (vs.map toV) vs
  | [], _ => .nil
  | u :: r, h => .cons (relV_toV (h u (List.mem_cons_self ..))) (vals_toV fun x hx => h x (List.mem_cons_of_mem _ hx))
/-- an object of the arguments -/
def ArgOb (h : Heap) (A : List Addr) (a : Addr) : Prop := ∃ vs : List Value, vs.length ≤ sizeLine ∧ (∀ u ∈ vs, OkU A u) ∧
  (h.get? a = some { cls := .type "list", data := .seq vs.toArray } ∨ h.get? a = some { cls := .type "tuple", data := .seq vs.toArray })
theorem ArgOb.mono {h : Heap} {A B : List Addr} {a : Addr} (k : ∀ a ∈ A, a ∈ B) (x : ArgOb h A a) : ArgOb h B a := by
  obtain ⟨vs, h1, h2, h3⟩ := x
  exact ⟨vs, h1, fun u hu => (h2 u hu).mono k, h3⟩
theorem wellAll_len {P : Params} {h : Heap} : ∀ {vs : List Value} {ds : List WData}, WellAll P h vs ds → vs.length = ds.length
  | _, _, .nil => rfl
  | _, _, .cons _ b => by
    show _ + 1 = _ + 1
    rw [wellAll_len b]
theorem well_list {P : Params} {h : Heap} {v : Value} {ds : List WData} (x : Well P h v (.list ds)) : ∃ (a : Addr) (vs : List Value), v = .ref a ∧ h.get? a = some { cls := .type "list", data := .seq vs.toArray } ∧ WellAll P h vs ds := by
  cases x with
  | list ho hall => exact ⟨_, _, rfl, ho, hall⟩
theorem well_tuple {P : Params} {h : Heap} {v : Value} {ds : List WData} (x : Well P h v (.tuple ds)) : ∃ (a : Addr) (vs : List Value), v = .ref a ∧ h.get? a = some { cls := .type "tuple", data := .seq vs.toArray } ∧ WellAll P h vs ds := by
  cases x with
  | tuple ho hall => exact ⟨_, _, rfl, ho, hall⟩
theorem well_cons {P : Params} {h : Heap} {us : List Value} {d : WData} {ds : List WData} (x : WellAll P h us (d :: ds)) : ∃ (v : Value) (vs : List Value), us = v :: vs ∧ Well P h v d ∧ WellAll P h vs ds := by
  cases x with
  | cons a b => exact ⟨_, _, rfl, a, b⟩
theorem line_of {n : Nat} (h : n ≤ 1048576) : n ≤ sizeLine := Nat.le_trans h (by decide)
section
variable {P : Params} {h : Heap}
mutual
theorem area_one : ∀ (d : WData) (v : Value), Well P h v d → plW d = true → d.weight ≤ 1048576 → ∃ A : List Addr, OkU A v ∧ ∀ a ∈ A, ArgOb h A a
  | .none, _, x, _, _ => by
    cases x
    exact ⟨[], trivial, fun a m => absurd m (by simp)⟩
  | .bool b, _, x, _, _ => by
    cases x
    exact ⟨[], trivial, fun a m => absurd m (by simp)⟩
  | .int i, _, x, _, _ => by
    cases x
    exact ⟨[], trivial, fun a m => absurd m (by simp)⟩
  | .str s, _, x, _, _ => by
    cases x
    exact ⟨[], trivial, fun a m => absurd m (by simp)⟩
  | .bytes b, _, x, _, _ => by
    cases x
    exact ⟨[], trivial, fun a m => absurd m (by simp)⟩
  | .list ds, _, x, p, z => by
    obtain ⟨a, vs, rfl, ho, hall⟩ := well_list x
    have z2 : WData.weightAll ds ≤ 1048576 := z
    obtain ⟨A, h1, h2⟩ := area_all ds _ hall p fun d hd => Nat.le_trans (weight_mem hd) z2
    have k : ∀ b ∈ A, b ∈ a :: A := fun b hb => List.mem_cons_of_mem _ hb
    refine ⟨a :: A, List.mem_cons_self .., fun b hb => ?_⟩
    rcases List.mem_cons.mp hb with e | m
    · rw [e]
      exact ⟨vs, line_of (by rw [wellAll_len hall]; exact Nat.le_trans (PySem.W.length_le_weightAllW ds) z2), fun u hu => (h1 u hu).mono k, .inl ho⟩
    · exact (h2 b m).mono k
  | .tuple ds, _, x, p, z => by
    obtain ⟨a, vs, rfl, ho, hall⟩ := well_tuple x
    have z2 : WData.weightAll ds ≤ 1048576 := z
    obtain ⟨A, h1, h2⟩ := area_all ds _ hall p fun d hd => Nat.le_trans (weight_mem hd) z2
    have k : ∀ b ∈ A, b ∈ a :: A := fun b hb => List.mem_cons_of_mem _ hb
    refine ⟨a :: A, List.mem_cons_self .., fun b hb => ?_⟩
    rcases List.mem_cons.mp hb with e | m
    · rw [e]
      exact ⟨vs, line_of (by rw [wellAll_len hall]; exact Nat.le_trans (PySem.W.length_le_weightAllW ds) z2), fun u hu => (h1 u hu).mono k, .inr ho⟩
    · exact (h2 b m).mono k
  | .float _, _, _, p, _ => Bool.noConfusion (show false = true from p)
  | .dict _, _, _, p, _ => Bool.noConfusion (show false = true from p)
  | .bytearray _, _, _, p, _ => Bool.noConfusion (show false = true from p)
  | .set _, _, _, p, _ => Bool.noConfusion (show false = true from p)
  | .frozenset _, _, _, p, _ => Bool.noConfusion (show false = true from p)
  | .obj _ _, _, _, p, _ => Bool.noConfusion (show false = true from p)
theorem area_all : ∀ (ds : List WData) (vs : List Value), WellAll P h vs ds → plWs ds = true → (∀ d ∈ ds, d.weight ≤ 1048576) → ∃ A : List Addr, (∀ u ∈ vs, OkU A u) ∧ ∀ a ∈ A, ArgOb h A a
  | [], _, x, _, _ => by
    cases x
    exact ⟨[], fun u m => absurd m (by simp), fun a m => absurd m (by simp)⟩
  | d :: ds, _, x, p, z => by
    obtain ⟨v, vs, rfl, x1, x2⟩ := well_cons x
    have q : plW d = true ∧ plWs ds = true := Bool.and_eq_true_iff.mp p
    obtain ⟨A, a1, a2⟩ := area_one d v x1 q.1 (z d (List.mem_cons_self ..))
    obtain ⟨B, b1, b2⟩ := area_all ds vs x2 q.2 fun e he => z e (List.mem_cons_of_mem _ he)
    have kA : ∀ b ∈ A, b ∈ A ++ B := fun b hb => List.mem_append.mpr (.inl hb)
    have kB : ∀ b ∈ B, b ∈ A ++ B := fun b hb => List.mem_append.mpr (.inr hb)
    refine ⟨A ++ B, fun u hu => ?_, fun b hb => ?_⟩
    · rcases List.mem_cons.mp hu with e | m
      · rw [e]
        exact a1.mono kA
      · exact (b1 u m).mono kB
    · rcases List.mem_append.mp hb with m | m
      · exact (a2 b m).mono kA
      · exact (b2 b m).mono kB
end
end
/-- what is tracked of an argument's object -/
def hoOf (o : Obj) : Option HO := match o.data with
  | .seq vs _ => if (o.cls == Value.type "list") = true then some (.frz o (.lst (vs.toList.map toV))) else some (.frz o (.tup (vs.toList.map toV)))
  | _ => none
def argH (K : PySem.W.Frag) (h : Heap) (A : List Addr) : Hp := fun b => if b ∈ A then (if (K.lookup b).isNone = true then (h.get? b).bind hoOf else none) else none
/-- nothing is tracked but what is known to the object -/
def OnlyF (H : Hp) : Prop := ∀ b, H b = none ∨ ∃ o u, H b = some (.frz o u)
theorem hoOf_lst (vs : List Value) : hoOf { cls := .type "list", data := .seq vs.toArray } = some (.frz { cls := .type "list", data := .seq vs.toArray } (.lst (vs.map toV))) := by
  show (if (Value.type "list" == Value.type "list") = true then some (HO.frz { cls := .type "list", data := .seq vs.toArray } (.lst (vs.toArray.toList.map toV))) else some (HO.frz { cls := .type "list", data := .seq vs.toArray } (.tup (vs.toArray.toList.map toV)))) = _
  rw [if_pos (beq_self_eq_true _)]
theorem hoOf_tup (vs : List Value) : hoOf { cls := .type "tuple", data := .seq vs.toArray } = some (.frz { cls := .type "tuple", data := .seq vs.toArray } (.tup (vs.map toV))) := by
  show (if (Value.type "tuple" == Value.type "list") = true then some (HO.frz { cls := .type "tuple", data := .seq vs.toArray } (.lst (vs.toArray.toList.map toV))) else some (HO.frz { cls := .type "tuple", data := .seq vs.toArray } (.tup (vs.toArray.toList.map toV)))) = _
  rw [if_neg (by decide)]
section
variable {P : Program} {w : World} {K : PySem.W.Frag} {h : Heap} {A : List Addr}
theorem argH_at {b : Addr} {o : Obj} (hb : b ∈ A) (hk : K.lookup b = none) (e : h.get? b = some o) : argH K h A b = hoOf o := by
  unfold argH
  rw [if_pos hb, hk, if_pos (show (none : Option Obj).isNone = true from rfl), e] <;> rfl
theorem of_argH {b : Addr} {u : HO} (q : argH K h A b = some u) : b ∈ A ∧ K.lookup b = none := by
  unfold argH at q
  by_cases hb : b ∈ A
  · rw [if_pos hb] at q
    cases hk : K.lookup b with
    | none => exact ⟨hb, rfl⟩
    | some o =>
      rw [hk, if_neg (by simp)] at q
      cases q
  · rw [if_neg hb] at q
    cases q
/-- what stands tracked -/
theorem argH_is (ar : ∀ a ∈ A, ArgOb h A a) {b : Addr} {u : HO} (q : argH K h A b = some u) : K.lookup b = none ∧ ∃ vs : List Value, vs.length ≤ sizeLine ∧ (∀ u ∈ vs, OkU A u) ∧
    ((h.get? b = some { cls := .type "list", data := .seq vs.toArray } ∧ u = .frz { cls := .type "list", data := .seq vs.toArray } (.lst (vs.map toV))) ∨
     (h.get? b = some { cls := .type "tuple", data := .seq vs.toArray } ∧ u = .frz { cls := .type "tuple", data := .seq vs.toArray } (.tup (vs.map toV)))) := by
  obtain ⟨hb, hk⟩ := of_argH q
  obtain ⟨vs, h1, h2, h3⟩ := ar b hb
  refine ⟨hk, vs, h1, h2, ?_⟩
  rcases h3 with e | e
  · rw [argH_at hb hk e, hoOf_lst] at q
    exact .inl ⟨e, (Option.some.inj q).symm⟩
  · rw [argH_at hb hk e, hoOf_tup] at q
    exact .inr ⟨e, (Option.some.inj q).symm⟩
theorem argH_only (ar : ∀ a ∈ A, ArgOb h A a) : OnlyF (argH K h A) := fun b => by
  cases q : argH K h A b with
  | none => exact .inl rfl
  | some u =>
    obtain ⟨_, vs, _, _, ⟨_, e⟩ | ⟨_, e⟩⟩ := argH_is ar q
    · exact .inr ⟨_, _, by rw [e]⟩
    · exact .inr ⟨_, _, by rw [e]⟩
theorem argH_ok (ar : ∀ a ∈ A, ArgOb h A a) : HOk P w (argH K h A) h := fun b u q => by
  obtain ⟨_, vs, h1, h2, ⟨e, rfl⟩ | ⟨e, rfl⟩⟩ := argH_is ar q
  · exact ⟨e, by rw [List.length_map]; exact h1, vs, _, vals_toV h2, e⟩
  · exact ⟨e, by rw [List.length_map]; exact h1, vs, vals_toV h2, _, e, rfl, _, rfl⟩
theorem seq_inj {c c' : Value} {vs us : List Value} (e : (some { cls := c, data := .seq vs.toArray } : Option Obj) = some { cls := c', data := .seq us.toArray }) : c = c' ∧ vs = us := by
  have e1 := Option.some.inj e
  have e2 : c = c' := congrArg Obj.cls e1
  have e3 : Data.seq vs.toArray = Data.seq us.toArray := congrArg Obj.data e1
  injection e3 with e4
  refine ⟨e2, ?_⟩
  have e5 := congrArg Array.toList e4
  simpa using e5
/-- a list argument -/
theorem argL (KX : K.In h) (ar : ∀ a ∈ A, ArgOb h A a) {a : Addr} {vs : List Value} (ha : a ∈ A) (e : h.get? a = some { cls := .type "list", data := .seq vs.toArray }) : (∀ u ∈ vs, OkU A u) ∧ SqL K (argH K h A) a (vs.map toV) := by
  obtain ⟨us, h1, h2, h3⟩ := ar a ha
  have hu : us = vs := by
    rcases h3 with q | q
    · rw [e] at q
      exact (seq_inj q).2.symm
    · rw [e] at q
      exact absurd (Value.type.inj (seq_inj q).1) (by decide)
  subst hu
  refine ⟨h2, ?_⟩
  cases hk : K.lookup a with
  | none => exact .inl (.inr ⟨_, by rw [argH_at ha hk e, hoOf_lst]⟩)
  | some o =>
    have e2 := KX a o hk
    rw [e] at e2
    obtain rfl := Option.some.inj e2
    exact .inr ⟨_, us.toArray, _, hk, rfl, rfl, rfl, by rw [List.size_toArray]; exact h1, by simpa using vals_toV h2⟩
theorem argT (KX : K.In h) (ar : ∀ a ∈ A, ArgOb h A a) {a : Addr} {vs : List Value} (ha : a ∈ A) (e : h.get? a = some { cls := .type "tuple", data := .seq vs.toArray }) : (∀ u ∈ vs, OkU A u) ∧ SqT K (argH K h A) a (vs.map toV) := by
  obtain ⟨us, h1, h2, h3⟩ := ar a ha
  have hu : us = vs := by
    rcases h3 with q | q
    · rw [e] at q
      exact absurd (Value.type.inj (seq_inj q).1) (by decide)
    · rw [e] at q
      exact (seq_inj q).2.symm
  subst hu
  refine ⟨h2, ?_⟩
  cases hk : K.lookup a with
  | none => exact .inl (.inr ⟨_, by rw [argH_at ha hk e, hoOf_tup]⟩)
  | some o =>
    have e2 := KX a o hk
    rw [e] at e2
    obtain rfl := Option.some.inj e2
    exact .inr ⟨_, us.toArray, _, hk, rfl, rfl, by rw [List.size_toArray]; exact h1, by simpa using vals_toV h2⟩
mutual
theorem dw_one {Pm : Params} (KX : K.In h) (ar : ∀ a ∈ A, ArgOb h A a) : ∀ (d : WData) (v : Value), Well Pm h v d → plW d = true → OkU A v → Dw K (argH K h A) (toV v) d
  | .none, _, x, _, _ => by
    cases x
    exact .non
  | .bool b, _, x, _, _ => by
    cases x
    exact .bl b
  | .int i, _, x, _, _ => by
    cases x
    exact .int i
  | .str s, _, x, _, _ => by
    cases x
    exact .str s
  | .bytes b, _, x, _, _ => by
    cases x
    have z := Dw.byt (K := K) (H := argH K h A) b.toArray
    exact z
  | .list ds, _, x, p, hu => by
    obtain ⟨a, vs, rfl, ho, hall⟩ := well_list x
    obtain ⟨h2, hs⟩ := argL KX ar hu ho
    exact .lst hs (dw_all KX ar ds _ hall p h2)
  | .tuple ds, _, x, p, hu => by
    obtain ⟨a, vs, rfl, ho, hall⟩ := well_tuple x
    obtain ⟨h2, hs⟩ := argT KX ar hu ho
    exact .tup hs (dw_all KX ar ds _ hall p h2)
  | .float _, _, _, p, _ => Bool.noConfusion (show false = true from p)
  | .dict _, _, _, p, _ => Bool.noConfusion (show false = true from p)
  | .bytearray _, _, _, p, _ => Bool.noConfusion (show false = true from p)
  | .set _, _, _, p, _ => Bool.noConfusion (show false = true from p)
  | .frozenset _, _, _, p, _ => Bool.noConfusion (show false = true from p)
  | .obj _ _, _, _, p, _ => Bool.noConfusion (show false = true from p)
theorem dw_all {Pm : Params} (KX : K.In h) (ar : ∀ a ∈ A, ArgOb h A a) : ∀ (ds : List WData) (vs : List Value), WellAll Pm h vs ds → plWs ds = true → (∀ u ∈ vs, OkU A u) → DwAll K (argH K h A) (vs.map toV) ds
  | [], _, x, _, _ => by
    cases x
    exact .nil
  | d :: ds, _, x, p, hu => by
    obtain ⟨v, vs, rfl, x1, x2⟩ := well_cons x
    have q : plW d = true ∧ plWs ds = true := Bool.and_eq_true_iff.mp p
    exact .cons (dw_one KX ar d v x1 q.1 (hu _ (List.mem_cons_self ..))) (dw_all KX ar ds vs x2 q.2 fun u m => hu u (List.mem_cons_of_mem _ m))
end
end
/-! ### the call -/
theorem spec_call {P : Program} {w : World} {K : PySem.W.Frag} {mg mb : Str → Option Value} {CX : CXT} {k : Nat} {fa : Addr} {fd : FuncData} {ps : List Str} {sp : Sp} {s₁ : Shared} {vals : List Value} {ds : List WData} {R : PySem.W.WRecords} {cl : Str → Option Addr} {d0 : WData}
    (KX : K.In s₁.heap) (hns : s₁.heap.Ns mainGlobals mg) (hb : s₁.heap.Ns builtinsNs mb) (hbb : ∀ x : Str, x ≠ "__name__" → mb x = bootBuiltins x) (hlim : s₁.heap.NoLimit) (hg : s₁.gens = #[])
    (hwl : WellAll w.params s₁.heap vals ds) (hpl : plWs ds = true) (hwt : ∀ d ∈ ds, d.weight ≤ 1048576) (hr : Room k callerA)
    (F : ∀ base : Heap, K.In base → base.Ns mainGlobals mg → FnOk P w K mg base CX k fa fd ps sp) (hbind : ∀ (s : Shared) (us : List Value), us.length = ps.length → BindsTo s fd ⟨us, []⟩ (ps.zip us)) (hlen : ds.length = ps.length)
    (hsp : ∀ (H : Hp) (xs : List V), OnlyF H → DwAll K H xs ds → sp xs H (fun v H' => Dw K H' v d0) fun _ _ _ => False)
    (hCX : ∀ H e s', CX [] H s₁ (fun _ _ _ => False) e s' → False) :
    codeAny (model P w) callerA (.call (.ref fa) ⟨vals, []⟩) (fun r s' => ∃ u as, r = .ok (.ret u) ∧ ReadsW R cl s'.heap u d0 as ∧ OldK s₁.heap s'.heap ∧ s'.os = s₁.os ∧ AllBare s'.gens) s₁ := by
  obtain ⟨A, ho, ar⟩ := area_all ds vals hwl hpl hwt
  have hO : OnlyF (argH K s₁.heap A) := argH_only ar
  have hok : HOk P w (argH K s₁.heap A) s₁.heap := argH_ok ar
  have hS := dw_all KX ar ds vals hwl hpl ho
  have hV := vals_toV ho
  have hK : ∀ b u, argH K s₁.heap A b = some u → K.lookup b = none := fun b u q => (argH_is ar q).1
  have noA : ∀ {b : Addr} {o : Obj} {es : Array DictEntry} {ep : Nat}, s₁.heap.get? b = some o → o.data = .dict es ep → argH K s₁.heap A b = none := fun {b o es ep} e d => by
    cases q : argH K s₁.heap A b with
    | none => rfl
    | some u =>
      obtain ⟨_, vs, _, _, ⟨e2, _⟩ | ⟨e2, _⟩⟩ := argH_is ar q
      · rw [e2] at e
        cases e
        have d' : Data.seq vs.toArray _ = Data.dict es ep := d
        cases d'
      · rw [e2] at e
        cases e
        have d' : Data.seq vs.toArray _ = Data.dict es ep := d
        cases d'
  generalize argH K s₁.heap A = H at hO hok hS hK noA
  have base_of : ∀ {b : Addr} {o : Obj}, s₁.heap.get? b = some o → H b = none → (hidT s₁.heap H).get? b = some o := fun e n => hidT_get e n
  have nsK : ∀ {b : Addr} {m : Str → Option Value}, s₁.heap.Ns b m → (hidT s₁.heap H).Ns b m := fun {b m} ⟨o, es, ep, e, d, r⟩ => ⟨o, es, ep, base_of e (noA e d), d, r⟩
  have nK : ∀ b o, K.lookup b = some o → H b = none := fun b o e => by
    cases q : H b with
    | none => rfl
    | some u =>
      rw [hK b u q] at e
      cases e
  have hKb : K.In (hidT s₁.heap H) := fun b o e => base_of (KX b o e) (nK b o e)
  have hM : Mod K mg (hidT s₁.heap H) := ⟨hKb, nsK hns, ⟨mb, nsK hb, hbb⟩, let ⟨mc, h1, h2⟩ := hlim; ⟨mc, nsK h1, h2⟩⟩
  have e0 : Env0 P w K mg (hidT s₁.heap H) callerA [] s₁ H := ⟨rfl, hM, fun b o e => of_hidT e, Nat.le_of_eq (hidT_size _ _), trivial, fun b hb => absurd (show b ∈ ([] : List Addr) from hb) (by simp), hok, .of_eq hg⟩
  have hl : vals.length = ps.length := by rw [wellAll_len hwl]; exact hlen
  refine codeAny_mono ((F _ hKb (nsK hns)).run callerA [] s₁ H ⟨vals, []⟩ vals (vals.map toV) _ _ hr e0 (hbind s₁ vals hl) hV (hsp H _ hO hS)) fun r s' x => ?_
  cases r with
  | error e => exact (hCX H e s' x).elim
  | ok fl =>
    cases fl with
    | next => exact False.elim x
    | brk => exact False.elim x
    | cont => exact False.elim x
    | ret u =>
      obtain ⟨v, H', os, bare, un, hok', r', q⟩ := x
      have kept : ∀ b o, s₁.heap.get? b = some o → s'.heap.get? b = some o := fun b o e => by
        cases q2 : H b with
        | none => exact un.keep b o e q2 (by intro z; exact absurd (show b ∈ ([] : List Addr) from z) (by simp)) (by simp)
        | some u2 =>
          rcases hO b with z | ⟨ob, u3, z⟩
          · rw [q2] at z
            cases z
          · have z2 := un.frzs b ob _ z
            obtain ⟨e1, _⟩ := hok b _ z
            obtain ⟨e2, _⟩ := hok' b _ z2
            rw [e] at e1
            cases e1
            exact e2
      have KX' : K.In s'.heap := fun b o e => kept b o (KX b o e)
      obtain ⟨as, hrd⟩ := Dw.reads (R := R) (cl := cl) hok' KX' d0 v u q r'
      exact ⟨u, as, rfl, hrd, OldK.of_keep kept, os, bare⟩
/-! ### the row -/
theorem layable_weight {ds : List WData} (h : WData.layableAll ds = true) : ∀ d ∈ ds, d.weight ≤ 1048576 := fun d hd =>
  (PySem.W.layableW_iff.mp (List.all_eq_true.mp h d hd)).2.2
theorem encAll_len : ∀ (cs : List Codec) (a : Codec.denoteAll cs), (Codec.encAll cs a).length = cs.length
  | [], _ => rfl
  | c :: cs, a => by
    show (Codec.encAll cs a.2).length + 1 = cs.length + 1
    rw [encAll_len cs a.2]
/-- the goal that k_headS leaves (case hc), from the promise of the row's def: whatever the arguments that the codecs let and the row asks for, the def gives what stands for enc (f ..) -/
theorem walk_spec {r : OpenSpec} {k : Nat} {q : Program} {loose : List Str} {XP : (Str → Option Value) → Heap → Prop} {YP : World → Heap → Prop} {d : DefRec} {K : Params → PySem.W.Frag} {CX : World → CXT} {ps : List Str} {sp : World → Sp}
    (hwell : r.wellSaid = true) (hdf : d.params.defaults = []) (hlen : r.args.length = ps.length) (hr : Room k callerA)
    (hY : ∀ (w : World) (h : Heap), YP w h → (K w.params).In h)
    (F : ∀ (w : World) (mg : Str → Option Value) (fa : Addr) (h : Heap), YP w h → (K w.params).In h → h.Ns mainGlobals mg → mg d.name = some (.ref fa) →
      ∃ fd : FuncData, (∀ (s : Shared) (us : List Value), us.length = ps.length → BindsTo s fd ⟨us, []⟩ (ps.zip us)) ∧
        ∀ base : Heap, (K w.params).In base → base.Ns mainGlobals mg → FnOk r.prog w (K w.params) mg base (CX w) k fa fd ps (sp w))
    (hsp : ∀ (w : World) (H : Hp) (xs : List V) (a : Codec.denoteAll r.args), OnlyF H → Codec.withinAll r.args a = true → Codec.app r.args r.asked a = true → DwAll (K w.params) H xs (Codec.encAll r.args a) →
      sp w xs H (fun v H' => Dw (K w.params) H' v (r.ret.enc (Codec.app r.args r.f a))) fun _ _ _ => False)
    (hCX : ∀ (w : World) (H : Hp) (s : Shared) (e : Value) (s' : Shared), CX w [] H s (fun _ _ _ => False) e s' → False) :
    PySem.W.WalkOS q loose XP YP r d [] (fun f vs => PySem.call f vs) := by
  intro w s_0 s₁ mg mb G Y fa o pm cd doc dV kV ho hd hcd hD hmg hg args vals as hpre hlay hrd hwl hlo
  obtain ⟨a, e1, e2⟩ := PySem.W.os_pre_some hpre
  obtain ⟨e3, hwi⟩ := Codec.encAll_of_decAll r.args args a e1
  subst e3
  have KX := hY w _ Y
  obtain ⟨fd, hb, hF⟩ := F w mg fa _ Y KX G.T.g hmg
  refine PySem.W.enter_call (codeAny_mono (spec_call (R := []) (cl := classAt s_0.heap) (d0 := r.ret.enc (Codec.app r.args r.f a)) KX G.T.g G.T.b G.T.builtins G.T.nolimit hg hwl (pl_encAll _ _) (layable_weight hlay) hr hF hb (by rw [encAll_len]; exact hlen)
    (fun H xs hO hS => hsp w H xs a hO hwi e2 hS) fun H e s' => hCX w H s₁ e s') fun r' s' hq => ?_)
  obtain ⟨u, as', rfl, h1, h2, h3, h4⟩ := hq
  exact ⟨.inl ⟨u, _, as', rfl, fun _ => rfl, h1, (OpenSpec.post_iff hwell hwi _ _).mpr rfl, fun z => Bool.noConfusion (show false = true from z)⟩, h2, h3, h4⟩
/-- the same where the promise hangs on the written part alone -/
theorem walk_specK {r : OpenSpec} {k : Nat} {q : Program} {loose : List Str} {XP : (Str → Option Value) → Heap → Prop} {YP : World → Heap → Prop} {d : DefRec} {K : Params → PySem.W.Frag} {CX : CXT} {ps : List Str} {sp : PySem.W.Frag → Sp}
    (hwell : r.wellSaid = true) (hdf : d.params.defaults = []) (hlen : r.args.length = ps.length) (hr : Room k callerA)
    (hY : ∀ (w : World) (h : Heap), YP w h → (K w.params).In h)
    (F : ∀ (w : World) (mg : Str → Option Value) (fa : Addr) (h : Heap), YP w h → (K w.params).In h → h.Ns mainGlobals mg → mg d.name = some (.ref fa) →
      ∃ fd : FuncData, (∀ (s : Shared) (us : List Value), us.length = ps.length → BindsTo s fd ⟨us, []⟩ (ps.zip us)) ∧
        ∀ base : Heap, (K w.params).In base → base.Ns mainGlobals mg → FnOk r.prog w (K w.params) mg base CX k fa fd ps (sp (K w.params)))
    (hsp : ∀ (K : PySem.W.Frag) (H : Hp) (xs : List V) (a : Codec.denoteAll r.args), OnlyF H → Codec.withinAll r.args a = true → Codec.app r.args r.asked a = true → DwAll K H xs (Codec.encAll r.args a) →
      sp K xs H (fun v H' => Dw K H' v (r.ret.enc (Codec.app r.args r.f a))) fun _ _ _ => False)
    (hCX : ∀ (H : Hp) (s : Shared) (e : Value) (s' : Shared), CX [] H s (fun _ _ _ => False) e s' → False) :
    PySem.W.WalkOS q loose XP YP r d [] (fun f vs => PySem.call f vs) :=
  walk_spec (K := K) (CX := fun _ => CX) (sp := fun w => sp (K w.params)) hwell hdf hlen hr hY F (fun w H xs a h1 h2 h3 h4 => hsp (K w.params) H xs a h1 h2 h3 h4) fun _ H s e s' => hCX H s e s'
end L2
end
set_option Elab.async false
set_option linter.all false
set_option maxRecDepth 100000
set_option maxHeartbeats 2000000
/-! ### rules that the layer lacks -/
namespace L2
open PySem PySem.Spec PyProof.Rows
section
variable {X : Cx}
/-- o[i] of a list, for o[i] op= e -/
theorem get_list : PGet X (fun o i H Q => ∃ p xs k v, o = .ref p ∧ i = .int k ∧ SqL X.K H p xs ∧ 0 ≤ k ∧ xs[k.toNat]? = some v ∧ Q v H) := by
  intro pins s σ H o i ov iv Q I ro ri h
  obtain ⟨p, xs, k, v, rfl, rfl, hq, h0, hv, q⟩ := h
  cases ro
  obtain ⟨t, rfl⟩ := ri
  obtain ⟨its, r, pl, hz⟩ := I.list hq
  obtain ⟨u, eu, ru⟩ := r.get hv
  have hlt := (List.getElem?_eq_some_iff.mp hv).1
  have hn := line63
  exact wpAny_getItem_list pl.isList h0 (by omega) (by simpa using eu) ⟨v, H, I, ru, q⟩
theorem ip_mul : PIp X .Mult (fun x y H Q => ∃ i j, x = .int i ∧ y = .int j ∧ CMul i j ∧ Q (.int (i * j)) H) := by
  intro pins s σ H x y v u Q I r1 r2 h
  obtain ⟨i, j, e1, e2, hc, q⟩ := h
  subst e1; subst e2
  obtain ⟨t, rfl⟩ := r1
  obtain ⟨t', rfl⟩ := r2
  exact PyProof.Rows.imul_int ⟨.int _, H, I.tok _, ⟨_, rfl⟩, q⟩ hc.ok
theorem ints_flat (ns : List Int) : (ns.map V.int).all flatV = true := by
  induction ns with
  | nil => rfl
  | cons n ns ih => rw [List.map_cons, List.all_cons, ih]; rfl
theorem count_eqU (k : Int) : ∀ (ns : List Int) (us : List Value), Vals (ns.map V.int) us → us.countP (eqU (.int k)) = ns.count k
  | [], _, r => by cases r; rfl
  | n :: ns, _, r => by
    cases r with
    | cons r1 r2 =>
      obtain ⟨t, rfl⟩ := r1
      rw [List.countP_cons, List.count_cons, count_eqU k ns _ r2]
      rfl
/-- xs.count(k) of ints -/
def rCount (K : PySem.W.Frag) : V → List V → Hp → VK → Prop := fun x xs H Q => ∃ (a : Addr) (ns : List Int) (k : Int), x = .ref a ∧ xs = [.int k] ∧ SqL K H a (ns.map V.int) ∧ Q (.int (ns.count k : Nat)) H
theorem mt_countL : MtR X "list.count" (rCount X.K) := by
  intro pins s σ H x xs v us Q I rx rxs h
  obtain ⟨a, ns, k, rfl, rfl, hs, q⟩ := h
  cases rx
  cases rxs with
  | cons ry rt =>
    cases rt
    obtain ⟨its, rv, ⟨⟨cls, dd, data, sl⟩, n, ho, hc, hdn, hd⟩, hlen⟩ := I.list hs
    simp only at hc hd
    subst hc hd
    have hy : RelV (.int k) _ := ry
    refine call_meets PySem.F.slot_list_count ⟨_, ho, rfl⟩ PySem.F.entry_list_count (PySem.F.args_list_count_2 _ _)
      (SeqAt.list_countAt a its.toArray n dd sl _ (eqU (.int k))) ⟨ho, fun u' hu' => mem_eqAt hy rfl rv (ints_flat ns) u' (by simpa using hu'), ?_⟩
    refine ⟨.int (ns.count k : Nat), H, I.tok _, ⟨s.toks, ?_⟩, q⟩
    have e : its.toArray.toList = its := rfl
    rw [e, count_eqU k ns its rv]
/-- xs.remove(k) of ints -/
theorem erase_idx (k : Int) : ∀ (ns : List Int), k ∈ ns → ∃ j, ns[j]? = some k ∧ (∀ m, m < j → ns[m]? ≠ some k) ∧ ns.erase k = ns.eraseIdx j
  | [], h => by cases h
  | n :: ns, h => by
    by_cases e : n = k
    · subst e
      exact ⟨0, rfl, fun m hm => by omega, by simp⟩
    · have h' : k ∈ ns := by
        rcases List.mem_cons.mp h with q | q
        · exact absurd q.symm e
        · exact q
      obtain ⟨j, h1, h2, h3⟩ := erase_idx k ns h'
      refine ⟨j + 1, h1, fun m hm => ?_, ?_⟩
      · cases m with
        | zero => simpa using e
        | succ m => simpa using h2 m (by omega)
      · rw [List.erase_cons_tail (by simpa using e), h3]
        rfl
theorem er_map {α β : Type} (f : α → β) : ∀ (l : List α) (j : Nat), (l.map f).eraseIdx j = (l.eraseIdx j).map f
  | [], _ => rfl
  | _ :: _, 0 => rfl
  | a :: l, j + 1 => by
    show f a :: (l.map f).eraseIdx j = f a :: (l.eraseIdx j).map f
    rw [er_map f l j]
def rRemove : V → List V → Hp → VK → Prop := fun x vs H Q => ∃ (l : Addr) (ns : List Int) (k : Int), x = .ref l ∧ vs = [.int k] ∧ H l = some (.lst (ns.map V.int)) ∧ k ∈ ns ∧ Q .non (upd H l (.lst ((ns.erase k).map V.int)))
theorem ints_at {ns : List Int} {us : List Value} (r : Vals (ns.map V.int) us) : ∀ y ∈ us, ∃ i t, y = Value.int i t := by
  intro y hy
  obtain ⟨j, hj, e⟩ := List.getElem_of_mem hy
  have hl := r.length
  rw [List.length_map] at hl
  have h1 : (ns.map V.int)[j]? = some (V.int (ns[j]'(by omega))) := by simp
  obtain ⟨u, hu, t, rfl⟩ := r.get h1
  rw [List.getElem?_eq_getElem hj, e] at hu
  exact ⟨_, t, Option.some.inj hu⟩
theorem mt_remove : MtM X "list.remove" rRemove := by
  intro pins s σ H x vs v us Q I rx rv h
  obtain ⟨l, ns, k, rfl, rfl, hH, hk, q⟩ := h
  cases rx
  obtain ⟨u, rfl, ru⟩ := rv.one
  obtain ⟨t, rfl⟩ := ru
  obtain ⟨z, its, n, r, hl, e⟩ := I.lstM hH
  obtain ⟨j, h1, h2, h3⟩ := erase_idx k ns hk
  have hl' : ns.length = its.length := by rw [← hl, List.length_map]
  have hj : j < ns.length := (List.getElem?_eq_some_iff.mp h1).1
  have at_ : ∀ m (hm : m < its.length), ∃ t', its[m] = Value.int (ns[m]'(by omega)) t' := fun m hm => by
    have q1 : (ns.map V.int)[m]? = some (V.int (ns[m]'(by omega))) := by simp
    obtain ⟨u, hu, t', rfl⟩ := r.get q1
    rw [List.getElem?_eq_getElem hm] at hu
    exact ⟨t', Option.some.inj hu⟩
  refine call_meets F.slot_list_remove ⟨_, e, rfl⟩ F.entry_list_remove (F.args_list_remove_2 _ _)
    (MeetsSeq.list_remove l its.toArray n (.int k t) (eqU (.int k)) (fun y hy => ?_) j (by rw [List.size_toArray]; omega) ?_ (fun m hm hlt => ?_) (by rw [List.size_toArray]; omega)) ⟨e, ?_⟩
  · obtain ⟨i, t', rfl⟩ := ints_at r y (by simpa using hy)
    exact PySem.MeetsSeq.EqGives.int i k t' t
  · obtain ⟨t', e1⟩ := at_ j (by omega)
    have e2 : its.toArray[j]'(by rw [List.size_toArray]; omega) = Value.int (ns[j]) t' := by simpa using e1
    rw [e2]
    have e3 : ns[j] = k := (List.getElem?_eq_some_iff.mp h1).2
    show (ns[j] == k) = true
    rw [e3]; simp
  · have hm' : m < its.length := by simpa using hm
    obtain ⟨t', e1⟩ := at_ m hm'
    have e2 : its.toArray[m] = Value.int (ns[m]'(by omega)) t' := by simpa using e1
    rw [e2]
    show (ns[m]'(by omega) == k) = false
    have := h2 m hlt
    rw [List.getElem?_eq_getElem (by omega)] at this
    simpa using this
  · refine ⟨.non, _, I.lset (its' := its.eraseIdx j) hH e ?_ ?_ ?_, rfl, q⟩
    · show its.toArray.eraseIdxIfInBounds j = (its.eraseIdx j).toArray
      rw [List.eraseIdxIfInBounds_toArray]
    · rw [h3]
      have := r.eraseIdx j
      rw [er_map] at this
      exact this
    · have := len_erase ns j
      rw [List.length_map] at z ⊢
      rw [h3]; omega
/-- any(xs) of ints -/
theorem truth_ints {prog : Program} {w : World} {A : Around} {ns : List Int} {its : List Value} (r : Vals (ns.map V.int) its) :
    TruthOf prog w A (fun i v => its.toArray[i]? = some v) (fun i => ns.getD i 0 != 0) := fun i v s Q E hv hq => by
  have hv' : its[i]? = some v := by simpa using hv
  have hi : i < its.length := (List.getElem?_eq_some_iff.mp hv').1
  have hl := r.length
  rw [List.length_map] at hl
  have q1 : (ns.map V.int)[i]? = some (V.int (ns[i]'(by omega))) := by simp
  obtain ⟨u, hu, t', rfl⟩ := r.get q1
  rw [hv'] at hu
  cases hu
  have hg : ns.getD i 0 = ns[i]'(by omega) := by rw [List.getD_eq_getElem?_getD, List.getElem?_eq_getElem (by omega)]; rfl
  have hq' : Q (ns.getD i 0 != 0) s := hq
  rw [hg] at hq'
  exact PyProof.Rows.truthy_int hq'
theorem any_rangeI : ∀ ns : List Int, (List.range ns.length).any (fun i => ns.getD i 0 != 0) = ns.any fun x => decide (x ≠ 0)
  | [] => rfl
  | n :: ns => by
    rw [List.length_cons, List.range_succ_eq_map, List.any_cons, List.any_map, List.any_cons, ← any_rangeI ns]
    have e : (n != 0) = decide (n ≠ 0) := by
      by_cases h : n = 0
      · subst h; rfl
      · simp [h]
    have e1 : ((n :: ns).getD 0 0 != 0) = decide (n ≠ 0) := e
    rw [e1]
    rfl
def rAnyI (K : PySem.W.Frag) : List V → Hp → VK → Prop := fun vs H Q => ∃ (a : Addr) (ns : List Int), vs = [V.ref a] ∧ SqL K H a (ns.map V.int) ∧ Q (.bl (ns.any fun x => decide (x ≠ 0))) H
theorem cr_anyI (hc : X.calm = true) : CallR X (.builtin "any") (rAnyI X.K) := by
  intro pins s σ H vs us Q I r h
  obtain ⟨a, ns, rfl, hs, q⟩ := h
  obtain ⟨its, rv, hl, _⟩ := I.list hs
  rw [Vals.ref1 r]
  have hlen := rv.length
  rw [List.length_map] at hlen
  refine call_any_walk (iter_any hl.isList fun s₂ e2 st hne => ?_)
  subst e2
  refine ⟨_, _, _, _, _, _, _, rfl, Walks.list (A := X.A.in1) (I.ok.hd hc) _ a hne its.toArray, st, truth_ints rv, fun h' tk hk => ?_⟩
  refine ⟨.bl _, H, I.kept fun b o eo => hk b o (fun hmem => ?_) (Heap.get?_push_of_some _ eo), ?_, q⟩
  · rcases List.mem_cons.mp hmem with e1 | hmem
    · exact absurd (e1 ▸ Heap.lt_size eo) (Nat.lt_irrefl _)
    · cases hmem
  · show Value.bool _ = Value.bool _
    rw [← any_rangeI, List.size_toArray, hlen]
/-- x not in a list of tuples of ints -/
def Tups (K : PySem.W.Frag) (H : Hp) (ps : List Addr) (ws : List (List Int)) : Prop := Paired (fun p w => SqT K H p (w.map V.int)) ps ws
theorem all_range2 : ∀ (u v : List Int), ((List.range (min u.length v.length)).all (fun i => u.getD i 0 == v.getD i 0) && u.length == v.length) = decide (u = v)
  | [], [] => rfl
  | [], b :: v => by simp
  | a :: u, [] => by simp
  | a :: u, b :: v => by
    have ih := all_range2 u v
    rw [List.length_cons, List.length_cons, Nat.add_min_add_right, List.range_succ_eq_map, List.all_cons, List.all_map]
    have e0 : ((a :: u).getD 0 0 == (b :: v).getD 0 0) = decide (a = b) := by
      show (a == b) = _
      by_cases h : a = b
      · subst h; simp
      · simp [h]
    have e1 : (u.length + 1 == v.length + 1) = (u.length == v.length) := by simp
    rw [e0, e1, Bool.and_assoc]
    have e2 : ((List.range (min u.length v.length)).all ((fun i => (a :: u).getD i 0 == (b :: v).getD i 0) ∘ Nat.succ) && u.length == v.length) = decide (u = v) := ih
    rw [e2]
    by_cases h : a = b <;> by_cases h' : u = v <;> simp [h, h']
theorem pair_at {α β : Type} {F : α → β → Prop} : ∀ {l : List α} {m : List β}, Paired F l m → ∀ x ∈ l, ∃ y ∈ m, F x y
  | _, _, .nil, x, h => by cases h
  | _, _, .cons r t, x, h => by
    rcases List.mem_cons.mp h with e | h
    · subst e; exact ⟨_, by simp, r⟩
    · obtain ⟨y, hy, q⟩ := pair_at t x h
      exact ⟨y, List.mem_cons_of_mem _ hy, q⟩
theorem eqAt_tups {pins : List (Addr × Obj)} {s : Shared} {σ : St} {H : Hp} {A : Around} {q a : Addr} {w' w : List Int} (I : Inv X pins σ H s) (hu : A.units < cLine) (h1 : SqT X.K H q (w'.map V.int)) (h2 : SqT X.K H a (w.map V.int)) :
    SeqAt.EqAt A s (.ref q) (.ref a) (decide (w' = w)) := by
  by_cases e : q = a
  · subst e
    have e1 := I.tuple_inj h1 h2
    have e2 : w' = w := by
      have := congrArg (List.map fun v => match v with | V.int i => i | _ => 0) e1
      simpa [List.map_map, Function.comp_def] using this
    rw [decide_eq_true e2]
    exact SeqAt.EqAt.same _
  · obtain ⟨its, r, p, hz⟩ := I.tuple h1
    obtain ⟨its2, r2, p2, hz2⟩ := I.tuple h2
    have l1 := r.length
    have l2 := r2.length
    rw [List.length_map] at l1 l2
    have key := SeqAt.RcAt.tuples (A := A) (s := s) (e := fun i => w'.getD i 0 == w.getD i 0) (show s.heap.IsTuple q its.toArray from p) (show s.heap.IsTuple a its2.toArray from p2) hu (fun j k1 k2 => ?_)
    · have e3 : ((List.range (min its.toArray.size its2.toArray.size)).all (fun i => w'.getD i 0 == w.getD i 0) && its.toArray.size == its2.toArray.size) = decide (w' = w) := by
        rw [List.size_toArray, List.size_toArray, ← l1, ← l2]
        exact all_range2 w' w
      rw [e3] at key
      exact SeqAt.EqAt.of_refs e key
    · have k1' : j < its.length := by simpa using k1
      have k2' : j < its2.length := by simpa using k2
      have q1 : (w'.map V.int)[j]? = some (V.int (w'[j]'(by omega))) := by simp
      have q2 : (w.map V.int)[j]? = some (V.int (w[j]'(by omega))) := by simp
      obtain ⟨u1, hu1, t1, rfl⟩ := r.get q1
      obtain ⟨u2, hu2, t2, rfl⟩ := r2.get q2
      have f1 : its.toArray[j] = Value.int (w'[j]'(by omega)) t1 := by
        rw [List.getElem?_eq_getElem k1'] at hu1
        simpa using Option.some.inj hu1
      have f2 : its2.toArray[j] = Value.int (w[j]'(by omega)) t2 := by
        rw [List.getElem?_eq_getElem k2'] at hu2
        simpa using Option.some.inj hu2
      have g1 : w'.getD j 0 = w'[j]'(by omega) := by rw [List.getD_eq_getElem?_getD, List.getElem?_eq_getElem (by omega)]; rfl
      have g2 : w.getD j 0 = w[j]'(by omega) := by rw [List.getD_eq_getElem?_getD, List.getElem?_eq_getElem (by omega)]; rfl
      rw [f1, f2]
      show SeqAt.EqAt _ _ _ _ (w'.getD j 0 == w.getD j 0)
      rw [g1, g2]
      exact SeqAt.EqAt.int_int _ _ _ _
def rNotInT (K : PySem.W.Frag) : R2 := fun x y H Q => ∃ (a p : Addr) (ps : List Addr) (w : List Int) (ws : List (List Int)), x = .ref a ∧ y = .ref p ∧ SqT K H a (w.map V.int) ∧ SqL K H p (ps.map V.ref) ∧ Tups K H ps ws ∧ Q (.bl (!ws.contains w)) H
theorem dec_beq (a b : List Int) : decide (a = b) = (b == a) := by
  by_cases h : a = b
  · subst h; simp
  · have h' : ¬ b = a := fun z => h z.symm
    rw [decide_eq_false h]
    exact (beq_eq_false_iff_ne.mpr h').symm
theorem any_tups {K : PySem.W.Frag} {H : Hp} {w : List Int} {e : Value → Bool} (he : ∀ q w', SqT K H q (w'.map V.int) → e (.ref q) = decide (w' = w)) :
    ∀ {ps : List Addr} {ws : List (List Int)} {us : List Value}, Tups K H ps ws → Vals (ps.map V.ref) us → us.any e = ws.contains w
  | _, _, _, .nil, r => by
    have r : Vals [] _ := r
    cases r; rfl
  | _, _, _, .cons h t, r => by
    rw [List.map_cons] at r
    cases r with
    | cons r1 r2 =>
      cases r1
      rw [List.any_cons, any_tups he t r2, he _ _ h, List.contains_cons]
      congr 1
      exact dec_beq _ _
open Classical in
theorem op_notIn_tups (hu : X.A.units + 64 < cLine) : OpR X (compareOp .NotIn) (rNotInT X.K) := by
  intro pins s σ H x y v u Q I rx ry h
  obtain ⟨a, p, ps, w, ws, rfl, rfl, ha, hp, ht, q⟩ := h
  cases rx
  cases ry
  obtain ⟨its, r, pl, hz⟩ := I.list hp
  have he : ∀ q w', SqT X.K H q (w'.map V.int) → decide (∃ q', Value.ref q = .ref q' ∧ SqT X.K H q' (w.map V.int)) = decide (w' = w) := fun b w' hq => by
    apply decide_eq_decide.mpr
    constructor
    · rintro ⟨q', e, h'⟩
      cases e
      have e1 := I.tuple_inj hq h'
      have := congrArg (List.map fun v => match v with | V.int i => i | _ => 0) e1
      simpa [List.map_map, Function.comp_def] using this
    · rintro rfl
      exact ⟨b, rfl, hq⟩
  refine SeqAt.notIn_listAt (fun v : Value => decide (∃ q, v = .ref q ∧ SqT X.K H q (w.map V.int))) pl.isList (fun y hy => ?_) ⟨.bl _, H, I, rfl, ?_⟩
  · have hy' : y ∈ its := by simpa using hy
    obtain ⟨j, hj, e⟩ := List.getElem_of_mem hy'
    have hl := r.length
    rw [List.length_map] at hl
    have q1 : (ps.map V.ref)[j]? = some (V.ref (ps[j]'(by omega))) := by simp
    obtain ⟨u, hu', ru⟩ := r.get q1
    cases ru
    rw [List.getElem?_eq_getElem hj, e] at hu'
    cases hu'
    obtain ⟨w', _, hw'⟩ := pair_at ht (ps[j]'(by omega)) (List.getElem_mem _)
    rw [he _ w' hw']
    exact eqAt_tups I (by show X.A.units + 1 < cLine; omega) hw' ha
  · rw [show its.toArray.any (fun v : Value => decide (∃ q, v = .ref q ∧ SqT X.K H q (w.map V.int))) = its.any (fun v : Value => decide (∃ q, v = .ref q ∧ SqT X.K H q (w.map V.int))) by simp, any_tups he ht r]
    exact q
end
end L2
set_option Elab.async false
set_option linter.all false
set_option maxRecDepth 100000
set_option maxHeartbeats 2000000
namespace L2
open PySem PySem.Spec PyProof.Rows
/-! ### comprehensions and loops that leave all that was tracked as it was -/
theorem take_succ_of {α : Type} : ∀ {l : List α} {i : Nat} {x : α}, l[i]? = some x → l.take (i + 1) = l.take i ++ [x]
  | [], i, x, h => by simp at h
  | a :: l, 0, x, h => by
    have e : a = x := Option.some.inj h
    subst e
    rfl
  | a :: l, i + 1, x, h => by
    have ih := take_succ_of (l := l) (i := i) (x := x) h
    show a :: l.take (i + 1) = a :: l.take i ++ [x]
    rw [ih]
    rfl
def lcOut (p : V → Bool) (f : V → V) (xs : List V) : List V := (xs.filter p).map f
theorem lcOut_snoc {p : V → Bool} {f : V → V} {xs : List V} {i : Nat} {x : V} (h : xs[i]? = some x) : lcOut p f (xs.take (i + 1)) = if p x = true then lcOut p f (xs.take i) ++ [f x] else lcOut p f (xs.take i) := by
  unfold lcOut
  rw [take_succ_of h, List.filter_append]
  by_cases e : p x = true
  · rw [if_pos e, List.filter_cons, if_pos e, List.filter_nil, List.map_append]; rfl
  · rw [if_neg e, List.filter_cons, if_neg e, List.filter_nil, List.append_nil]
theorem lcOut_le (p : V → Bool) (f : V → V) (xs : List V) : (lcOut p f xs).length ≤ xs.length := by
  unfold lcOut
  rw [List.length_map]
  exact List.length_filter_le _ _
/-- over a list -/
theorem lcL {K : PySem.W.Frag} {a : Addr} {xs : List V} {g : TG} {tt : TT} {te : TE} {vs : List Nat} {σ : St} {H1 : Hp} {Q : VK} (p : V → Bool) (f : V → V) (hq : SqL K H1 a xs) (hz : xs.length ≤ sizeLine)
    (hs : ∀ (i : Nat) (x : V) (H : Hp) (Ry : VK) (Rn : Hp → Prop), xs[i]? = some x → Same H1 H → (p x = true → ∀ H4, Same H H4 → Ry (f x) H4) → (p x = false → ∀ H3, Same H H3 → Rn H3) →
      g x (wipe σ vs) H fun σ2 H2 => wipe σ2 vs = wipe σ vs ∧ tt σ2 H2 fun b H3 => if b = true then te σ2 H3 Ry else Rn H3)
    (hd : ∀ D H', H1 D = none → Same H1 H' → H' D = some (.lst (lcOut p f xs)) → Q (.ref D) H') :
    ∀ D, H1 D = none → ∃ W : Nat → Nat → Hp → Prop, (∃ m, W 0 m (upd H1 D (.lst []))) ∧ ∀ i m H, W i m H →
      ((Itl K a).stop i H ∧ Q (.ref D) H) ∨ ((Itl K a).go i H ∧ ∃ Nx : Hp → Prop, (∀ H', Nx H' → ∃ m', m' < m ∧ W (i + 1) m' H') ∧ ∀ x H', (Itl K a).yld i H x H' → g x (wipe σ vs) H' fun σ2 H2 => wipe σ2 vs = wipe σ vs ∧ tt σ2 H2 fun b H3 =>
        if b = true then te σ2 H3 fun y H4 => ∃ acc, H4 D = some (.lst acc) ∧ acc.length < sizeLine ∧ Nx (upd H4 D (.lst (acc ++ [y]))) else Nx H3) := by
  intro D hD
  refine lc_list (xs := xs) (Qd := fun H => Q (.ref D) H) (fun i H => Same H1 H ∧ H D = some (.lst (lcOut p f (xs.take i)))) ⟨fun b o e => by rw [upd_ne (ne_of_none e hD)]; exact e, upd_same⟩ (fun i H _ h => h.1.seq hq) (fun i x H hx h => ?_) (fun H h => ?_)
  · have hlt : i < xs.length := (List.getElem?_eq_some_iff.mp hx).1
    have hal : (lcOut p f (xs.take i)).length < sizeLine := by
      have := lcOut_le p f (xs.take i)
      rw [List.length_take] at this
      omega
    refine hs i x H _ _ hx h.1 (fun hp H4 s4 => ?_) (fun hp H3 s3 => ?_)
    · refine ⟨_, s4 _ _ h.2, hal, fun b o e => ?_, ?_⟩
      · rw [upd_ne (ne_of_none e hD)]
        exact s4 _ _ (h.1 b o e)
      · rw [upd_same, lcOut_snoc hx, if_pos hp]
    · refine ⟨fun b o e => s3 _ _ (h.1 b o e), ?_⟩
      rw [lcOut_snoc hx, if_neg (by simp [hp])]
      exact s3 _ _ h.2
  · rw [List.take_length] at h
    exact hd D H hD h.1 h.2
/-- the ints of a range -/
def rngV (lo : Int) (n : Nat) : List V := (List.range n).map fun (i : Nat) => V.int (lo + i)
theorem rngV_at {lo : Int} {n i : Nat} (h : i < n) : (rngV lo n)[i]? = some (V.int (lo + i)) := by
  unfold rngV
  rw [List.getElem?_map, List.getElem?_range h]; rfl
theorem rngV_len (lo : Int) (n : Nat) : (rngV lo n).length = n := by unfold rngV; simp
/-- over a range -/
theorem lcR {lo : Int} {n : Nat} {g : TG} {tt : TT} {te : TE} {vs : List Nat} {σ : St} {H1 : Hp} {Q : VK} (p : V → Bool) (f : V → V) (hz : n ≤ sizeLine)
    (hs : ∀ (i : Nat) (H : Hp) (Ry : VK) (Rn : Hp → Prop), i < n → Same H1 H → (p (.int (lo + i)) = true → ∀ H4, Same H H4 → Ry (f (.int (lo + i))) H4) → (p (.int (lo + i)) = false → ∀ H3, Same H H3 → Rn H3) →
      g (.int (lo + i)) (wipe σ vs) H fun σ2 H2 => wipe σ2 vs = wipe σ vs ∧ tt σ2 H2 fun b H3 => if b = true then te σ2 H3 Ry else Rn H3)
    (hd : ∀ D H', H1 D = none → Same H1 H' → H' D = some (.lst (lcOut p f (rngV lo n))) → Q (.ref D) H') :
    ∀ D, H1 D = none → ∃ W : Nat → Nat → Hp → Prop, (∃ m, W 0 m (upd H1 D (.lst []))) ∧ ∀ i m H, W i m H →
      ((Itr lo n).stop i H ∧ Q (.ref D) H) ∨ ((Itr lo n).go i H ∧ ∃ Nx : Hp → Prop, (∀ H', Nx H' → ∃ m', m' < m ∧ W (i + 1) m' H') ∧ ∀ x H', (Itr lo n).yld i H x H' → g x (wipe σ vs) H' fun σ2 H2 => wipe σ2 vs = wipe σ vs ∧ tt σ2 H2 fun b H3 =>
        if b = true then te σ2 H3 fun y H4 => ∃ acc, H4 D = some (.lst acc) ∧ acc.length < sizeLine ∧ Nx (upd H4 D (.lst (acc ++ [y]))) else Nx H3) := by
  intro D hD
  refine lc_range (n := n) (Qd := fun H => Q (.ref D) H) (fun i H => Same H1 H ∧ H D = some (.lst (lcOut p f ((rngV lo n).take i)))) ⟨fun b o e => by rw [upd_ne (ne_of_none e hD)]; exact e, upd_same⟩ (fun i H hi h => ?_) (fun H h => ?_)
  · have hx := rngV_at (lo := lo) hi
    have hal : (lcOut p f ((rngV lo n).take i)).length < sizeLine := by
      have := lcOut_le p f ((rngV lo n).take i)
      rw [List.length_take, rngV_len] at this
      omega
    refine hs i H _ _ hi h.1 (fun hp H4 s4 => ?_) (fun hp H3 s3 => ?_)
    · refine ⟨_, s4 _ _ h.2, hal, fun b o e => ?_, ?_⟩
      · rw [upd_ne (ne_of_none e hD)]
        exact s4 _ _ (h.1 b o e)
      · rw [upd_same, lcOut_snoc hx, if_pos hp]
    · refine ⟨fun b o e => s3 _ _ (h.1 b o e), ?_⟩
      rw [lcOut_snoc hx, if_neg (by simp [hp])]
      exact s3 _ _ h.2
  · have e : (rngV lo n).take n = rngV lo n := List.take_of_length_le (by rw [rngV_len]; exact Nat.le_refl _)
    rw [e] at h
    exact hd D H hD h.1 h.2
/-! ### folded forms -/
def LC (J : It) (g : TG) (tt : TT) (te : TE) (vs : List Nat) (σ : St) (H1 : Hp) (Q : VK) : Prop :=
  ∀ D, H1 D = none → ∃ W : Nat → Nat → Hp → Prop, (∃ m, W 0 m (upd H1 D (.lst []))) ∧ ∀ i m H, W i m H →
      (J.stop i H ∧ Q (.ref D) H) ∨ (J.go i H ∧ ∃ Nx : Hp → Prop, (∀ H', Nx H' → ∃ m', m' < m ∧ W (i + 1) m' H') ∧ ∀ x H', J.yld i H x H' → g x (wipe σ vs) H' fun σ2 H2 => wipe σ2 vs = wipe σ vs ∧ tt σ2 H2 fun b H3 =>
        if b = true then te σ2 H3 fun y H4 => ∃ acc, H4 D = some (.lst acc) ∧ acc.length < sizeLine ∧ Nx (upd H4 D (.lst (acc ++ [y]))) else Nx H3)
theorem tLc_def {wi : TI} {g : TG} {tt : TT} {te : TE} {vs : List Nat} {σ : St} {H : Hp} {Q : VK} : tLc wi g tt te vs σ H Q = wi σ H (fun J H1 => LC J g tt te vs σ H1 Q) := rfl
def FR (J : It) (g : TG) (tb : TS) (D : Ends) (σ : St) (H1 : Hp) : Prop :=
  ∃ W : Nat → Nat → St → Hp → Prop, (∃ m, W 0 m σ H1) ∧ ∀ i m σ H, W i m σ H →
    (J.stop i H ∧ D.nx σ H) ∨ (J.go i H ∧ ∃ N : St → Hp → Prop, (∀ σ' H', N σ' H' → ∃ m', m' < m ∧ W (i + 1) m' σ' H') ∧ ∀ x H', J.yld i H x H' → g x σ H' fun σ2 H2 => tb { D with nx := N, ct := N, bk := D.nx } σ2 H2)
theorem tFor_def {wi : TI} {g : TG} {tb : TS} {D : Ends} {σ : St} {H : Hp} : tFor wi g tb D σ H = wi σ H (fun J H1 => FR J g tb D σ H1) := rfl
theorem lc_L {K : PySem.W.Frag} {a : Addr} {xs : List V} {g : TG} {tt : TT} {te : TE} {vs : List Nat} {σ : St} {H1 : Hp} {Q : VK} (p : V → Bool) (f : V → V) (hq : SqL K H1 a xs) (hz : xs.length ≤ sizeLine)
    (hs : ∀ (i : Nat) (x : V) (H : Hp) (Ry : VK) (Rn : Hp → Prop), xs[i]? = some x → Same H1 H → (p x = true → ∀ H4, Same H H4 → Ry (f x) H4) → (p x = false → ∀ H3, Same H H3 → Rn H3) →
      g x (wipe σ vs) H fun σ2 H2 => wipe σ2 vs = wipe σ vs ∧ tt σ2 H2 fun b H3 => if b = true then te σ2 H3 Ry else Rn H3)
    (hd : ∀ D H', H1 D = none → Same H1 H' → H' D = some (.lst (lcOut p f xs)) → Q (.ref D) H') : LC (Itl K a) g tt te vs σ H1 Q := lcL p f hq hz hs hd
theorem lc_R {lo : Int} {n : Nat} {g : TG} {tt : TT} {te : TE} {vs : List Nat} {σ : St} {H1 : Hp} {Q : VK} (p : V → Bool) (f : V → V) (hz : n ≤ sizeLine)
    (hs : ∀ (i : Nat) (H : Hp) (Ry : VK) (Rn : Hp → Prop), i < n → Same H1 H → (p (.int (lo + i)) = true → ∀ H4, Same H H4 → Ry (f (.int (lo + i))) H4) → (p (.int (lo + i)) = false → ∀ H3, Same H H3 → Rn H3) →
      g (.int (lo + i)) (wipe σ vs) H fun σ2 H2 => wipe σ2 vs = wipe σ vs ∧ tt σ2 H2 fun b H3 => if b = true then te σ2 H3 Ry else Rn H3)
    (hd : ∀ D H', H1 D = none → Same H1 H' → H' D = some (.lst (lcOut p f (rngV lo n))) → Q (.ref D) H') : LC (Itr lo n) g tt te vs σ H1 Q := lcR p f hz hs hd
theorem fr_L {K : PySem.W.Frag} {a : Addr} {xs : List V} {g : TG} {tb : TS} {D : Ends} {σ : St} {H : Hp} (Pv : Nat → St → Hp → Prop) (h0 : Pv 0 σ H) (hl : ∀ i σ H, i ≤ xs.length → Pv i σ H → SqL K H a xs)
    (hs : ∀ i x σ H, xs[i]? = some x → Pv i σ H → g x σ H fun σ2 H2 => tb { D with nx := Pv (i + 1), ct := Pv (i + 1), bk := D.nx } σ2 H2) (hd : ∀ σ H, Pv xs.length σ H → D.nx σ H) : FR (Itl K a) g tb D σ H := for_list Pv h0 hl hs hd
theorem fr_R {lo : Int} {n : Nat} {g : TG} {tb : TS} {D : Ends} {σ : St} {H : Hp} (Pv : Nat → St → Hp → Prop) (h0 : Pv 0 σ H)
    (hs : ∀ i σ H, i < n → Pv i σ H → g (.int (lo + i)) σ H fun σ2 H2 => tb { D with nx := Pv (i + 1), ct := Pv (i + 1), bk := D.nx } σ2 H2) (hd : ∀ σ H, Pv n σ H → D.nx σ H) : FR (Itr lo n) g tb D σ H := for_range Pv h0 hs hd
/-- two lists abreast -/
theorem fr_Z {K : PySem.W.Frag} {a b : Addr} {xs ys : List V} {g : TG} {tb : TS} {D : Ends} {σ : St} {H : Hp} (Pv : Nat → St → Hp → Prop) (h0 : Pv 0 σ H) (hl : ∀ i σ H, Pv i σ H → SqL K H a xs ∧ SqL K H b ys)
    (hs : ∀ i x y T σ H, xs[i]? = some x → ys[i]? = some y → H T = none → Pv i σ H → g (.ref T) σ (upd H T (.tup [x, y])) fun σ2 H2 => tb { D with nx := Pv (i + 1), ct := Pv (i + 1), bk := D.nx } σ2 H2) (hd : ∀ σ H, Pv (min xs.length ys.length) σ H → D.nx σ H) :
    FR (Itz K a b) g tb D σ H := by
  refine ⟨fun i m σ H => m = min xs.length ys.length - i ∧ i ≤ min xs.length ys.length ∧ Pv i σ H, ⟨_, rfl, Nat.zero_le _, h0⟩, ?_⟩
  rintro i m σ H ⟨rfl, hi, p⟩
  obtain ⟨q1, q2⟩ := hl i σ H p
  by_cases hlt : i < min xs.length ys.length
  · have l1 : i < xs.length := by omega
    have l2 : i < ys.length := by omega
    refine .inr ⟨⟨xs, ys, xs[i], ys[i], q1, q2, List.getElem?_eq_getElem l1, List.getElem?_eq_getElem l2⟩, Pv (i + 1), fun σ' H' p' => ⟨_, by omega, rfl, hlt, p'⟩, fun x H' y => ?_⟩
    obtain ⟨T, x1, y1, rfl, hT, rfl, hx, hy⟩ := y
    exact hs i x1 y1 T σ H (hx xs q1) (hy ys q2) hT p
  · have e : i = min xs.length ys.length := by omega
    subst e
    exact .inl ⟨⟨xs, ys, q1, q2, by omega⟩, hd σ H p⟩
theorem wh_of {c : TT} {tb : TS} {D : Ends} {σ : St} {H : Hp} (Pv : Nat → St → Hp → Prop) (m0 : Nat) (h0 : Pv m0 σ H)
    (hs : ∀ m σ H, Pv m σ H → ∀ Pv' : Nat → St → Hp → Prop, (∀ m σ H, Pv m σ H → Pv' m σ H) →
      c σ H fun b H1 => if b = true then ∃ N : St → Hp → Prop, (∀ σ' H', N σ' H' → ∃ m', m' < m ∧ Pv' m' σ' H') ∧ tb { D with nx := N, ct := N, bk := D.nx } σ H1 else D.nx σ H1) : tWhile c tb D σ H :=
  ⟨Pv, ⟨m0, h0⟩, fun m σ H h => hs m σ H h Pv fun _ _ _ q => q⟩
theorem fr_L' {K : PySem.W.Frag} {a : Addr} {xs : List V} {g : TG} {tb : TS} {D : Ends} {σ : St} {H : Hp} (Pv : Nat → St → Hp → Prop) (h0 : Pv 0 σ H) (hl : ∀ i σ H, i ≤ xs.length → Pv i σ H → SqL K H a xs)
    (hs : ∀ i x σ H, xs[i]? = some x → Pv i σ H → ∀ N : St → Hp → Prop, (∀ σ' H', Pv (i + 1) σ' H' → N σ' H') → g x σ H fun σ2 H2 => tb { D with nx := N, ct := N, bk := D.nx } σ2 H2) (hd : ∀ σ H, Pv xs.length σ H → D.nx σ H) : FR (Itl K a) g tb D σ H :=
  fr_L Pv h0 hl (fun i x σ H hx p => hs i x σ H hx p (Pv (i + 1)) fun _ _ q => q) hd
theorem fr_R' {lo : Int} {n : Nat} {g : TG} {tb : TS} {D : Ends} {σ : St} {H : Hp} (Pv : Nat → St → Hp → Prop) (h0 : Pv 0 σ H)
    (hs : ∀ i σ H, i < n → Pv i σ H → ∀ N : St → Hp → Prop, (∀ σ' H', Pv (i + 1) σ' H' → N σ' H') → g (.int (lo + i)) σ H fun σ2 H2 => tb { D with nx := N, ct := N, bk := D.nx } σ2 H2) (hd : ∀ σ H, Pv n σ H → D.nx σ H) : FR (Itr lo n) g tb D σ H :=
  fr_R Pv h0 (fun i σ H hi p => hs i σ H hi p (Pv (i + 1)) fun _ _ q => q) hd
theorem fr_Z' {K : PySem.W.Frag} {a b : Addr} {xs ys : List V} {g : TG} {tb : TS} {D : Ends} {σ : St} {H : Hp} (Pv : Nat → St → Hp → Prop) (h0 : Pv 0 σ H) (hl : ∀ i σ H, Pv i σ H → SqL K H a xs ∧ SqL K H b ys)
    (hs : ∀ i x y T σ H, xs[i]? = some x → ys[i]? = some y → H T = none → Pv i σ H → ∀ N : St → Hp → Prop, (∀ σ' H', Pv (i + 1) σ' H' → N σ' H') → g (.ref T) σ (upd H T (.tup [x, y])) fun σ2 H2 => tb { D with nx := N, ct := N, bk := D.nx } σ2 H2) (hd : ∀ σ H, Pv (min xs.length ys.length) σ H → D.nx σ H) :
    FR (Itz K a b) g tb D σ H := fr_Z Pv h0 hl (fun i x y T σ H hx hy hT p => hs i x y T σ H hx hy hT p (Pv (i + 1)) fun _ _ q => q) hd
/-! ### the rules with K named (a comprehension's block has another context, the same K) -/
section
variable {X : Cx} {K : PySem.W.Frag}
theorem ix_listK (h : X.K = K) : IxR X (rIxL K) := h ▸ ix_list
theorem ix_tupK (h : X.K = K) : IxR X (rIxT K) := h ▸ ix_tup
def rLen (K : PySem.W.Frag) : List V → Hp → VK → Prop := fun xs H Q => ∃ p ys, xs = [.ref p] ∧ (SqL K H p ys ∨ SqT K H p ys) ∧ Q (.int ys.length) H
theorem call_lenK (h : X.K = K) : CallR X (.builtin "len") (rLen K) := h ▸ call_len_seq
theorem cr_sumK (hc : X.calm = true) (h : X.K = K) : CallR X (.builtin "sum") (rSum K) := h ▸ cr_sum hc
theorem cr_anyK (hc : X.calm = true) (h : X.K = K) : CallR X (.builtin "any") (rAny K) := h ▸ cr_any hc
theorem cr_allK (hc : X.calm = true) (h : X.K = K) : CallR X (.builtin "all") (rAll K) := h ▸ cr_all hc
theorem cr_anyIK (hc : X.calm = true) (h : X.K = K) : CallR X (.builtin "any") (rAnyI K) := h ▸ cr_anyI hc
def rListOf (K : PySem.W.Frag) : List V → Hp → VK → Prop := fun xs H Q => ∃ p ys, xs = [.ref p] ∧ (SqL K H p ys ∨ SqT K H p ys) ∧ ∀ l, H l = none → Q (.ref l) (upd H l (.lst ys))
theorem call_listK (h : X.K = K) : CallR X (.type "list") (rListOf K) := h ▸ call_list_of
def rTupleOf (K : PySem.W.Frag) : List V → Hp → VK → Prop := fun xs H Q => ∃ p ys, xs = [.ref p] ∧ ((SqL K H p ys ∧ ∀ l, H l = none → Q (.ref l) (upd H l (.tup ys))) ∨ (SqT K H p ys ∧ Q (.ref p) H))
theorem call_tupleK (h : X.K = K) : CallR X (.type "tuple") (rTupleOf K) := h ▸ call_tuple_of
theorem mt_countK (h : X.K = K) : MtR X "list.count" (rCount K) := h ▸ mt_countL
theorem op_inK (h : X.K = K) : OpR X (compareOp .In) (rIn K false) := h ▸ op_in_seq
theorem op_notInTK (hu : X.A.units + 64 < cLine) (h : X.K = K) : OpR X (compareOp .NotIn) (rNotInT K) := h ▸ op_notIn_tups hu
theorem sl_listK (h : X.K = K) : SlR X (rSlL K) := h ▸ sl_list
theorem pi_listK {tg l : Expr} {tl : TE} (h : X.K = K) (hl : PE X l tl) : PI X tg l (iList K tl) := h ▸ pi_list hl
theorem pe_fldK {e : Expr} {f : Str} {pos : Pos} {ta : TE} (h : X.K = K) (he : PE X e ta) (hb : attributeBase e f X.env (eval e X.env) = eval e X.env) : PE X (.Attribute e f pos) (tFld K ta f) := h ▸ pe_fld he hb
theorem pe_bmK {o e : Expr} {es : List Expr} {to : TE} {t : TA} {name : Str} {apos cpos : Pos} {T id : String} {r : V → List V → Hp → VK → Prop} (h : X.K = K) (pa : PlainAttrs T) (slot : Slot T name id) (hty : typeOf (.builtin id) = pure (.type "method_descriptor")) (hm : MtR X id r) (ho : PE X o to) (ha : PA X (e :: es) t)
    (hbase : attributeBase o name X.env (eval o X.env) = eval o X.env := by rfl)
    (hfew : ((backTo cpos (starEach (e :: es) X.env)).all (fun x => !x.1) && (backToKw cpos (keywordEach [] X.env)).all (fun x => x.1.isSome)
      && decide ((e :: es).length + ([] : List Keyword).length + (if ([] : List Keyword).isEmpty then 0 else 1) < 30)) = true := by rfl)
    (hline : (apos.endLine == cpos.line) = true := by rfl) (hs : starEach (e :: es) X.env = (false, eval e X.env) :: starEach es X.env := by rfl) (hplain : (backTo cpos (starEach es X.env)).any (·.1) = false := by rfl) :
    PE X (.Call (.Attribute o name apos) (e :: es) [] cpos) (tBM K T r to t) := h ▸ pe_bm pa slot hty hm ho ha hbase hfew hline hs hplain
def rGetL (K : PySem.W.Frag) : V → V → Hp → VK → Prop := fun o i H Q => ∃ p xs k v, o = .ref p ∧ i = .int k ∧ SqL K H p xs ∧ 0 ≤ k ∧ xs[k.toNat]? = some v ∧ Q v H
theorem get_listK (h : X.K = K) : PGet X (rGetL K) := h ▸ get_list
end
end L2
set_option Elab.async false
set_option linter.all false
set_option maxRecDepth 100000
set_option maxHeartbeats 2000000
/-! ### a dict of the top; a list made longer by a tuple -/
namespace L2
open PySem PySem.Spec PyProof.Rows
section
variable {X : Cx} {K : PySem.W.Frag}
/-- what the top's dict at a holds at the int k -/
def KGet (K : PySem.W.Frag) (a : Addr) (k : Int) (v : V) : Prop :=
  ∃ (o : Obj) (es : Array DictEntry) (ep : Nat) (u : Value), K.lookup a = some o ∧ o.cls = .type "dict" ∧ o.data = .dict es ep ∧ IntKeys es ∧ findBy Value.isInt es k = some u ∧ RelV v u
def tKD (K : PySem.W.Frag) (td ty : TE) : TE := fun σ H Q => td σ H fun x H1 => ty σ H1 fun y H2 => ∃ a k v, x = .ref a ∧ y = .int k ∧ KGet K a k v ∧ Q v H2
theorem pe_kd {o i : Expr} {pos : Pos} {td ty : TE} (hK : X.K = K) (ho : PE X o td) (hi : PE X i ty) (hs : NoSl i) : PE X (.Subscript o i pos) (tKD K td ty) := by
  subst hK
  intro pins s σ H Q I h
  refine subD_of PySem.F.slot_dict_getitem.lookup hs (thn (ho pins s σ H _ I h) fun u s1 ⟨x, H1, I1, rx, q1⟩ => thn (hi pins s1 σ H1 _ I1 q1) fun iv s2 ⟨y, H2, I2, ry, a, k, v, ex, ey, g, q2⟩ => ?_)
  subst ex ey
  obtain rfl : u = Value.ref a := rx
  obtain ⟨t, rfl⟩ := ry
  obtain ⟨ob, es, ep, u2, hk, hc, hd, hi2, hf, ru⟩ := g
  have hm : s2.heap.IntMap a (findBy Value.isInt es) := ⟨ob, es, ep, I2.kIn a ob hk, hc, hd, hi2, fun _ => rfl⟩
  exact ⟨hm.typeIs, wpAny_getItem_intMap hm hf ⟨v, H2, I2.tok _, ru, q2⟩⟩
theorem ext_tup (l : Addr) (xs : Array Value) (n : Nat) (b : Addr) (ys : Array Value) (m : Nat) (dd : Option Addr) (sl : Array (Option Value))
    (h0 : ¬(!xs.isEmpty && Builtin.List.listTooLong (xs.size + ys.size)) = true) (h1 : xs.size ≤ sizeLine) (h2 : xs.size + ys.size ≤ sizeLine + 1) :
    Meets (Builtin.«list.extend» ⟨[.ref l, .ref b], []⟩) (fun _ R s =>
      s.heap.get? l = some { cls := .type "list", dict := none, data := .seq xs n, slots := #[] } ∧
      s.heap.get? b = some { cls := .type "tuple", dict := dd, data := .seq ys m, slots := sl } ∧
      R (.ok (.ret Value.none)) { s with heap := s.heap.update l (Obj.mapSeq fun x => x ++ ys), toks := s.toks }) :=
  .of_wp fun prog w A R s h => by
    obtain ⟨hp, g, d, tk, os⟩ := s
    obtain ⟨hl, hb, h⟩ := h
    have f1 := PySem.AutoSeq1.idx_int
    have f2 := PySem.AutoSeq1.sub_tuple_tuple
    have f3 := PySem.AutoSeq1.sub_list_list
    have f4 := PySem.AutoSeq1.sub_tuple_list
    have f5 := PySem.AutoSeq1.sub_list_tuple
    have hz : (xs ++ ys).size ≤ sizeLine + 1 := by
      rw [Array.size_append]
      exact h2
    wp_walk using (wpAny_updateSeq hl rfl (hz := h1) (_hz' := hz)), PySem.AutoSeq1.wpAny_loadPart' hl, PySem.AutoSeq1.wpAny_loadPart' hb
    exact ⟨_, rfl, h⟩
def rExtendT (K : PySem.W.Frag) : V → List V → Hp → VK → Prop := fun x vs H Q => ∃ l b xs zs, x = .ref l ∧ vs = [.ref b] ∧ H l = some (.lst xs) ∧ SqT K H b zs ∧ xs.length + zs.length ≤ sizeLine ∧ Q .non (upd H l (.lst (xs ++ zs)))
theorem mt_extendT : MtM X "list.extend" (rExtendT X.K) := by
  intro pins s σ H x vs v us Q I rx rv h
  obtain ⟨l, b, xs, zs, rfl, rfl, hH, hB, hz, q⟩ := h
  cases rx
  obtain ⟨u, rfl, ru⟩ := rv.one
  cases ru
  obtain ⟨z, its, n, r, hl, e⟩ := I.lstM hH
  obtain ⟨its2, r2, ⟨⟨cls, dd, data, sl⟩, e2, hc, m, hd⟩, z2⟩ := I.tuple hB
  simp only at hc hd
  subst hc hd
  have hl2 := r2.length
  have hsz : its.toArray.size + its2.toArray.size ≤ sizeLine := by
    rw [List.size_toArray, List.size_toArray]
    omega
  have hlong : ¬ (!its.toArray.isEmpty && Builtin.List.listTooLong (its.toArray.size + its2.toArray.size)) = true := by
    rw [notLongL hsz, Bool.and_false]
    decide
  refine call_meets F.slot_list_extend ⟨_, e, rfl⟩ F.entry_list_extend (F.args_list_extend_2 _ _)
    (ext_tup l its.toArray n b its2.toArray m dd sl hlong (by rw [List.size_toArray]; omega) (by omega)) ⟨e, e2, ?_⟩
  refine ⟨.non, _, I.lset (its' := its ++ its2) hH e (by simp) (r.append r2) ?_, rfl, q⟩
  rw [List.length_append]
  omega
theorem mt_extendTK (h : X.K = K) : MtM X "list.extend" (rExtendT K) := h ▸ mt_extendT
end
end L2
set_option linter.all false
namespace Tw
open Kg82
/-! ### Geometry: lines by places -/
def sqr (n : Nat) (d : Bool) (lane i : Nat) : Nat := if d = true then i * n + lane else lane * n + i
def laneOf (n : Nat) (d : Bool) (k : Nat) : Nat := if d = true then k % n else k / n
def posOf (n : Nat) (d : Bool) (k : Nat) : Nat := if d = true then k / n else k % n
theorem sqr_of {n : Nat} (d : Bool) (k : Nat) : sqr n d (laneOf n d k) (posOf n d k) = k := by
  cases d <;> simp [sqr, laneOf, posOf] <;> rw [Nat.mul_comm] <;> exact Nat.div_add_mod k n
theorem lane_lt {n : Nat} (d : Bool) {k : Nat} (h : k < n * n) : laneOf n d k < n := by
  have hn : 0 < n := by
    cases n with
    | zero => simp at h
    | succ n => omega
  cases d <;> simp [laneOf]
  · exact Nat.div_lt_of_lt_mul h
  · exact Nat.mod_lt _ hn
theorem pos_lt {n : Nat} (d : Bool) {k : Nat} (h : k < n * n) : posOf n d k < n := by
  have hn : 0 < n := by
    cases n with
    | zero => simp at h
    | succ n => omega
  cases d <;> simp [posOf]
  · exact Nat.mod_lt _ hn
  · exact Nat.div_lt_of_lt_mul h
theorem lane_sqr {n lane i : Nat} (d : Bool) (hl : lane < n) (hi : i < n) : laneOf n d (sqr n d lane i) = lane := by
  cases d
  · simp [laneOf, sqr]
    rw [Nat.mul_comm, Nat.mul_add_div (by omega), Nat.div_eq_of_lt hi]; rfl
  · simp [laneOf, sqr]
    exact Nat.mod_eq_of_lt hl
theorem pos_sqr {n lane i : Nat} (d : Bool) (hl : lane < n) (hi : i < n) : posOf n d (sqr n d lane i) = i := by
  cases d
  · simp [posOf, sqr]
    exact Nat.mod_eq_of_lt hi
  · simp [posOf, sqr]
    rw [Nat.mul_comm, Nat.mul_add_div (by omega), Nat.div_eq_of_lt hl]; rfl
theorem sqr_lt {n lane i : Nat} (d : Bool) (hl : lane < n) (hi : i < n) : sqr n d lane i < n * n := by
  cases d <;> simp [sqr]
  · calc lane * n + i < lane * n + n := by omega
      _ = (lane + 1) * n := by rw [Nat.add_mul, Nat.one_mul]
      _ ≤ n * n := Nat.mul_le_mul_right _ hl
  · calc i * n + lane < i * n + n := by omega
      _ = (i + 1) * n := by rw [Nat.add_mul, Nat.one_mul]
      _ ≤ n * n := Nat.mul_le_mul_right _ hi
/-- the square behind one, by places -/
theorem next_sqr {s : State} {lane i : Nat} (d : Bool) (hl : lane < s.side) (hi : i < s.side) :
    s.next d (sqr s.side d lane i) = if i + 1 < s.side then some (sqr s.side d lane (i + 1)) else none := by
  cases d
  · simp only [State.next, sqr]
    simp only [Bool.false_eq_true, if_false]
    by_cases h : i + 1 < s.side
    · rw [if_pos h, if_neg]
      · rw [Nat.add_assoc]
      · rw [Nat.add_assoc, Nat.mul_comm, Nat.mul_add_mod, Nat.mod_eq_of_lt h]; omega
    · have e : i + 1 = s.side := by omega
      rw [if_neg h, if_pos]
      rw [Nat.add_assoc, e, Nat.mul_comm, Nat.mul_add_mod, Nat.mod_self]
  · simp only [State.next, sqr, if_true]
    by_cases h : i + 1 < s.side
    · rw [if_pos h, if_pos]
      · congr 1
        rw [Nat.add_mul]; omega
      · have := sqr_lt (n := s.side) true hl h
        simp only [sqr, if_true, Nat.add_mul, Nat.one_mul] at this
        omega
    · have e : i + 1 = s.side := by omega
      rw [if_neg h, if_neg]
      have : (i + 1) * s.side = s.side * s.side := by rw [e]
      rw [Nat.add_mul, Nat.one_mul] at this
      omega
theorem before_sqr {s : State} {lane i : Nat} (d : Bool) (hl : lane < s.side) (hi : i < s.side) :
    s.before d (sqr s.side d lane i) = if 0 < i then some (sqr s.side d lane (i - 1)) else none := by
  cases d
  · simp only [State.before, sqr, Bool.false_eq_true, if_false]
    rw [Nat.mul_comm, Nat.mul_add_mod, Nat.mod_eq_of_lt hi]
    by_cases h : 0 < i
    · rw [if_pos h, if_neg (by omega)]; congr 1; omega
    · rw [if_neg h, if_pos (by omega)]
  · simp only [State.before, sqr, if_true]
    by_cases h : 0 < i
    · obtain ⟨j, rfl⟩ : ∃ j, i = j + 1 := ⟨i - 1, by omega⟩
      rw [if_pos h, if_pos (by rw [Nat.add_mul]; omega)]
      congr 1
      rw [Nat.add_mul]; simp; omega
    · have e : i = 0 := by omega
      subst e
      rw [if_neg h, if_neg (by simp; omega)]
/-! ### Runs -/
def mFirst (f : Nat → Bool) : Nat → Nat
  | 0 => 0
  | i + 1 => if f i = true then mFirst f i else i + 1
def mLast (f : Nat → Bool) (n : Nat) : Nat → Nat → Nat
  | 0, i => i
  | g + 1, i => if i + 1 < n ∧ f (i + 1) = true then mLast f n g (i + 1) else i
def runP (f : Nat → Bool) (n : Nat) : Nat → Nat → List Nat
  | 0, _ => []
  | g + 1, i => if f i = false then [] else i :: (if i + 1 < n then runP f n g (i + 1) else [])
theorem mFirst_le (f : Nat → Bool) : ∀ i, mFirst f i ≤ i
  | 0 => Nat.le_refl _
  | i + 1 => by
    simp only [mFirst]
    split
    · exact Nat.le_succ_of_le (mFirst_le f i)
    · exact Nat.le_refl _
theorem mFirst_all (f : Nat → Bool) : ∀ i j, mFirst f i ≤ j → j < i → f j = true
  | 0, j, _, h => by omega
  | i + 1, j, h1, h2 => by
    simp only [mFirst] at h1
    by_cases e : f i = true
    · rw [if_pos e] at h1
      by_cases q : j = i
      · subst q; exact e
      · exact mFirst_all f i j h1 (by omega)
    · rw [if_neg e] at h1; omega
/-- within a full stretch the first place is one -/
theorem mFirst_same (f : Nat → Bool) {i : Nat} : ∀ {j}, i ≤ j → (∀ k, i ≤ k → k < j → f k = true) → mFirst f j = mFirst f i
  | 0, h, _ => by
    have : i = 0 := by omega
    subst this; rfl
  | j + 1, h, hf => by
    by_cases e : i = j + 1
    · subst e; rfl
    · simp only [mFirst]
      rw [if_pos (hf j (by omega) (by omega))]
      exact mFirst_same f (by omega) fun k h1 h2 => hf k h1 (by omega)
theorem mLast_ge (f : Nat → Bool) (n : Nat) : ∀ g i, i ≤ mLast f n g i
  | 0, i => Nat.le_refl _
  | g + 1, i => by
    simp only [mLast]
    split
    · exact Nat.le_trans (Nat.le_succ i) (mLast_ge f n g (i + 1))
    · exact Nat.le_refl _
theorem mLast_lt (f : Nat → Bool) (n : Nat) : ∀ g i, i < n → mLast f n g i < n
  | 0, i, h => h
  | g + 1, i, h => by
    simp only [mLast]
    split
    · rename_i q; exact mLast_lt f n g (i + 1) q.1
    · exact h
/-- the spec's walk from a place on is the range up to the last place -/
theorem runP_eq (f : Nat → Bool) (n : Nat) : ∀ g i, i < n → n - i ≤ g → f i = true → runP f n g i = List.range' i (mLast f n g i + 1 - i)
  | 0, i, h1, h2, _ => by omega
  | g + 1, i, h1, h2, hf => by
    simp only [runP, mLast]
    rw [if_neg (by simp [hf])]
    by_cases h : i + 1 < n
    · rw [if_pos h]
      by_cases e : f (i + 1) = true
      · rw [if_pos ⟨h, e⟩, runP_eq f n g (i + 1) h (by omega) e]
        have := mLast_ge f n g (i + 1)
        rw [show mLast f n g (i + 1) + 1 - i = (mLast f n g (i + 1) + 1 - (i + 1)) + 1 by omega, List.range'_succ]
      · rw [if_neg (fun q => e q.2)]
        have : i + 1 - i = 1 := by omega
        rw [this]
        cases g with
        | zero => omega
        | succ g =>
          simp only [runP]
          rw [if_pos (by simpa using e)]; rfl
    · rw [if_neg h, if_neg (fun q => h q.1)]
      have : i + 1 - i = 1 := by omega
      rw [this]; rfl
theorem mLast_fuel (f : Nat → Bool) (n : Nat) : ∀ g g' i, i < n → n - i ≤ g → n - i ≤ g' → mLast f n g i = mLast f n g' i
  | 0, _, i, h, h1, _ => by omega
  | _, 0, i, h, _, h1 => by omega
  | g + 1, g' + 1, i, h, h1, h2 => by
    simp only [mLast]
    split
    · rename_i q
      exact mLast_fuel f n g g' (i + 1) q.1 (by omega) (by omega)
    · rfl
theorem mLast_same (f : Nat → Bool) (n : Nat) {j : Nat} (hj : j < n) : ∀ m i g, j - i = m → i ≤ j → (∀ k, i < k → k ≤ j → f k = true) → n - i ≤ g → mLast f n g i = mLast f n g j
  | 0, i, g, e, h, _, _ => by
    have : i = j := by omega
    subst this; rfl
  | m + 1, i, 0, e, h, _, hg => by omega
  | m + 1, i, g + 1, e, h, hf, hg => by
    have h1 : i + 1 < n ∧ f (i + 1) = true := ⟨by omega, hf _ (by omega) (by omega)⟩
    rw [show mLast f n (g + 1) i = mLast f n g (i + 1) by simp only [mLast]; rw [if_pos h1]]
    rw [mLast_same f n hj m (i + 1) g (by omega) (by omega) (fun k a b => hf k (by omega) b) (by omega)]
    exact mLast_fuel f n g (g + 1) j hj (by omega) (by omega)
/-- the places of the unbroken stretch that a place is in -/
def stretch (f : Nat → Bool) (n i : Nat) : List Nat := List.range' (mFirst f i) (mLast f n n i + 1 - mFirst f i)
theorem runP_first (f : Nat → Bool) {n i : Nat} (hi : i < n) (hf : f i = true) : runP f n n (mFirst f i) = stretch f n i := by
  have h1 := mFirst_le f i
  have ha : ∀ k, mFirst f i ≤ k → k ≤ i → f k = true := fun k a b => by
    by_cases e : k = i
    · subst e; exact hf
    · exact mFirst_all f i k a (by omega)
  rw [runP_eq f n n (mFirst f i) (by omega) (by omega) (ha _ (Nat.le_refl _) h1)]
  rw [mLast_same f n hi (i - mFirst f i) (mFirst f i) n rfl h1 (fun k a b => ha k (by omega) b) (by omega)]
  rfl
theorem stretch_same (f : Nat → Bool) {n i j : Nat} (hj : j < n) (h : i ≤ j) (hf : ∀ k, i ≤ k → k ≤ j → f k = true) : stretch f n i = stretch f n j := by
  unfold stretch
  rw [mFirst_same f h fun k a b => hf k a (by omega), mLast_same f n hj (j - i) i n rfl h (fun k a b => hf k (by omega) b) (by omega)]
/-- tiles along a line -/
def along (s : State) (d : Bool) (lane i : Nat) : Bool := (s.at_ (sqr s.side d lane i)).isSome
theorem head_eq {s : State} {d : Bool} {lane : Nat} (hl : lane < s.side) : ∀ g i, i < s.side → i ≤ g → s.head d g (sqr s.side d lane i) = sqr s.side d lane (mFirst (along s d lane) i)
  | 0, i, _, h => by
    have : i = 0 := by omega
    subst this; rfl
  | g + 1, i, hi, h => by
    simp only [State.head]
    rw [before_sqr d hl hi]
    cases i with
    | zero => simp [mFirst]
    | succ i =>
      rw [if_pos (by omega)]
      simp only [mFirst, Nat.add_sub_cancel]
      by_cases e : along s d lane i = true
      · rw [if_pos e, if_pos (show (s.at_ (sqr s.side d lane i)).isSome = true from e)]
        exact head_eq hl g i (by omega) (by omega)
      · rw [if_neg e, if_neg (show ¬ (s.at_ (sqr s.side d lane i)).isSome = true from e)]
theorem run_eq {s : State} {d : Bool} {lane : Nat} (hl : lane < s.side) : ∀ g i, i < s.side → s.run d g (sqr s.side d lane i) = (runP (along s d lane) s.side g i).map (sqr s.side d lane)
  | 0, i, _ => rfl
  | g + 1, i, hi => by
    simp only [State.run, runP]
    rw [next_sqr d hl hi]
    by_cases e : along s d lane i = true
    · have e1 : ¬ (s.at_ (sqr s.side d lane i)).isNone = true := by
        unfold along at e
        cases q : s.at_ (sqr s.side d lane i) <;> simp_all
      have e2 : ¬ along s d lane i = false := by simp [e]
      rw [if_neg e1, if_neg e2]
      simp only [List.map_cons]
      congr 1
      by_cases h : i + 1 < s.side
      · rw [if_pos h, if_pos h]; exact run_eq hl g (i + 1) h
      · rw [if_neg h, if_neg h]; rfl
    · have e1 : (s.at_ (sqr s.side d lane i)).isNone = true := by
        unfold along at e
        cases q : s.at_ (sqr s.side d lane i) <;> simp_all
      have e2 : along s d lane i = false := by simpa using e
      rw [if_pos e1, if_pos e2]; rfl
theorem wordAt_eq {s : State} {d : Bool} {lane i : Nat} (hl : lane < s.side) (hi : i < s.side) (h : along s d lane i = true) :
    s.wordAt d (sqr s.side d lane i) = (stretch (along s d lane) s.side i).map (sqr s.side d lane) := by
  unfold State.wordAt
  rw [head_eq hl s.side i hi (by omega)]
  have h1 := mFirst_le (along s d lane) i
  rw [run_eq hl s.side _ (by omega), runP_first _ hi h]
end Tw
set_option linter.all false
namespace Tw
open Kg82
/-! ### The board as the program has it: faces -/
def face : Option Tile → Int
  | none => 0
  | some t => if t.blank = true then -(t.letter : Int) else (t.letter : Int)
def TileOk (t : Tile) : Prop := 1 ≤ t.letter ∧ t.letter ≤ 26
structure Bd (bd : List (Option Tile)) (b : List Int) : Prop where
  eq : b = bd.map face
  ok : ∀ t, some t ∈ bd → TileOk t
def tileAt (b : List Int) (k : Nat) : Bool := decide (b.getD k 0 ≠ 0)
theorem face_ne {t : Tile} (h : TileOk t) : face (some t) ≠ 0 := by
  have h1 := h.1
  show (if t.blank = true then -(t.letter : Int) else (t.letter : Int)) ≠ 0
  split <;> intro e <;> omega
theorem Bd.len {bd : List (Option Tile)} {b : List Int} (h : Bd bd b) : b.length = bd.length := by rw [h.eq, List.length_map]
theorem Bd.getD {bd : List (Option Tile)} {b : List Int} (h : Bd bd b) (k : Nat) : b.getD k 0 = face (bd.getD k none) := by
  rw [h.eq]
  simp only [List.getD_eq_getElem?_getD, List.getElem?_map]
  cases bd[k]? <;> rfl
theorem Bd.tile {bd : List (Option Tile)} {b : List Int} (h : Bd bd b) {k : Nat} {t : Tile} (e : bd.getD k none = some t) : TileOk t := by
  refine h.ok t ?_
  rw [List.getD_eq_getElem?_getD] at e
  cases q : bd[k]? with
  | none => rw [q] at e; cases e
  | some x =>
    rw [q] at e
    have e' : x = some t := e
    subst e'
    exact List.mem_of_getElem? q
theorem Bd.at_ {bd : List (Option Tile)} {b : List Int} (h : Bd bd b) (k : Nat) : (bd.getD k none).isSome = tileAt b k := by
  unfold tileAt
  rw [h.getD k]
  cases e : bd.getD k none with
  | none => rfl
  | some t => simp [face_ne (h.tile e)]
/-! ### The words on it -/
def alongB (b : List Int) (n : Nat) (d : Bool) (lane i : Nat) : Bool := tileAt b (sqr n d lane i)
def runThrough (b : List Int) (n k : Nat) (d : Bool) : List Nat :=
  (stretch (alongB b n d (laneOf n d k)) n (posOf n d k)).map (sqr n d (laneOf n d k))
theorem along_eq {s : State} {b : List Int} (h : Bd s.board b) (d : Bool) (lane : Nat) : along s d lane = alongB b s.side d lane := by
  funext i
  exact h.at_ _
theorem wordAt_run {s : State} {b : List Int} (h : Bd s.board b) (d : Bool) {k : Nat} (hk : k < s.side * s.side) (ht : tileAt b k = true) : s.wordAt d k = runThrough b s.side k d := by
  have e := wordAt_eq (s := s) (d := d) (lane_lt d hk) (pos_lt d hk) (by rw [along_eq h]; unfold alongB; rw [sqr_of]; exact ht)
  rw [sqr_of, along_eq h] at e
  exact e
def wordsOf (b : List Int) (n : Nat) (laid : List Nat) (d : Bool) : List (List Nat) :=
  (runThrough b n (laid.headD 0) d :: laid.map fun k => runThrough b n k (!d)).filter fun w => decide (2 ≤ w.length)
theorem made_eq {s : State} {b : List Int} (h : Bd s.board b) (d : Bool) {q : List Nat} (hne : q ≠ []) (hq : ∀ k ∈ q, k < s.side * s.side ∧ tileAt b k = true) : s.made d q = wordsOf b s.side q d := by
  unfold State.made wordsOf
  congr 1
  congr 1
  · cases q with
    | nil => exact absurd rfl hne
    | cons k q =>
      have := hq k (by simp)
      exact wordAt_run h d this.1 this.2
  · apply List.map_congr_left
    intro k hk
    have := hq k hk
    exact wordAt_run h (!d) this.1 this.2
/-! ### Laying -/
def boardWith (b : List Int) (laid : List Nat) (faces : List Int) : List Int := (laid.zip faces).foldl (fun b x => b.set x.1 x.2) b
theorem boardWith_len : ∀ (laid : List Nat) (faces : List Int) (b : List Int), (boardWith b laid faces).length = b.length
  | [], _, _ => rfl
  | _ :: _, [], _ => rfl
  | k :: laid, f :: faces, b => by
    show (boardWith (b.set k f) laid faces).length = b.length
    rw [boardWith_len laid faces, List.length_set]
theorem lay_board : ∀ (q : List Nat) (ts : List Tile) (bd : List (Option Tile)) (b : List Int), Bd bd b → (∀ t ∈ ts, TileOk t) →
    Bd ((q.zip ts).foldl (fun b x => b.set x.1 (some x.2)) bd) (boardWith b q (ts.map fun t => face (some t)))
  | [], _, _, _, h, _ => h
  | _ :: _, [], _, _, h, _ => h
  | k :: q, t :: ts, bd, b, h, ht => by
    show Bd ((q.zip ts).foldl (fun b x => b.set x.1 (some x.2)) (bd.set k (some t))) (boardWith (b.set k (face (some t))) q (ts.map fun t => face (some t)))
    refine lay_board q ts _ _ ⟨?_, fun u hu => ?_⟩ fun u hu => ht u (List.mem_cons_of_mem _ hu)
    · rw [h.eq, List.map_set]
    · rcases List.mem_or_eq_of_mem_set hu with hu | hu
      · exact h.ok u hu
      · cases hu; exact ht _ (by simp)
theorem clear_board : ∀ (q : List Nat) (bd : List (Option Tile)) (b : List Int), Bd bd b → Bd (q.foldl (fun b k => b.set k none) bd) (q.foldl (fun b k => b.set k 0) b)
  | [], _, _, h => h
  | k :: q, bd, b, h => by
    refine clear_board q _ _ ⟨?_, fun u hu => ?_⟩
    · rw [h.eq, List.map_set]; rfl
    · rcases List.mem_or_eq_of_mem_set hu with hu | hu
      · exact h.ok u hu
      · cases hu
theorem tileAt_set {b : List Int} {k j : Nat} {f : Int} (hf : f ≠ 0) (h : tileAt b j = true ∨ (j = k ∧ k < b.length)) : tileAt (b.set k f) j = true := by
  unfold tileAt at *
  simp only [List.getD_eq_getElem?_getD, List.getElem?_set] at *
  by_cases e : k = j
  · subst e
    by_cases q : k < b.length
    · simp [q, hf]
    · simp [q] at h
  · rw [if_neg e]
    rcases h with h | h
    · exact h
    · exact absurd h.1.symm e
theorem boardWith_keeps : ∀ (laid : List Nat) (faces : List Int) (b : List Int) (j : Nat), (∀ f ∈ faces, f ≠ 0) → tileAt b j = true → tileAt (boardWith b laid faces) j = true
  | [], _, _, _, _, h => h
  | _ :: _, [], _, _, _, h => h
  | k :: laid, f :: faces, b, j, hf, h =>
    boardWith_keeps laid faces (b.set k f) j (fun g hg => hf g (List.mem_cons_of_mem _ hg)) (tileAt_set (hf f (by simp)) (.inl h))
theorem boardWith_tile : ∀ (laid : List Nat) (faces : List Int) (b : List Int) (j : Nat), (∀ f ∈ faces, f ≠ 0) → laid.length ≤ faces.length → (∀ k ∈ laid, k < b.length) → j ∈ laid → tileAt (boardWith b laid faces) j = true
  | [], _, _, _, _, _, _, h => by cases h
  | k :: laid, [], _, _, _, hl, _, _ => by simp at hl
  | k :: laid, f :: faces, b, j, hf, hl, hk, h => by
    show tileAt (boardWith (b.set k f) laid faces) j = true
    have hf' : ∀ g ∈ faces, g ≠ 0 := fun g hg => hf g (List.mem_cons_of_mem _ hg)
    rcases List.mem_cons.mp h with e | h
    · subst e
      exact boardWith_keeps laid faces _ _ hf' (tileAt_set (hf f (by simp)) (.inr ⟨rfl, hk _ (by simp)⟩))
    · exact boardWith_tile laid faces _ j hf' (by simpa using hl) (fun q hq => by rw [List.length_set]; exact hk q (List.mem_cons_of_mem _ hq)) h
/-! ### Free places -/
def freeP (f : Nat → Bool) (n i : Nat) : List Nat := (List.range' i (n - i)).filter fun j => !f j
theorem places_eq {s : State} {d : Bool} {lane : Nat} (hl : lane < s.side) : ∀ g m i, i < s.side → s.side - i ≤ g →
    s.places d g m (sqr s.side d lane i) = if m ≤ (freeP (along s d lane) s.side i).length then some (((freeP (along s d lane) s.side i).take m).map (sqr s.side d lane)) else none
  | g, 0, i, _, _ => by
    rw [if_pos (Nat.zero_le _)]
    cases g <;> simp [State.places]
  | 0, m + 1, i, h1, h2 => by omega
  | g + 1, m + 1, i, hi, hg => by
    have hr : List.range' i (s.side - i) = i :: List.range' (i + 1) (s.side - (i + 1)) := by
      rw [show s.side - i = (s.side - (i + 1)) + 1 by omega, List.range'_succ]
    simp only [State.places]
    rw [next_sqr d hl hi]
    by_cases e : along s d lane i = true
    · have e1 : ¬ (s.at_ (sqr s.side d lane i)).isNone = true := by
        unfold along at e
        cases q : s.at_ (sqr s.side d lane i) <;> simp_all
      have ef : freeP (along s d lane) s.side i = freeP (along s d lane) s.side (i + 1) := by
        unfold freeP
        rw [hr, List.filter_cons, if_neg (by simp [e])]
      rw [if_neg e1, ef]
      by_cases h : i + 1 < s.side
      · rw [if_pos h]
        exact places_eq hl g (m + 1) (i + 1) h (by omega)
      · rw [if_neg h]
        have : freeP (along s d lane) s.side (i + 1) = [] := by
          unfold freeP
          rw [show s.side - (i + 1) = 0 by omega]; rfl
        rw [this]
        simp
    · have e1 : (s.at_ (sqr s.side d lane i)).isNone = true := by
        unfold along at e
        cases q : s.at_ (sqr s.side d lane i) <;> simp_all
      have ef : freeP (along s d lane) s.side i = i :: freeP (along s d lane) s.side (i + 1) := by
        unfold freeP
        rw [hr, List.filter_cons, if_pos (by simp [e])]
      rw [if_pos e1, ef]
      by_cases h : i + 1 < s.side
      · rw [if_pos h]
        simp only []
        rw [places_eq hl g m (i + 1) h (by omega)]
        by_cases hm : m ≤ (freeP (along s d lane) s.side (i + 1)).length
        · rw [if_pos hm, if_pos (by simp; omega)]; rfl
        · rw [if_neg hm, if_neg (by simp; omega)]; rfl
      · rw [if_neg h]
        have : freeP (along s d lane) s.side (i + 1) = [] := by
          unfold freeP
          rw [show s.side - (i + 1) = 0 by omega]; rfl
        rw [this]
        cases m with
        | zero => simp
        | succ m => simp
/-! ### Neighbours -/
def neighbours (n k : Nat) : List Nat :=
  (((if 0 < k / n then [k - n] else []) ++ (if k / n + 1 < n then [k + n] else [])) ++ (if 0 < k % n then [k - 1] else [])) ++ (if k % n + 1 < n then [k + 1] else [])
def touches (b : List Int) (n : Nat) (laid : List Nat) : Bool := laid.any fun k => (neighbours n k).any fun j => tileAt b j
def isTied (b : List Int) (n : Nat) (laid : List Nat) : Bool := if b.any (fun x => decide (x ≠ 0)) = true then touches b n laid else laid.contains (n / 2 * n + n / 2)
theorem half_eq {n : Nat} (h : n % 2 = 1) : n * n / 2 = n / 2 * n + n / 2 := by
  obtain ⟨m, rfl⟩ : ∃ m, n = 2 * m + 1 := ⟨n / 2, by omega⟩
  have e : (2 * m + 1) / 2 = m := by omega
  rw [e]
  have : (2 * m + 1) * (2 * m + 1) = 2 * (m * (2 * m + 1) + m) + 1 := by
    rw [Nat.mul_add, Nat.mul_add, Nat.add_mul]
    have := Nat.mul_assoc 2 m (2 * m + 1)
    grind
  omega
theorem next_k {s : State} {k : Nat} (d : Bool) (hk : k < s.side * s.side) : s.next d k = if posOf s.side d k + 1 < s.side then some (sqr s.side d (laneOf s.side d k) (posOf s.side d k + 1)) else none := by
  have := next_sqr (s := s) d (lane_lt d hk) (pos_lt d hk)
  rw [sqr_of] at this
  exact this
theorem before_k {s : State} {k : Nat} (d : Bool) (hk : k < s.side * s.side) : s.before d k = if 0 < posOf s.side d k then some (sqr s.side d (laneOf s.side d k) (posOf s.side d k - 1)) else none := by
  have := before_sqr (s := s) d (lane_lt d hk) (pos_lt d hk)
  rw [sqr_of] at this
  exact this
theorem any_none_iff {bd : List (Option Tile)} {b : List Int} (h : Bd bd b) : b.any (fun x => decide (x ≠ 0)) = !(bd.all fun x => x.isNone) := by
  have : ∀ (l : List (Option Tile)), (∀ t, some t ∈ l → TileOk t) → (l.map face).any (fun x => decide (x ≠ 0)) = !(l.all fun x => x.isNone) := by
    intro l
    induction l with
    | nil => intro _; rfl
    | cons x l ih =>
      intro h
      rw [List.map_cons, List.any_cons, List.all_cons, ih fun t ht => h t (List.mem_cons_of_mem _ ht)]
      cases x with
      | none => simp [face]
      | some t => simp [face_ne (h t (by simp))]
  rw [h.eq]
  exact this bd h.ok
theorem nb_any {s : State} {b : List Int} (h : Bd s.board b) {k : Nat} (hk : k < s.side * s.side) :
    ([s.next false k, s.next true k, s.before false k, s.before true k].any fun j => match j with
      | some m => (s.at_ m).isSome
      | none => false) = (neighbours s.side k).any fun j => tileAt b j := by
  have eat : ∀ m, (s.at_ m).isSome = tileAt b m := fun m => h.at_ m
  rw [next_k false hk, next_k true hk, before_k false hk, before_k true hk]
  have e0 := Nat.div_add_mod k s.side
  have hn : 0 < s.side := by
    cases q : s.side with
    | zero => rw [q] at hk; simp at hk
    | succ n => omega
  have e1 : sqr s.side false (laneOf s.side false k) (posOf s.side false k + 1) = k + 1 := by
    simp [sqr, laneOf, posOf]; rw [Nat.mul_comm]; omega
  have e2 : sqr s.side true (laneOf s.side true k) (posOf s.side true k + 1) = k + s.side := by
    simp [sqr, laneOf, posOf]; rw [Nat.add_mul, Nat.mul_comm]; omega
  have p1 : posOf s.side false k = k % s.side := rfl
  have p2 : posOf s.side true k = k / s.side := rfl
  rw [e1, e2, p1, p2]
  have e3 : 0 < k % s.side → sqr s.side false (laneOf s.side false k) (k % s.side - 1) = k - 1 := fun hp => by
    simp [sqr, laneOf]; rw [Nat.mul_comm]; omega
  have e4 : 0 < k / s.side → sqr s.side true (laneOf s.side true k) (k / s.side - 1) = k - s.side := fun hp => by
    obtain ⟨j, hj⟩ : ∃ j, k / s.side = j + 1 := ⟨k / s.side - 1, by omega⟩
    simp [sqr, laneOf]
    rw [hj] at e0 ⊢
    rw [Nat.mul_add, Nat.mul_comm] at e0
    simp
    omega
  unfold neighbours
  simp only [List.any_append]
  by_cases a1 : k % s.side + 1 < s.side <;> by_cases a2 : k / s.side + 1 < s.side <;> by_cases a3 : 0 < k % s.side <;> by_cases a4 : 0 < k / s.side <;>
    simp [a1, a2, a3, a4, e3, e4, eat, Bool.or_comm, Bool.or_left_comm, Bool.or_assoc]
theorem any_ext {α : Type} {f g : α → Bool} : ∀ {l : List α}, (∀ x ∈ l, f x = g x) → l.any f = l.any g
  | [], _ => rfl
  | x :: l, h => by rw [List.any_cons, List.any_cons, h x (by simp), any_ext fun y hy => h y (List.mem_cons_of_mem _ hy)]
theorem joined_eq {s : State} {b : List Int} (h : Bd s.board b) (ho : s.side % 2 = 1) {q : List Nat} (hq : ∀ k ∈ q, k < s.side * s.side) : s.joined q = isTied b s.side q := by
  unfold State.joined isTied
  rw [any_none_iff h, half_eq ho]
  by_cases e : (s.board.all fun x => x.isNone) = true
  · rw [if_pos e, e]; simp
  · rw [if_neg e, if_pos (by simpa using e)]
    unfold touches
    exact any_ext fun k hk => nb_any h (hq k hk)
end Tw
set_option linter.all false
namespace Tw
open Kg82
/-! ### A play's tiles -/
def faceI (z : Int) : Int := if z ≤ 26 then z else 26 - z
theorem face_tileOf {z : Int} (h1 : 1 ≤ z) (h2 : z ≤ 52) : face (some (tileOf z.toNat)) = faceI z := by
  unfold tileOf faceI
  by_cases h : z ≤ 26
  · rw [if_pos h, if_pos (by omega)]
    show ((z.toNat : Nat) : Int) = z
    omega
  · rw [if_neg h, if_neg (by omega)]
    show -((z.toNat - 26 : Nat) : Int) = 26 - z
    omega
theorem tileOf_ok {z : Int} (h1 : 1 ≤ z) (h2 : z ≤ 52) : TileOk (tileOf z.toNat) := by
  unfold tileOf TileOk
  by_cases h : z.toNat ≤ 26
  · rw [if_pos h]; simp only; omega
  · rw [if_neg h]; simp only; omega
def Tiles52 (l : List Int) : Prop := ∀ z ∈ l, 1 ≤ z ∧ z ≤ 52
theorem faces_eq : ∀ {l : List Int}, Tiles52 l → ((nats l).map tileOf).map (fun t => face (some t)) = l.map faceI
  | [], _ => rfl
  | z :: l, h => by
    have hz := h z (by simp)
    show face (some (tileOf z.toNat)) :: ((nats l).map tileOf).map (fun t => face (some t)) = faceI z :: l.map faceI
    rw [face_tileOf hz.1 hz.2, faces_eq fun y hy => h y (List.mem_cons_of_mem _ hy)]
theorem tiles_ok {l : List Int} (h : Tiles52 l) : ∀ t ∈ (nats l).map tileOf, TileOk t := by
  intro t ht
  obtain ⟨m, hm, rfl⟩ := List.mem_map.mp ht
  obtain ⟨z, hz, rfl⟩ := List.mem_map.mp hm
  exact tileOf_ok (h z hz).1 (h z hz).2
theorem faceI_ne {z : Int} (h1 : 1 ≤ z) (h2 : z ≤ 52) : faceI z ≠ 0 := by
  unfold faceI
  split <;> omega
theorem faces_ne {l : List Int} (h : Tiles52 l) : ∀ f ∈ l.map faceI, f ≠ 0 := by
  intro f hf
  obtain ⟨z, hz, rfl⟩ := List.mem_map.mp hf
  exact faceI_ne (h z hz).1 (h z hz).2
def tileIn (f : Int) : Nat := (max f 0).toNat
theorem tileIn_faceI {z : Int} (h1 : 1 ≤ z) (h2 : z ≤ 52) : tileIn (faceI z) = inHand z.toNat := by
  unfold tileIn faceI inHand
  by_cases h : z ≤ 26
  · rw [if_pos h, if_pos (by omega)]; omega
  · rw [if_neg h, if_neg (by omega)]; omega
theorem hand_tiles : ∀ {l : List Int}, Tiles52 l → (l.map faceI).map tileIn = (nats l).map inHand
  | [], _ => rfl
  | z :: l, h => by
    have hz := h z (by simp)
    show tileIn (faceI z) :: (l.map faceI).map tileIn = inHand z.toNat :: (nats l).map inHand
    rw [tileIn_faceI hz.1 hz.2, hand_tiles fun y hy => h y (List.mem_cons_of_mem _ hy)]
/-! ### Its squares -/
def lineFrom (n row col : Nat) (d : Bool) : List Nat := if d = true then (List.range' row (n - row)).map (fun p => p * n + col) else (List.range' col (n - col)).map (fun p => row * n + p)
def squaresFor (b : List Int) (n row col : Nat) (d : Bool) (faces : List Int) : List Nat :=
  if tileAt b (row * n + col) = true then [] else
  if (((lineFrom n row col d).filter fun k => !tileAt b k).take faces.length).length < faces.length ∨ isTied b n (((lineFrom n row col d).filter fun k => !tileAt b k).take faces.length) = false then [] else
  if (wordsOf (boardWith b (((lineFrom n row col d).filter fun k => !tileAt b k).take faces.length) faces) n (((lineFrom n row col d).filter fun k => !tileAt b k).take faces.length) d).length = 0 then [] else
  ((lineFrom n row col d).filter fun k => !tileAt b k).take faces.length
/-- the lane and the place that a play's row and column tell -/
def laneP (row col : Nat) (d : Bool) : Nat := if d = true then col else row
def posP (row col : Nat) (d : Bool) : Nat := if d = true then row else col
theorem lineFrom_eq (n row col : Nat) (d : Bool) : lineFrom n row col d = (List.range' (posP row col d) (n - posP row col d)).map (sqr n d (laneP row col d)) := by
  cases d <;> rfl
theorem sqP (n row col : Nat) (d : Bool) : row * n + col = sqr n d (laneP row col d) (posP row col d) := by
  cases d <;> rfl
theorem free_line (b : List Int) (n row col : Nat) (d : Bool) : ((lineFrom n row col d).filter fun k => !tileAt b k) = (freeP (alongB b n d (laneP row col d)) n (posP row col d)).map (sqr n d (laneP row col d)) := by
  rw [lineFrom_eq, List.filter_map]
  rfl
theorem laneP_lt {n row col : Nat} (d : Bool) (h1 : row < n) (h2 : col < n) : laneP row col d < n := by cases d <;> assumption
theorem posP_lt {n row col : Nat} (d : Bool) (h1 : row < n) (h2 : col < n) : posP row col d < n := by cases d <;> assumption
theorem mem_freeP {f : Nat → Bool} {n i p : Nat} : p ∈ freeP f n i ↔ i ≤ p ∧ p < n ∧ f p = false := by
  unfold freeP
  rw [List.mem_filter, List.mem_range'_1]
  constructor
  · rintro ⟨⟨h1, h2⟩, h3⟩
    exact ⟨h1, by omega, by simpa using h3⟩
  · rintro ⟨h1, h2, h3⟩
    exact ⟨⟨h1, by omega⟩, by simpa using h3⟩
theorem freeP_sorted (f : Nat → Bool) (n i : Nat) : (freeP f n i).Pairwise (· < ·) := (List.pairwise_lt_range' 1).filter _
theorem take_down : ∀ {L : List Nat} {m p j : Nat}, L.Pairwise (· < ·) → p ∈ L.take m → j ∈ L → j ≤ p → j ∈ L.take m
  | [], _, _, _, _, _, h, _ => by cases h
  | _ :: _, 0, _, _, _, h, _, _ => by simp at h
  | a :: L, m + 1, p, j, hs, hp, hj, hle => by
    rw [List.take_succ_cons] at hp ⊢
    rw [List.pairwise_cons] at hs
    rcases List.mem_cons.mp hj with e | hjL
    · subst e; simp
    · refine List.mem_cons_of_mem _ ?_
      rcases List.mem_cons.mp hp with e | hp
      · have := hs.1 j hjL
        omega
      · exact take_down hs.2 hp hjL hle
/-- what is known of the squares of a play, of the board with its tiles on it -/
structure LaidOk (b : List Int) (n : Nat) (d : Bool) (q : List Nat) : Prop where
  ne : q ≠ []
  nd : q.Nodup
  lt : ∀ k ∈ q, k < n * n
  tile : ∀ k ∈ q, tileAt b k = true
  line : ∃ lane p0, lane < n ∧ q.headD 0 = sqr n d lane p0 ∧ ∀ k ∈ q, ∃ p, k = sqr n d lane p ∧ p0 ≤ p ∧ p < n ∧ ∀ j, p0 ≤ j → j ≤ p → alongB b n d lane j = true
theorem sqr_inj {n lane i j : Nat} {d : Bool} (hl : lane < n) (hi : i < n) (hj : j < n) (e : sqr n d lane i = sqr n d lane j) : i = j := by
  have h1 := pos_sqr d hl hi
  rw [e, pos_sqr d hl hj] at h1
  exact h1.symm
theorem nodup_map_on {α β : Type} {f : α → β} : ∀ {l : List α}, (∀ x ∈ l, ∀ y ∈ l, f x = f y → x = y) → l.Nodup → (l.map f).Nodup
  | [], _, _ => List.nodup_nil
  | x :: l, h, hn => by
    rw [List.nodup_cons] at hn
    rw [List.map_cons, List.nodup_cons]
    refine ⟨fun hm => ?_, nodup_map_on (fun a ha b hb => h a (List.mem_cons_of_mem _ ha) b (List.mem_cons_of_mem _ hb)) hn.2⟩
    obtain ⟨y, hy, e⟩ := List.mem_map.mp hm
    have := h y (List.mem_cons_of_mem _ hy) x (by simp) e
    subst this
    exact hn.1 hy
theorem laid_ok {b : List Int} {n row col : Nat} {d : Bool} {faces : List Int} (hb : b.length = n * n) (h1 : row < n) (h2 : col < n) (hf : ∀ f ∈ faces, f ≠ 0) (hne : faces ≠ [])
    (ht : ¬ tileAt b (row * n + col) = true) (hlen : ¬ (((lineFrom n row col d).filter fun k => !tileAt b k).take faces.length).length < faces.length) :
    LaidOk (boardWith b (((lineFrom n row col d).filter fun k => !tileAt b k).take faces.length) faces) n d (((lineFrom n row col d).filter fun k => !tileAt b k).take faces.length) := by
  rw [free_line] at hlen ⊢
  generalize hL : laneP row col d = lane at *
  have hl : lane < n := by rw [← hL]; exact laneP_lt d h1 h2
  have hi : posP row col d < n := posP_lt d h1 h2
  rw [sqP n row col d, hL] at ht
  generalize posP row col d = i at *
  rw [← List.map_take] at hlen ⊢
  have fi : i ∈ freeP (alongB b n d lane) n i := mem_freeP.mpr ⟨Nat.le_refl _, hi, by unfold alongB; simpa using ht⟩
  have hm : ∀ p ∈ (freeP (alongB b n d lane) n i).take faces.length, i ≤ p ∧ p < n := fun p hp => by
    have := mem_freeP.mp (List.mem_of_mem_take hp)
    exact ⟨this.1, this.2.1⟩
  have hlt : ∀ k ∈ ((freeP (alongB b n d lane) n i).take faces.length).map (sqr n d lane), k < n * n := fun k hk => by
    obtain ⟨p, hp, rfl⟩ := List.mem_map.mp hk
    exact sqr_lt d hl (hm p hp).2
  have htl : ∀ k ∈ ((freeP (alongB b n d lane) n i).take faces.length).map (sqr n d lane), tileAt (boardWith b (((freeP (alongB b n d lane) n i).take faces.length).map (sqr n d lane)) faces) k = true := fun k hk => by
    refine boardWith_tile _ faces b k hf ?_ (fun k hk => by rw [hb]; exact hlt k hk) hk
    rw [List.length_map, List.length_take]
    omega
  have hne' : ∃ r, (freeP (alongB b n d lane) n i).take faces.length = i :: r := by
    have hs := freeP_sorted (alongB b n d lane) n i
    have hall : ∀ p ∈ freeP (alongB b n d lane) n i, i ≤ p := fun p hp => (mem_freeP.mp hp).1
    generalize freeP (alongB b n d lane) n i = L at *
    cases L with
    | nil => cases fi
    | cons a L =>
      have : a = i := by
        rcases List.mem_cons.mp fi with e | e
        · exact e.symm
        · rw [List.pairwise_cons] at hs
          have := hs.1 i e
          have := hall a (by simp)
          omega
      subst this
      cases faces with
      | nil => exact absurd rfl hne
      | cons f fs => exact ⟨_, by rw [List.length_cons, List.take_succ_cons]⟩
  obtain ⟨r, er⟩ := hne'
  refine ⟨by rw [er]; simp, ?_, hlt, htl, lane, i, hl, by rw [er]; rfl, ?_⟩
  · refine nodup_map_on (fun x hx y hy e => sqr_inj hl (hm x hx).2 (hm y hy).2 e) ?_
    exact List.Nodup.sublist (List.take_sublist _ _) ((freeP_sorted _ _ _).imp fun h => Nat.ne_of_lt h)
  · intro k hk
    obtain ⟨p, hp, rfl⟩ := List.mem_map.mp hk
    refine ⟨p, rfl, (hm p hp).1, (hm p hp).2, fun j hj1 hj2 => ?_⟩
    by_cases e : alongB b n d lane j = true
    · exact boardWith_keeps _ faces b _ hf e
    · refine htl _ (List.mem_map.mpr ⟨j, take_down (freeP_sorted _ _ _) hp (mem_freeP.mpr ⟨hj1, by have := (hm p hp).2; omega, by simpa using e⟩) hj2, rfl⟩)
structure BoardOk (s : State) (b : List Int) : Prop where
  bd : Bd s.board b
  len : s.board.length = s.side * s.side
theorem lay_ok {s : State} {b : List Int} (h : BoardOk s b) {l : List Int} (hl : Tiles52 l) (q : List Nat) : BoardOk (s.lay q ((nats l).map tileOf)) (boardWith b q (l.map faceI)) := by
  have := lay_board q ((nats l).map tileOf) s.board b h.bd (tiles_ok hl)
  rw [faces_eq hl] at this
  refine ⟨this, ?_⟩
  have e := this.len
  rw [boardWith_len, h.bd.len, h.len] at e
  exact e.symm
theorem okPlay_iff {s : State} {row col down : Int} {l : List Int} : okPlay s row col down l = true ↔ (0 ≤ row ∧ row < s.side) ∧ (0 ≤ col ∧ col < s.side) ∧ (0 ≤ down ∧ down ≤ 1) ∧ Tiles52 l ∧ 1 ≤ l.length ∧ l.length ≤ 7 := by
  unfold okPlay within Tiles52
  simp only [Bool.and_eq_true, decide_eq_true_eq, List.all_eq_true]
  constructor
  · rintro ⟨⟨a1, a2⟩, ⟨b1, b2⟩, ⟨c1, c2⟩, d, e, f⟩
    exact ⟨⟨a1, by omega⟩, ⟨b1, by omega⟩, ⟨c1, c2⟩, d, e, f⟩
  · rintro ⟨⟨a1, a2⟩, ⟨b1, b2⟩, ⟨c1, c2⟩, d, e, f⟩
    exact ⟨⟨a1, by omega⟩, ⟨b1, by omega⟩, ⟨c1, c2⟩, d, e, f⟩
theorem laid_eq {s : State} {b : List Int} (h : BoardOk s b) (ho : s.side % 2 = 1) {row col down : Int} {l : List Int} (ok : okPlay s row col down l = true) :
    laid s row col down l = if squaresFor b s.side row.toNat col.toNat (down == 1) (l.map faceI) = [] then none else some (squaresFor b s.side row.toNat col.toNat (down == 1) (l.map faceI)) := by
  obtain ⟨⟨a1, a2⟩, ⟨b1, b2⟩, ⟨c1, c2⟩, hT, e1, e2⟩ := okPlay_iff.mp ok
  have hr : row.toNat < s.side := by omega
  have hc : col.toNat < s.side := by omega
  have hne : l.map faceI ≠ [] := by
    intro e
    have := congrArg List.length e
    simp at this
    subst this
    simp at e1
  have hbl : b.length = s.side * s.side := by rw [h.bd.len, h.len]
  unfold laid squaresFor
  generalize (down == 1) = d
  simp only []
  generalize hq : (((lineFrom s.side row.toNat col.toNat d).filter fun k => !tileAt b k).take (l.map faceI).length) = q
  have eat : (s.at_ (row.toNat * s.side + col.toNat)).isSome = tileAt b (row.toNat * s.side + col.toNat) := h.bd.at_ _
  rw [eat]
  by_cases t : tileAt b (row.toNat * s.side + col.toNat) = true
  · rw [if_pos t, if_pos t]; rfl
  · rw [if_neg t, if_neg t]
    have hpl : s.places d s.side l.length (row.toNat * s.side + col.toNat) = if q.length < (l.map faceI).length then none else some q := by
      rw [sqP s.side row.toNat col.toNat d, places_eq (laneP_lt d hr hc) _ _ _ (posP_lt d hr hc) (by omega), along_eq h.bd]
      rw [free_line, ← List.map_take, List.length_map] at hq
      rw [List.length_map, ← hq, List.length_map, List.length_take]
      by_cases hm : l.length ≤ (freeP (alongB b s.side d (laneP row.toNat col.toNat d)) s.side (posP row.toNat col.toNat d)).length
      · rw [if_pos hm, if_neg (by omega)]
      · rw [if_neg hm, if_pos (by omega)]
    rw [hpl]
    by_cases hlen : q.length < (l.map faceI).length
    · have eR : (if q.length < (l.map faceI).length ∨ isTied b s.side q = false then [] else if (wordsOf (boardWith b q (l.map faceI)) s.side q d).length = 0 then [] else q) = [] := if_pos (.inl hlen)
      rw [if_pos hlen, eR]; rfl
    · rw [if_neg hlen]
      have lok := laid_ok (b := b) (d := d) (faces := l.map faceI) hbl hr hc (faces_ne hT) hne t (by rw [hq]; exact hlen)
      rw [hq] at lok
      show (if s.joined q = true then _ else none) = _
      rw [joined_eq h.bd ho lok.lt]
      by_cases ht : isTied b s.side q = true
      · have hno : ¬ (q.length < (l.map faceI).length ∨ isTied b s.side q = false) := by
          intro z
          rcases z with z | z
          · exact hlen z
          · rw [ht] at z; cases z
        have hm : (s.lay q ((nats l).map tileOf)).made d q = wordsOf (boardWith b q (l.map faceI)) s.side q d :=
          made_eq (s := s.lay q ((nats l).map tileOf)) (lay_ok h hT q).bd d lok.ne fun k hk => ⟨lok.lt k hk, lok.tile k hk⟩
        rw [if_pos ht, if_neg hno, hm]
        cases e : wordsOf (boardWith b q (l.map faceI)) s.side q d with
        | nil => rfl
        | cons w ws => simp [lok.ne]
      · have eR : (if q.length < (l.map faceI).length ∨ isTied b s.side q = false then [] else if (wordsOf (boardWith b q (l.map faceI)) s.side q d).length = 0 then [] else q) = [] := if_pos (.inr (by simpa using ht))
        rw [if_neg ht, eR]; rfl
/-- what is known when a play can be laid -/
theorem squaresFor_ok {b : List Int} {n row col : Nat} {d : Bool} {faces : List Int} (hb : b.length = n * n) (h1 : row < n) (h2 : col < n) (hf : ∀ f ∈ faces, f ≠ 0) (hne : faces ≠ [])
    (h : squaresFor b n row col d faces ≠ []) : LaidOk (boardWith b (squaresFor b n row col d faces) faces) n d (squaresFor b n row col d faces) ∧ (squaresFor b n row col d faces).length = faces.length := by
  unfold squaresFor at h
  by_cases t : tileAt b (row * n + col) = true
  · rw [if_pos t] at h; exact absurd rfl h
  rw [if_neg t] at h
  by_cases hlen : (((lineFrom n row col d).filter fun k => !tileAt b k).take faces.length).length < faces.length
  · rw [if_pos (.inl hlen)] at h; exact absurd rfl h
  by_cases ht : isTied b n (((lineFrom n row col d).filter fun k => !tileAt b k).take faces.length) = false
  · rw [if_pos (.inr ht)] at h; exact absurd rfl h
  have nor : ¬ ((((lineFrom n row col d).filter fun k => !tileAt b k).take faces.length).length < faces.length ∨ isTied b n (((lineFrom n row col d).filter fun k => !tileAt b k).take faces.length) = false) := fun z => z.elim hlen ht
  rw [if_neg nor] at h
  by_cases hw : (wordsOf (boardWith b (((lineFrom n row col d).filter fun k => !tileAt b k).take faces.length) faces) n (((lineFrom n row col d).filter fun k => !tileAt b k).take faces.length) d).length = 0
  · rw [if_pos hw] at h; exact absurd rfl h
  have e : squaresFor b n row col d faces = (((lineFrom n row col d).filter fun k => !tileAt b k).take faces.length) := by
    unfold squaresFor
    rw [if_neg t, if_neg nor, if_neg hw]
  rw [e]
  refine ⟨laid_ok hb h1 h2 hf hne t hlen, ?_⟩
  have := List.length_take_le faces.length ((lineFrom n row col d).filter fun k => !tileAt b k)
  omega
end Tw
set_option linter.all false
namespace Tw
open Kg82
/-! ### What a play counts -/
def ltimes (e : Nat) : Nat := ([1, 2, 3, 1, 1] : List Nat).getD e 1
def wtimes (e : Nat) : Nat := ([1, 1, 1, 2, 3] : List Nat).getD e 1
def letW (b : List Int) (laid squares worths : List Nat) (k : Nat) : Nat := worths.getD (tileIn (b.getD k 0)) 0 * (if laid.contains k = true then ltimes (squares.getD k 0) else 1)
def wrdW (laid squares : List Nat) (k : Nat) : Nat := if laid.contains k = true then wtimes (squares.getD k 0) else 1
def worthOfWord (b : List Int) (run laid squares worths : List Nat) : Nat := (run.map (letW b laid squares worths)).sum * (run.map (wrdW laid squares)).foldl (fun a b => a * b) 1
def worthOfPlay (b : List Int) (words : List (List Nat)) (laid squares worths : List Nat) : Nat := (words.map fun w => worthOfWord b w laid squares worths).sum + if laid.length = 7 then 50 else 0
def lettersOn (b : List Int) (run : List Nat) : List Nat := run.map fun k => (b.getD k 0).natAbs
theorem ltimes_eq (e : Nat) : ltimes e = if e = 1 then 2 else if e = 2 then 3 else 1 := by
  match e with
  | 0 => rfl
  | 1 => rfl
  | 2 => rfl
  | 3 => rfl
  | 4 => rfl
  | e + 5 => simp [ltimes]
theorem wtimes_eq (e : Nat) : wtimes e = if e = 3 then 2 else if e = 4 then 3 else 1 := by
  match e with
  | 0 => rfl
  | 1 => rfl
  | 2 => rfl
  | 3 => rfl
  | 4 => rfl
  | e + 5 => simp [wtimes]
theorem tileWorth_eq {s : State} {b : List Int} (h : Bd s.board b) (hw : s.worth.getD 0 0 = 0) (k : Nat) : s.tileWorth k = s.worth.getD (tileIn (b.getD k 0)) 0 := by
  unfold State.tileWorth
  have e : b.getD k 0 = face (s.at_ k) := h.getD k
  rw [e]
  cases q : s.at_ k with
  | none => exact hw.symm
  | some t =>
    show (if t.blank = true then 0 else s.worth.getD t.letter 0) = s.worth.getD (tileIn (if t.blank = true then -(t.letter : Int) else (t.letter : Int))) 0
    by_cases hb : t.blank = true
    · rw [if_pos hb, if_pos hb]
      have : tileIn (-(t.letter : Int)) = 0 := by unfold tileIn; omega
      rw [this, hw]
    · rw [if_neg hb, if_neg hb]
      have : tileIn (t.letter : Int) = t.letter := by unfold tileIn; omega
      rw [this]
theorem wordWorth_eq {s : State} {b : List Int} (h : Bd s.board b) (hw : s.worth.getD 0 0 = 0) (new w : List Nat) : s.wordWorth new w = worthOfWord b w new s.extra s.worth := by
  unfold State.wordWorth worthOfWord
  simp only []
  congr 1
  · congr 1
    apply List.map_congr_left
    intro k _
    unfold letW
    rw [tileWorth_eq h hw]
    congr 1
    by_cases q : new.contains k = true
    · simp only [if_pos q, ltimes_eq]
    · simp only [if_neg q]; rfl
  · congr 1
    apply List.map_congr_left
    intro k _
    unfold wrdW
    by_cases q : new.contains k = true
    · simp only [if_pos q, wtimes_eq]
    · simp only [if_neg q]; rfl
theorem playWorth_eq {s : State} {b : List Int} (h : Bd s.board b) (hw : s.worth.getD 0 0 = 0) (d : Bool) {q : List Nat} (ok : LaidOk b s.side d q) : s.playWorth d q = worthOfPlay b (wordsOf b s.side q d) q s.extra s.worth := by
  unfold State.playWorth worthOfPlay
  rw [made_eq h d ok.ne fun k hk => ⟨ok.lt k hk, ok.tile k hk⟩]
  congr 2
  apply List.map_congr_left
  intro w _
  exact wordWorth_eq h hw q w
theorem letters_eq {s : State} {b : List Int} (h : Bd s.board b) (w : List Nat) : s.letters w = lettersOn b w := by
  unfold State.letters lettersOn
  apply List.map_congr_left
  intro k _
  have e : b.getD k 0 = face (s.at_ k) := h.getD k
  rw [e]
  cases q : s.at_ k with
  | none => rfl
  | some t =>
    show t.letter = (if t.blank = true then -(t.letter : Int) else (t.letter : Int)).natAbs
    split <;> omega
/-! ### Out of a hand, out of the bag -/
def inHandAll (hand l : List Nat) : Bool := l.all fun x => decide (l.count x ≤ hand.count x)
theorem taken_eq : ∀ (l hand : List Nat), taken hand l = if (∀ x ∈ l, l.count x ≤ hand.count x) then some (l.foldl (fun h x => h.erase x) hand) else none
  | [], hand => by simp [taken]
  | x :: l, hand => by
    unfold taken
    by_cases hx : hand.contains x = true
    · rw [if_pos hx, taken_eq l (hand.erase x)]
      have hx' : x ∈ hand := by simpa using hx
      have hc : 0 < hand.count x := List.count_pos_iff.mpr hx'
      have iff : (∀ y ∈ l, l.count y ≤ (hand.erase x).count y) ↔ (∀ y ∈ x :: l, (x :: l).count y ≤ hand.count y) := by
        constructor
        · intro h y hy
          rw [List.count_cons]
          by_cases e : x = y
          · subst e
            simp only [beq_self_eq_true, if_true]
            by_cases m : x ∈ l
            · have := h x m
              rw [List.count_erase] at this
              simp only [beq_self_eq_true, if_true] at this
              omega
            · rw [List.count_eq_zero_of_not_mem m]; omega
          · have e' : (x == y) = false := by simpa using e
            rw [e']
            have m : y ∈ l := by
              rcases List.mem_cons.mp hy with q | q
              · exact absurd q.symm e
              · exact q
            have := h y m
            rw [List.count_erase, e'] at this
            simpa using this
        · intro h y hy
          have := h y (List.mem_cons_of_mem _ hy)
          rw [List.count_cons] at this
          rw [List.count_erase]
          omega
      by_cases c : ∀ y ∈ l, l.count y ≤ (hand.erase x).count y
      · rw [if_pos c, if_pos (iff.mp c)]; rfl
      · rw [if_neg c, if_neg (fun z => c (iff.mpr z))]
    · rw [if_neg hx, if_neg]
      intro h
      have := h x (by simp)
      rw [List.count_cons] at this
      simp only [beq_self_eq_true, if_true] at this
      have : 0 < hand.count x := by omega
      exact hx (by simpa using List.count_pos_iff.mp this)
theorem inHandAll_iff {hand l : List Nat} : inHandAll hand l = true ↔ ∀ x ∈ l, l.count x ≤ hand.count x := by
  unfold inHandAll
  simp [List.all_eq_true]
theorem taken_eq' (l hand : List Nat) : taken hand l = if inHandAll hand l = true then some (l.foldl (fun h x => h.erase x) hand) else none := by
  rw [taken_eq]
  by_cases h : inHandAll hand l = true
  · rw [if_pos h, if_pos (inHandAll_iff.mp h)]
  · rw [if_neg h, if_neg (fun z => h (inHandAll_iff.mpr z))]
theorem taken_len : ∀ (l hand h : List Nat), taken hand l = some h → h.length + l.length = hand.length
  | [], hand, h, e => by
    have : hand = h := Option.some.inj e
    subst this; simp
  | x :: l, hand, h, e => by
    unfold taken at e
    by_cases hx : hand.contains x = true
    · rw [if_pos hx] at e
      have := taken_len l _ _ e
      have hx' : x ∈ hand := by simpa using hx
      have h1 := List.length_erase_of_mem hx'
      have h2 : 0 < hand.length := List.length_pos_of_mem hx'
      simp only [List.length_cons]
      omega
    · rw [if_neg hx] at e; cases e
def inBagAll (bag l : List Nat) : Bool := l.all fun x => decide (l.count x ≤ bag.getD x 0)
def drawn (bag l : List Nat) : List Nat := l.foldl (fun b x => b.set x (b.getD x 0 - 1)) bag
theorem getD_set (l : List Nat) (i j v : Nat) (h : i < l.length) : (l.set i v).getD j 0 = if i = j then v else l.getD j 0 := by
  simp only [List.getD_eq_getElem?_getD, List.getElem?_set]
  by_cases e : i = j
  · subst e; simp [h]
  · simp [e]
theorem fromBag_eq : ∀ (l bag : List Nat), fromBag bag l = if (∀ x ∈ l, l.count x ≤ bag.getD x 0) then some (drawn bag l) else none
  | [], bag => by simp [fromBag, drawn]
  | x :: l, bag => by
    unfold fromBag
    by_cases hx : 0 < bag.getD x 0
    · have hl : x < bag.length := by
        apply Classical.byContradiction
        intro q
        rw [List.getD_eq_getElem?_getD, List.getElem?_eq_none (by omega)] at hx
        simp at hx
      rw [if_pos hx, fromBag_eq l]
      have iff : (∀ y ∈ l, l.count y ≤ (bag.set x (bag.getD x 0 - 1)).getD y 0) ↔ (∀ y ∈ x :: l, (x :: l).count y ≤ bag.getD y 0) := by
        constructor
        · intro h y hy
          rw [List.count_cons]
          by_cases e : x = y
          · subst e
            simp only [beq_self_eq_true, if_true]
            by_cases m : x ∈ l
            · have := h x m
              rw [getD_set _ _ _ _ hl, if_pos rfl] at this
              omega
            · rw [List.count_eq_zero_of_not_mem m]; omega
          · have e' : (x == y) = false := by simpa using e
            rw [e']
            have m : y ∈ l := by
              rcases List.mem_cons.mp hy with q | q
              · exact absurd q.symm e
              · exact q
            have := h y m
            rw [getD_set _ _ _ _ hl, if_neg e] at this
            simpa using this
        · intro h y hy
          have := h y (List.mem_cons_of_mem _ hy)
          rw [List.count_cons] at this
          rw [getD_set _ _ _ _ hl]
          by_cases e : x = y
          · subst e
            rw [if_pos rfl]
            simp only [beq_self_eq_true, if_true] at this
            omega
          · have e' : (x == y) = false := by simpa using e
            rw [e'] at this
            rw [if_neg e]
            simpa using this
      by_cases c : ∀ y ∈ l, l.count y ≤ (bag.set x (bag.getD x 0 - 1)).getD y 0
      · rw [if_pos c, if_pos (iff.mp c)]; rfl
      · rw [if_neg c, if_neg (fun z => c (iff.mpr z))]
    · rw [if_neg hx, if_neg]
      intro h
      have := h x (by simp)
      rw [List.count_cons] at this
      simp only [beq_self_eq_true, if_true] at this
      omega
theorem fromBag_eq' (l bag : List Nat) : fromBag bag l = if inBagAll bag l = true then some (drawn bag l) else none := by
  rw [fromBag_eq]
  have iff : inBagAll bag l = true ↔ ∀ x ∈ l, l.count x ≤ bag.getD x 0 := by
    unfold inBagAll
    simp [List.all_eq_true]
  by_cases h : inBagAll bag l = true
  · rw [if_pos h, if_pos (iff.mp h)]
  · rw [if_neg h, if_neg (fun z => h (iff.mpr z))]
theorem toBag_len : ∀ (l bag : List Nat), (toBag bag l).length = bag.length
  | [], _ => rfl
  | x :: l, bag => by
    show (toBag (bag.set x (bag.getD x 0 + 1)) l).length = bag.length
    rw [toBag_len l, List.length_set]
theorem drawn_len : ∀ (l bag : List Nat), (drawn bag l).length = bag.length
  | [], _ => rfl
  | x :: l, bag => by
    show (drawn (bag.set x (bag.getD x 0 - 1)) l).length = bag.length
    rw [drawn_len l, List.length_set]
/-! ### Words that the list doesn't have -/
def missStep (words : List (List Nat)) (acc : List (List Nat)) (w : List Nat) : List (List Nat) := if (!words.contains w && !acc.contains w) = true then acc ++ [w] else acc
def missing (words ws : List (List Nat)) : List (List Nat) := ws.foldl (missStep words) []
theorem miss_acc (words : List (List Nat)) : ∀ (ws acc : List (List Nat)), acc.Nodup → (∀ w ∈ acc, w ∉ words) → (ws.foldl (missStep words) acc).Nodup ∧ ∀ w, w ∈ ws.foldl (missStep words) acc ↔ w ∈ acc ∨ (w ∈ ws ∧ w ∉ words)
  | [], acc, hn, _ => ⟨hn, fun w => by simp⟩
  | x :: ws, acc, hn, ha => by
    by_cases h : (!words.contains x && !acc.contains x) = true
    · have e : (x :: ws).foldl (missStep words) acc = ws.foldl (missStep words) (acc ++ [x]) := by
        show ws.foldl (missStep words) (missStep words acc x) = _
        unfold missStep
        rw [if_pos h]
      rw [e]
      simp only [Bool.and_eq_true, Bool.not_eq_true', List.contains_eq_mem, decide_eq_false_iff_not] at h
      obtain ⟨h1, h2⟩ := miss_acc words ws (acc ++ [x]) (by
        rw [List.nodup_append]
        refine ⟨hn, by simp, fun a ha b hb => ?_⟩
        simp at hb
        subst hb
        intro q
        subst q
        exact h.2 ha) (fun w hw => by
        rcases List.mem_append.mp hw with q | q
        · exact ha w q
        · simp at q; subst q; exact h.1)
      refine ⟨h1, fun w => ?_⟩
      rw [h2 w]
      simp only [List.mem_append, List.mem_cons, List.not_mem_nil, or_false]
      constructor
      · rintro ((q | q) | q)
        · exact .inl q
        · subst q; exact .inr ⟨.inl rfl, h.1⟩
        · exact .inr ⟨.inr q.1, q.2⟩
      · rintro (q | ⟨q | q, r⟩)
        · exact .inl (.inl q)
        · exact .inl (.inr q)
        · exact .inr ⟨q, r⟩
    · have e : (x :: ws).foldl (missStep words) acc = ws.foldl (missStep words) acc := by
        show ws.foldl (missStep words) (missStep words acc x) = _
        unfold missStep
        rw [if_neg h]
      rw [e]
      obtain ⟨h1, h2⟩ := miss_acc words ws acc hn ha
      refine ⟨h1, fun w => ?_⟩
      rw [h2 w]
      simp only [Bool.and_eq_true, Bool.not_eq_true', List.contains_eq_mem, decide_eq_false_iff_not] at h
      simp only [List.mem_cons]
      constructor
      · rintro (q | q)
        · exact .inl q
        · exact .inr ⟨.inr q.1, q.2⟩
      · rintro (q | ⟨q | q, r⟩)
        · exact .inl q
        · subst q
          by_cases z : w ∈ acc
          · exact .inl z
          · exact absurd ⟨r, z⟩ h
        · exact .inr ⟨q, r⟩
theorem eraseDups_nodup : ∀ (n : Nat) (l : List (List Nat)), l.length ≤ n → l.eraseDups.Nodup
  | _, [], _ => by simp
  | 0, x :: l, h => by simp at h
  | n + 1, x :: l, h => by
    rw [List.eraseDups_cons, List.nodup_cons]
    refine ⟨fun hm => ?_, eraseDups_nodup n _ ?_⟩
    · rw [List.mem_eraseDups, List.mem_filter] at hm
      simp at hm
    · have := List.length_filter_le (fun b => !b == x) l
      simp only [List.length_cons] at h
      omega
theorem missing_len {words ws vs : List (List Nat)} (h : ∀ w, w ∈ ws ↔ w ∈ vs) : (missing words ws).length = ((vs.eraseDups).filter fun w => !(words.contains w)).length := by
  obtain ⟨h1, h2⟩ := miss_acc words ws [] (by simp) (by simp)
  have n2 : ((vs.eraseDups).filter fun w => !(words.contains w)).Nodup := List.Nodup.sublist List.filter_sublist (eraseDups_nodup _ vs (Nat.le_refl _))
  have mem : ∀ w, w ∈ missing words ws ↔ w ∈ ((vs.eraseDups).filter fun w => !(words.contains w)) := by
    intro w
    unfold missing
    rw [h2 w, List.mem_filter, List.mem_eraseDups]
    simp [h w]
  exact Nat.le_antisymm (h1.length_le_of_subset fun w hw => (mem w).mp hw) (n2.length_le_of_subset fun w hw => (mem w).mpr hw)
theorem run_same {b : List Int} {n : Nat} {d : Bool} {q : List Nat} (ok : LaidOk b n d q) : ∀ k ∈ q, runThrough b n k d = runThrough b n (q.headD 0) d := by
  intro k hk
  obtain ⟨lane, p0, hl, hh, hall⟩ := ok.line
  obtain ⟨p, rfl, h1, h2, h3⟩ := hall k hk
  rw [hh]
  unfold runThrough
  rw [lane_sqr d hl h2, pos_sqr d hl h2, lane_sqr d hl (by omega), pos_sqr d hl (by omega)]
  congr 1
  exact (stretch_same _ h2 h1 h3).symm
theorem words_mem {s : State} {b : List Int} (h : Bd s.board b) {d : Bool} {q : List Nat} (ok : LaidOk b s.side d q) (w : List Nat) :
    w ∈ (wordsOf b s.side q d).map (lettersOn b) ↔ w ∈ (s.made false q ++ s.made true q).map s.letters := by
  have e1 : ∀ d', s.made d' q = wordsOf b s.side q d' := fun d' => made_eq h d' ok.ne fun k hk => ⟨ok.lt k hk, ok.tile k hk⟩
  have key : ∀ v, v ∈ wordsOf b s.side q d ↔ v ∈ s.made false q ++ s.made true q := by
    intro v
    rw [List.mem_append, e1, e1]
    have hd : q.headD 0 ∈ q := by
      cases q with
      | nil => exact absurd rfl ok.ne
      | cons a q => simp
    have sub : v ∈ wordsOf b s.side q (!d) → v ∈ wordsOf b s.side q d := by
      intro hv
      unfold wordsOf at hv ⊢
      rw [List.mem_filter] at hv ⊢
      refine ⟨?_, hv.2⟩
      rcases List.mem_cons.mp hv.1 with q1 | q1
      · refine List.mem_cons_of_mem _ (List.mem_map.mpr ⟨_, hd, q1.symm⟩)
      · obtain ⟨k, hk, rfl⟩ := List.mem_map.mp q1
        rw [Bool.not_not, run_same ok k hk]
        simp
    constructor
    · intro hv
      cases d
      · exact .inl hv
      · exact .inr hv
    · intro hv
      cases d
      · rcases hv with q1 | q1
        · exact q1
        · exact sub q1
      · rcases hv with q1 | q1
        · exact sub q1
        · exact q1
  constructor
  · intro hw
    obtain ⟨v, hv, rfl⟩ := List.mem_map.mp hw
    exact List.mem_map.mpr ⟨v, (key v).mp hv, letters_eq h v⟩
  · intro hw
    obtain ⟨v, hv, rfl⟩ := List.mem_map.mp hw
    exact List.mem_map.mpr ⟨v, (key v).mpr hv, (letters_eq h v).symm⟩
end Tw
set_option linter.all false
namespace Tw
open Kg82
/-! ### The game as the program keeps it -/
structure G where
  rows : Nat
  players : Nat
  worths : List Nat
  bag : List Nat
  squares : List Nat
  board : List Int
  hands : List (List Nat)
  points : List Int
  lost : List Nat
  words : List (List Nat)
  phase : Nat
  turn : Nat
  due : Nat
  aside : List Nat
  laid : List Nat
  down : Bool
  counted : Nat
  idle : Nat
def G.init : G := ⟨0, 0, [], [], [], [], [], [], [], [], 3, 0, 0, [], [], false, 0, 0⟩
def G.setUp (n p : Nat) (w b e : List Nat) : G := ⟨n, p, w, b, e, List.replicate (n * n) 0, List.replicate p [], List.replicate p 0, List.replicate p 0, [], 0, 0, 7, [], [], false, 0, 0⟩
def standing (g : G) : List Int := ([(g.phase : Int), (g.turn : Int), (g.due : Int), (g.bag.sum : Int)] : List Int) ++ g.points
def hw (w hand : List Nat) : Nat := (hand.map fun x => w.getD x 0).sum
def endGame (g : G) : G := { g with points := List.zipWith (fun p (h : List Nat) => if h = [] then p + (((g.hands.map (hw g.worths)).sum : Nat) : Int) else p - ((hw g.worths h : Nat) : Int)) g.points g.hands, phase := 3, turn := 0, due := 0 }
def goLoop : Nat → G → G
  | 0, g => g
  | f + 1, g => if g.lost.getD g.turn 0 = 1 then
      (if 6 ≤ g.idle + 1 then endGame { g with lost := g.lost.set g.turn 0, idle := g.idle + 1 } else goLoop f { g with lost := g.lost.set g.turn 0, idle := g.idle + 1, turn := (g.turn + 1) % g.players })
    else { g with phase := 1, due := 0 }
def goNext (g : G) : G := goLoop 6 { g with turn := (g.turn + 1) % g.players }
def playedOut (g : G) : Bool := decide (g.bag.sum = 0) && g.hands.any fun h => h.isEmpty
def endTurn (g : G) (c : Nat) : G :=
  if 6 ≤ (if 0 < c then 0 else g.idle + 1) ∨ playedOut g = true then endGame { g with idle := if 0 < c then 0 else g.idle + 1 } else goNext { g with idle := if 0 < c then 0 else g.idle + 1 }
def followFirst (g : G) : G := if g.turn + 1 < g.players then { g with turn := g.turn + 1 } else { g with turn := 0, phase := 1, due := 0 }
def followDraw (g : G) : G := if g.phase = 2 then endTurn g g.counted else if g.aside ≠ [] then endTurn { g with bag := toBag g.bag g.aside, aside := [] } 0 else followFirst g
def isGame (n p : Int) (w b e : List Int) : Bool :=
  (decide (3 ≤ n) && decide (n ≤ 11)) && (decide (n % 2 = 1) && ((decide (2 ≤ p) && decide (p ≤ 4)) && (decide (w.length = 27) && (w.all (fun z => within z 0 20) && (decide (w.headD 0 = 0) && (decide (b.length = 27) && (b.all (fun z => within z 0 30) && (decide ((e.length : Int) = n * n) && e.all (fun z => within z 0 4)))))))))
def beginG (g : G) (n p : Int) (w b e : List Int) : G × List Int :=
  if isGame n p w b e = false then (g, [-1]) else if b.sum < 7 * p then (g, [-5]) else (G.setUp n.toNat p.toNat (nats w) (nats b) (nats e), [0])
def wordG (g : G) (l : List Int) : G × List Int :=
  if (decide (2 ≤ l.length) && decide (l.length ≤ 11) && l.all (fun z => within z 1 26)) = false then (g, [-1])
  else if g.players = 0 then (g, [-2]) else if 300 ≤ g.words.length then (g, [-5]) else ({ g with words := g.words ++ [nats l] }, [((g.words.length + 1 : Nat) : Int)])
def drawnG (g : G) (l : List Nat) : G := { g with bag := drawn g.bag l, hands := g.hands.set g.turn (g.hands.getD g.turn [] ++ l) }
def drawG (g : G) (l : List Int) : G × List Int :=
  if l.all (fun z => within z 0 26) = false then (g, [-1]) else if g.phase ≠ 0 ∧ g.phase ≠ 2 then (g, [-3]) else if l.length ≠ g.due then (g, [-4])
  else if inBagAll g.bag (nats l) = false then (g, [-5]) else (followDraw (drawnG g (nats l)), 0 :: standing (followDraw (drawnG g (nats l))))
def okPlayG (g : G) (row col down : Int) (l : List Int) : Bool :=
  decide (0 ≤ row ∧ row < g.rows) && (decide (0 ≤ col ∧ col < g.rows) && (decide (0 ≤ down ∧ down ≤ 1) && ((decide (1 ≤ l.length) && decide (l.length ≤ 7)) && l.all (fun z => within z 1 52))))
def putG (g : G) (q : List Nat) (d : Bool) (faces : List Int) : G :=
  { g with hands := g.hands.set g.turn ((faces.map tileIn).foldl (fun h x => h.erase x) (g.hands.getD g.turn [])), board := boardWith g.board q faces, laid := q, down := d, counted := worthOfPlay (boardWith g.board q faces) (wordsOf (boardWith g.board q faces) g.rows q d) q g.squares g.worths, points := g.points.set g.turn (g.points.getD g.turn 0 + ((worthOfPlay (boardWith g.board q faces) (wordsOf (boardWith g.board q faces) g.rows q d) q g.squares g.worths : Nat) : Int)), phase := 2, due := min (7 - ((faces.map tileIn).foldl (fun h x => h.erase x) (g.hands.getD g.turn [])).length) g.bag.sum }
def playG (g : G) (row col down : Int) (l : List Int) : G × List Int :=
  if okPlayG g row col down l = false then (g, [-1]) else if g.phase ≠ 1 then (g, [-3])
  else if inHandAll (g.hands.getD g.turn []) ((l.map faceI).map tileIn) = false then (g, [-4])
  else if squaresFor g.board g.rows row.toNat col.toNat (down == 1) (l.map faceI) = [] then (g, [-6])
  else (putG g (squaresFor g.board g.rows row.toNat col.toNat (down == 1) (l.map faceI)) (down == 1) (l.map faceI),
    ((putG g (squaresFor g.board g.rows row.toNat col.toNat (down == 1) (l.map faceI)) (down == 1) (l.map faceI)).counted : Int) :: standing (putG g (squaresFor g.board g.rows row.toNat col.toNat (down == 1) (l.map faceI)) (down == 1) (l.map faceI)))
def unlisted (g : G) : List (List Nat) := missing g.words ((wordsOf g.board g.rows g.laid g.down).map (lettersOn g.board))
def takeBack (g : G) : G :=
  { g with hands := g.hands.set g.turn (g.hands.getD g.turn [] ++ g.laid.map fun k => tileIn (g.board.getD k 0)), board := g.laid.foldl (fun b k => b.set k 0) g.board, points := g.points.set g.turn (g.points.getD g.turn 0 - (g.counted : Int)) }
def challengeG (g : G) (i : Int) : G × List Int :=
  if decide (0 ≤ i ∧ i < g.players) = false then (g, [-1]) else if g.phase ≠ 2 then (g, [-3]) else if i = g.turn then (g, [-4])
  else if 0 < (unlisted g).length then (endTurn (takeBack g) 0, ((unlisted g).length : Int) :: standing (endTurn (takeBack g) 0))
  else ({ g with lost := g.lost.set i.toNat 1 }, 0 :: standing { g with lost := g.lost.set i.toNat 1 })
def swappedG (g : G) (l : List Nat) : G := { g with hands := g.hands.set g.turn (l.foldl (fun h x => h.erase x) (g.hands.getD g.turn [])), aside := l, phase := 0, due := l.length }
def swapG (g : G) (l : List Int) : G × List Int :=
  if (decide (l.length ≠ 0) && l.all (fun z => within z 0 26)) = false then (g, [-1]) else if g.phase ≠ 1 then (g, [-3]) else if g.bag.sum < 7 then (g, [-5])
  else if inHandAll (g.hands.getD g.turn []) (nats l) = false then (g, [-4]) else (swappedG g (nats l), (l.length : Int) :: standing (swappedG g (nats l)))
def passG (g : G) : G × List Int := if g.phase ≠ 1 then (g, [-3]) else (endTurn g 0, 0 :: standing (endTurn g 0))
def nowG (g : G) : List Int := (g.phase : Int) :: standing g
def handG (g : G) (i : Int) : List Int := if decide (0 ≤ i ∧ i < g.players) = false then [-1] else ((g.hands.getD i.toNat []).length : Int) :: (g.lost.getD i.toNat 0 : Int) :: whole (g.hands.getD i.toNat [])
def boardG (g : G) : List Int := (g.rows : Int) :: g.board
def countG (g : G) (row col down : Int) (l : List Int) : List Int :=
  if okPlayG g row col down l = false then [-1]
  else if squaresFor g.board g.rows row.toNat col.toNat (down == 1) (l.map faceI) = [] then [-6]
  else let q := squaresFor g.board g.rows row.toNat col.toNat (down == 1) (l.map faceI)
    let b := boardWith g.board q (l.map faceI)
    let ws := wordsOf b g.rows q (down == 1)
    (worthOfPlay b ws q g.squares g.worths : Int) :: (ws.length : Int) :: ws.flatMap fun w => (w.length : Int) :: (whole (lettersOn b w) ++ [((worthOfWord b w q g.squares g.worths : Nat) : Int)])
/-! ### What is known between calls -/
def Static (s : State) : Prop :=
  (s.side = 0 ∧ s.players = [] ∧ s.phase = 3) ∨
  ((3 ≤ s.side ∧ s.side ≤ 11 ∧ s.side % 2 = 1) ∧ (2 ≤ s.players.length ∧ s.players.length ≤ 4) ∧ (s.worth.length = 27 ∧ ∀ x ∈ s.worth, x ≤ 20) ∧ s.bag.length = 27 ∧ s.extra.length = s.side * s.side ∧ ∀ x ∈ s.extra, x ≤ 4)
def Full (s : State) (j : Nat) (m : Nat) : Prop := (s.player j).hand.length + m ≤ 7 ∧ (7 ≤ s.left → (s.player j).hand.length + m = 7)
structure D0a (s : State) (g : G) : Prop where
  ph : s.phase = 0
  started : s.started = false
  back : s.back = []
  dry : s.dry = 0
  idle : g.idle = 0
  who : s.who < s.players.length
  low : ∀ j, j < s.who → (s.player j).hand.length = 7
  high : ∀ j, s.who ≤ j → (s.player j).hand = []
  left : 7 * (s.players.length - s.who) ≤ s.left
  skip : ∀ j, (s.player j).skip = false
structure D0b (s : State) (g : G) : Prop where
  ph : s.phase = 0
  started : s.started = true
  back : s.back ≠ []
  dry : s.dry = g.idle + 1
  idle : g.idle < 6
  who : s.who < s.players.length
  others : ∀ j, j < s.players.length → j ≠ s.who → (s.player j).hand.length = 7
  own : (s.player s.who).hand.length + s.back.length = 7
  left : 7 ≤ s.left
  skip : (s.player s.who).skip = false
structure D1 (s : State) (g : G) : Prop where
  ph : s.phase = 1
  started : s.started = true
  back : s.back = []
  dry : s.dry = g.idle
  idle : g.idle < 6
  who : s.who < s.players.length
  full : ∀ j, j < s.players.length → Full s j 0
  skip : (s.player s.who).skip = false
structure D2 (s : State) (g : G) : Prop where
  ph : s.phase = 2
  started : s.started = true
  back : s.back = []
  dry : s.dry = if g.counted = 0 then g.idle + 1 else 0
  idle : g.idle < 6
  who : s.who < s.players.length
  others : ∀ j, j < s.players.length → j ≠ s.who → Full s j 0
  own : Full s s.who g.laid.length
  skip : (s.player s.who).skip = false
  last : s.last = some ⟨s.who, g.laid, g.laid.map fun k => tileIn (g.board.getD k 0), g.counted, g.idle⟩
  laid : LaidOk g.board s.side g.down g.laid
def Dyn (s : State) (g : G) : Prop := s.phase = 3 ∨ D0a s g ∨ D0b s g ∨ D1 s g ∨ D2 s g
/-- the data are one -/
structure Data (s : State) (g : G) : Prop where
  rows : g.rows = s.side
  players : g.players = s.players.length
  worths : g.worths = s.worth
  bag : g.bag = s.bag
  squares : g.squares = s.extra
  board : BoardOk s g.board
  hands : g.hands = s.players.map Player.hand
  points : g.points = s.players.map Player.points
  lost : g.lost = s.players.map fun p => if p.skip = true then 1 else 0
  words : g.words = s.words
  phase : g.phase = s.phase
  turn : g.turn = if s.phase = 3 then 0 else s.who
  due : g.due = if s.phase = 0 ∨ s.phase = 2 then s.due else 0
  aside : g.aside = s.back
structure Safe (s : State) : Prop where
  static : Static s
  w0 : s.worth.getD 0 0 = 0
  tiles : ∀ p ∈ s.players, ∀ x ∈ p.hand, x ≤ 26
  back : ∀ x ∈ s.back, x ≤ 26
structure Sim (s : State) (g : G) : Prop where
  data : Data s g
  safe : Safe s
  dyn : Dyn s g
theorem told_eq {s : State} {g : G} (D : Data s g) : told s = standing g := by
  unfold told standing Kg82.whole State.left
  rw [D.phase, D.turn, D.due, D.bag, D.points]
  rfl
theorem pl_len {s : State} {i : Nat} {p : Player} : (s.setPlayer i p).players.length = s.players.length := by
  unfold State.setPlayer; simp
theorem pl_set {s : State} {i j : Nat} {p : Player} (hi : i < s.players.length) : (s.setPlayer i p).player j = if i = j then p else s.player j := by
  unfold State.setPlayer State.player
  simp only [List.getD_eq_getElem?_getD, List.getElem?_set]
  by_cases e : i = j
  · subst e; simp [hi]
  · simp [e]
theorem pl_set_get {s : State} {j i : Nat} {p : Player} (hi : i < s.players.length) : (s.players.set i p).getD j ⟨[], 0, false⟩ = if i = j then p else s.player j := pl_set (s := s) hi
theorem Data.hand {s : State} {g : G} (D : Data s g) (j : Nat) : g.hands.getD j [] = (s.player j).hand := by
  rw [D.hands]
  unfold State.player
  simp only [List.getD_eq_getElem?_getD, List.getElem?_map]
  cases s.players[j]? <;> rfl
theorem Data.point {s : State} {g : G} (D : Data s g) (j : Nat) : g.points.getD j 0 = (s.player j).points := by
  rw [D.points]
  unfold State.player
  simp only [List.getD_eq_getElem?_getD, List.getElem?_map]
  cases s.players[j]? <;> rfl
theorem Data.losts {s : State} {g : G} (D : Data s g) (j : Nat) : g.lost.getD j 0 = if (s.player j).skip = true then 1 else 0 := by
  rw [D.lost]
  unfold State.player
  simp only [List.getD_eq_getElem?_getD, List.getElem?_map]
  cases s.players[j]? <;> rfl
theorem player_mem {s : State} {j : Nat} (h : j < s.players.length) : s.player j ∈ s.players := by
  unfold State.player
  rw [List.getD_eq_getElem?_getD, List.getElem?_eq_getElem h]
  exact List.getElem_mem h
theorem init_sim : Sim init G.init := by
  refine ⟨⟨rfl, rfl, rfl, rfl, rfl, ⟨⟨rfl, by intro t ht; cases ht⟩, rfl⟩, rfl, rfl, rfl, rfl, rfl, rfl, rfl, rfl⟩, ⟨.inl ⟨rfl, rfl, rfl⟩, rfl, ?_, ?_⟩, .inl rfl⟩
  · intro p hp; cases hp
  · intro x hx; cases hx
end Tw
set_option linter.all false
namespace Tw
open Kg82
/-- in the middle of a turn's end -/
structure Mid (s : State) (g : G) : Prop where
  rows : g.rows = s.side
  players : g.players = s.players.length
  worths : g.worths = s.worth
  bag : g.bag = s.bag
  squares : g.squares = s.extra
  board : BoardOk s g.board
  hands : g.hands = s.players.map Player.hand
  points : g.points = s.players.map Player.points
  lost : g.lost = s.players.map fun p => if p.skip = true then 1 else 0
  words : g.words = s.words
  aside : g.aside = s.back
  turn : g.turn = s.who
  who : s.who < s.players.length
  skip : (s.player s.who).skip = false
  dry : s.dry = g.idle
  started : s.started = true
  back : s.back = []
  safe : Safe s
  side : s.side ≠ 0
  full : ∀ j, j < s.players.length → Full s j 0
theorem Safe.game {s : State} (h : Safe s) (n : s.side ≠ 0) : (3 ≤ s.side ∧ s.side ≤ 11 ∧ s.side % 2 = 1) ∧ (2 ≤ s.players.length ∧ s.players.length ≤ 4) ∧ (s.worth.length = 27 ∧ ∀ x ∈ s.worth, x ≤ 20) ∧ s.bag.length = 27 ∧ s.extra.length = s.side * s.side ∧ ∀ x ∈ s.extra, x ≤ 4 := by
  rcases h.static with q | q
  · exact absurd q.1 n
  · exact q
theorem zip_map {α β γ δ : Type} (f : β → γ → δ) (a : α → β) (b : α → γ) : ∀ l : List α, List.zipWith f (l.map a) (l.map b) = l.map fun x => f (a x) (b x)
  | [] => rfl
  | x :: l => by
    rw [List.map_cons, List.map_cons, List.zipWith_cons_cons, zip_map f a b l]
    rfl
theorem over_sim {s : State} {g : G} (M : Mid s g) : Sim s.over (endGame g) := by
  obtain ⟨c1, c2, c3, c4, c5, c6⟩ := M.safe.game M.side
  refine ⟨⟨M.rows, ?_, M.worths, M.bag, M.squares, ⟨M.board.bd, M.board.len⟩, ?_, ?_, ?_, M.words, rfl, rfl, rfl, M.aside⟩, ⟨.inr ⟨c1, ?_, c3, c4, c5, c6⟩, M.safe.w0, ?_, M.safe.back⟩, .inl rfl⟩
  · show g.players = (s.players.map _).length
    rw [List.length_map]; exact M.players
  · show g.hands = (s.players.map _).map _
    rw [List.map_map]; exact M.hands
  · show List.zipWith _ g.points g.hands = (s.players.map _).map _
    rw [M.points, M.hands, zip_map, List.map_map, List.map_map, M.worths]
    rfl
  · show g.lost = (s.players.map _).map _
    rw [List.map_map]; exact M.lost
  · show 2 ≤ (s.players.map _).length ∧ (s.players.map _).length ≤ 4
    rw [List.length_map]; exact c2
  · intro p hp x hx
    obtain ⟨q, hq, rfl⟩ := List.mem_map.mp (show p ∈ s.players.map _ from hp)
    exact M.safe.tiles q hq x hx
theorem set_same {α : Type} : ∀ (l : List α) (i : Nat) (d : α), l.set i (l.getD i d) = l
  | [], _, _ => rfl
  | x :: l, 0, _ => rfl
  | x :: l, i + 1, d => congrArg (List.cons x) (set_same l i d)
theorem map_set_same {β : Type} (f : Player → β) (s : State) (i : Nat) (p : Player) (h : f p = f (s.player i)) : (s.players.set i p).map f = s.players.map f := by
  rw [List.map_set, h]
  have e : f (s.player i) = (s.players.map f).getD i (f ⟨[], 0, false⟩) := by
    unfold State.player
    simp only [List.getD_eq_getElem?_getD, List.getElem?_map]
    cases s.players[i]? <;> rfl
  rw [e, set_same]
def fin (t : State) : State := if DRY ≤ t.dry then t.over else t
theorem Mid.point {s : State} {g : G} (D : Mid s g) (j : Nat) : g.points.getD j 0 = (s.player j).points := by
  rw [D.points]
  unfold State.player
  simp only [List.getD_eq_getElem?_getD, List.getElem?_map]
  cases s.players[j]? <;> rfl
theorem Mid.losts {s : State} {g : G} (D : Mid s g) (j : Nat) : g.lost.getD j 0 = if (s.player j).skip = true then 1 else 0 := by
  rw [D.lost]
  unfold State.player
  simp only [List.getD_eq_getElem?_getD, List.getElem?_map]
  cases s.players[j]? <;> rfl
theorem mem_set_player {l : List Player} {i : Nat} {p q : Player} (h : q ∈ l.set i p) : q ∈ l ∨ q = p := List.mem_or_eq_of_mem_set h
theorem turn_sim : ∀ (f : Nat) (s : State) (g : G) (f' : Nat), Mid s g → (s.player ((s.who + f) % s.players.length)).skip = false → 1 ≤ f → 6 ≤ f' + g.idle → g.idle < 6 →
    Sim (fin (State.turn f s)) (goLoop f' { g with turn := (g.turn + 1) % g.players })
  | 0, _, _, _, _, _, h, _, _ => by omega
  | f + 1, s, g, 0, _, _, _, h1, h2 => by omega
  | f + 1, s, g, f' + 1, M, hs, _, h1, h2 => by
    obtain ⟨c1, c2, c3, c4, c5, c6⟩ := M.safe.game M.side
    have hn : (s.who + 1) % s.players.length < s.players.length := Nat.mod_lt _ (by omega)
    have eT : (g.turn + 1) % g.players = (s.who + 1) % s.players.length := by rw [M.turn, M.players]
    have hl := M.losts ((s.who + 1) % s.players.length)
    have hd := M.dry
    rw [eT]
    generalize en : (s.who + 1) % s.players.length = n at *
    by_cases sk : (s.player n).skip = true
    · rw [if_pos sk] at hl
      -- the state with n passed over
      have MT : Mid (({ s with who := n, dry := s.dry + 1 } : State).setPlayer n { s.player n with skip := false }) { g with lost := g.lost.set n 0, idle := g.idle + 1, turn := n } := by
        have pset : ∀ j, ((({ s with who := n, dry := s.dry + 1 } : State).setPlayer n { s.player n with skip := false }).player j) = if n = j then { s.player n with skip := false } else s.player j := fun j => pl_set (s := { s with who := n, dry := s.dry + 1 }) hn
        have plen : (({ s with who := n, dry := s.dry + 1 } : State).setPlayer n { s.player n with skip := false }).players.length = s.players.length := pl_len
        refine ⟨M.rows, ?_, M.worths, M.bag, M.squares, ⟨M.board.bd, M.board.len⟩, ?_, ?_, ?_, M.words, M.aside, rfl, ?_, ?_, ?_, M.started, M.back, ⟨.inr ⟨c1, ?_, c3, c4, c5, c6⟩, M.safe.w0, ?_, M.safe.back⟩, M.side, ?_⟩
        · rw [plen]; exact M.players
        · exact M.hands.trans (map_set_same Player.hand s n { s.player n with skip := false } rfl).symm
        · exact M.points.trans (map_set_same Player.points s n { s.player n with skip := false } rfl).symm
        · show g.lost.set n 0 = (s.players.set n _).map _
          rw [List.map_set, M.lost]; rfl
        · rw [plen]; exact hn
        · show (State.player _ n).skip = false
          rw [pset n, if_pos rfl]
        · show s.dry + 1 = g.idle + 1
          omega
        · rw [plen]; exact c2
        · intro p hp x hx
          rcases mem_set_player hp with q | q
          · exact M.safe.tiles p q x hx
          · subst q; exact M.safe.tiles _ (player_mem hn) x hx
        · intro j hj
          rw [plen] at hj
          have := M.full j hj
          unfold Full at this ⊢
          rw [pset j]
          by_cases e : n = j
          · subst e; rw [if_pos rfl]; exact this
          · rw [if_neg e]; exact this
      have eS : State.turn (f + 1) s = if 6 ≤ s.dry + 1 then (({ s with who := n, dry := s.dry + 1 } : State).setPlayer n { s.player n with skip := false }) else State.turn f (({ s with who := n, dry := s.dry + 1 } : State).setPlayer n { s.player n with skip := false }) := by
        show (if (s.player ((s.who + 1) % s.players.length)).skip = true then _ else _) = _
        rw [en, if_pos sk]
        rfl
      have eG : goLoop (f' + 1) { g with turn := n } = if 6 ≤ g.idle + 1 then endGame { g with lost := g.lost.set n 0, idle := g.idle + 1, turn := n } else goLoop f' { g with lost := g.lost.set n 0, idle := g.idle + 1, turn := (n + 1) % g.players } := by
        show (if g.lost.getD n 0 = 1 then _ else _) = _
        rw [if_pos hl]
      rw [eS, eG]
      by_cases h6 : 6 ≤ g.idle + 1
      · rw [if_pos h6, if_pos (by omega)]
        have eF : fin (({ s with who := n, dry := s.dry + 1 } : State).setPlayer n { s.player n with skip := false }) = (({ s with who := n, dry := s.dry + 1 } : State).setPlayer n { s.player n with skip := false }).over :=
          if_pos (show DRY ≤ s.dry + 1 by unfold DRY; omega)
        rw [eF]
        exact over_sim MT
      · rw [if_neg h6, if_neg (by omega)]
        have hf : 1 ≤ f := by
          apply Classical.byContradiction
          intro q
          have : f = 0 := by omega
          subst this
          rw [show s.who + (0 + 1) = s.who + 1 by omega, en, sk] at hs
          cases hs
        refine turn_sim f _ _ f' MT ?_ hf (by show 6 ≤ f' + (g.idle + 1); omega) (by show g.idle + 1 < 6; omega)
        rw [pl_len, pl_set (s := { s with who := n, dry := s.dry + 1 }) hn]
        show (if n = (n + f) % s.players.length then _ else s.player ((n + f) % s.players.length)).skip = false
        split
        · rfl
        · have e : (n + f) % s.players.length = (s.who + (f + 1)) % s.players.length := by
            rw [← en, Nat.mod_add_mod, show s.who + 1 + f = s.who + (f + 1) by omega]
          rw [e]; exact hs
    · rw [if_neg sk] at hl
      have eS : State.turn (f + 1) s = { s with who := n, phase := 1 } := by
        show (if (s.player ((s.who + 1) % s.players.length)).skip = true then _ else _) = _
        rw [en, if_neg sk]
      have eG : goLoop (f' + 1) { g with turn := n } = { g with turn := n, phase := 1, due := 0 } := by
        show (if g.lost.getD n 0 = 1 then _ else _) = _
        rw [if_neg (by omega)]
      rw [eS, eG]
      unfold fin
      rw [if_neg (show ¬ DRY ≤ s.dry by unfold DRY; omega)]
      refine ⟨⟨M.rows, M.players, M.worths, M.bag, M.squares, ⟨M.board.bd, M.board.len⟩, M.hands, M.points, M.lost, M.words, rfl, rfl, rfl, M.aside⟩, ⟨.inr ⟨c1, c2, c3, c4, c5, c6⟩, M.safe.w0, M.safe.tiles, M.safe.back⟩, .inr (.inr (.inr (.inl ?_)))⟩
      exact ⟨rfl, M.started, M.back, hd, h2, hn, M.full, (by simpa using sk : (s.player n).skip = false)⟩
def endT (g : G) : G := if 6 ≤ g.idle ∨ playedOut g = true then endGame g else goNext g
theorem any_hand (s : State) : (s.players.map Player.hand).any (fun h => h.isEmpty) = s.players.any fun p => p.hand.isEmpty := by
  rw [List.any_map]; rfl
theorem goOn_sim {s : State} {g : G} (M : Mid s g) : Sim s.goOn (endT g) := by
  obtain ⟨c1, c2, c3, c4, c5, c6⟩ := M.safe.game M.side
  have hd := M.dry
  have eP : playedOut g = (decide (s.left = 0) && s.players.any fun p => p.hand.isEmpty) := by
    unfold playedOut State.left
    rw [M.bag, M.hands, any_hand]
  unfold State.goOn endT
  by_cases h : 6 ≤ g.idle ∨ playedOut g = true
  · rw [if_pos h, if_pos]
    · exact over_sim M
    · rcases h with h | h
      · left; unfold DRY; omega
      · right
        rw [eP, Bool.and_eq_true] at h
        exact ⟨of_decide_eq_true h.1, h.2⟩
  · rw [if_neg h, if_neg]
    · show Sim (fin (State.turn s.players.length s)) (goNext g)
      refine turn_sim s.players.length s g 6 M ?_ (by omega) (by omega) (by omega)
      rw [Nat.add_mod_right, Nat.mod_eq_of_lt M.who]
      exact M.skip
    · intro q
      apply h
      rcases q with q | q
      · left; unfold DRY at q; omega
      · right
        rw [eP, Bool.and_eq_true]
        exact ⟨decide_eq_true q.1, q.2⟩
theorem endTurn_eq (g : G) (c : Nat) : endTurn g c = endT { g with idle := if 0 < c then 0 else g.idle + 1 } := rfl
end Tw
set_option linter.all false
namespace Tw
open Kg82
theorem sum_set_nat : ∀ (l : List Nat) (i v : Nat), i < l.length → (l.set i v).sum + l.getD i 0 = l.sum + v
  | [], i, v, h => by simp at h
  | x :: l, 0, v, _ => by
    show (v :: l).sum + x = (x :: l).sum + v
    rw [List.sum_cons, List.sum_cons]; omega
  | x :: l, i + 1, v, h => by
    have := sum_set_nat l i v (by simpa using h)
    show (x :: l.set i v).sum + l.getD i 0 = (x :: l).sum + v
    rw [List.sum_cons, List.sum_cons]; omega
theorem fromBag_sum : ∀ (l bag b : List Nat), fromBag bag l = some b → b.sum + l.length = bag.sum
  | [], bag, b, e => by
    have : bag = b := Option.some.inj e
    subst this; simp
  | x :: l, bag, b, e => by
    unfold fromBag at e
    by_cases hx : 0 < bag.getD x 0
    · rw [if_pos hx] at e
      have hl : x < bag.length := by
        apply Classical.byContradiction
        intro q
        rw [List.getD_eq_getElem?_getD, List.getElem?_eq_none (by omega)] at hx
        simp at hx
      have h1 := fromBag_sum l _ b e
      have h2 := sum_set_nat bag x (bag.getD x 0 - 1) hl
      simp only [List.length_cons]
      omega
    · rw [if_neg hx] at e; cases e
theorem nats_len (l : List Int) : (nats l).length = l.length := by unfold nats; simp
theorem nats_le {l : List Int} {m : Nat} (h : l.all (fun z => within z 0 m) = true) : ∀ x ∈ nats l, x ≤ m := by
  intro x hx
  obtain ⟨z, hz, rfl⟩ := List.mem_map.mp hx
  have := List.all_eq_true.mp h z hz
  unfold within at this
  simp only [Bool.and_eq_true, decide_eq_true_eq] at this
  omega
theorem Sim.left {s : State} {g : G} (S : Sim s g) : g.bag.sum = s.left := by rw [S.data.bag]; rfl
theorem side_ne {s : State} (h : Safe s) (hp : s.phase ≠ 3) : s.side ≠ 0 := by
  rcases h.static with q | q
  · exact absurd q.2.2 hp
  · omega
/-- what a call answers, of both -/
def Same2 (a : State × Ans) (c : G × List Int) : Prop := Sim a.1 c.1 ∧ c.2 = a.2.value :: a.2.out
theorem same_num {s : State} {g : G} (S : Sim s g) (z : Int) : Same2 (s, num z) (g, [z]) := ⟨S, rfl⟩
theorem same_done {s : State} {g : G} (S : Sim s g) (z : Int) : Same2 (done s z) (g, z :: standing g) := ⟨S, by
  show z :: standing g = z :: told s
  rw [told_eq S.data]⟩
theorem word_sim {s : State} {g : G} (S : Sim s g) (l : List Int) : Same2 (spec s (.word l)) (wordG g l) := by
  unfold wordG
  show Same2 (if (l.all (fun z => within z 1 26) && (decide (2 ≤ l.length) && decide (l.length ≤ 11))) = false then (s, num (-1)) else if s.side = 0 then (s, num (-2)) else if 300 ≤ s.words.length then (s, num (-5)) else ({ s with words := s.words ++ [nats l] }, num (s.words.length + 1 : Nat))) _
  rw [Bool.and_comm (l.all (fun z => within z 1 26))]
  by_cases h1 : (decide (2 ≤ l.length) && decide (l.length ≤ 11) && l.all (fun z => within z 1 26)) = false
  · rw [if_pos h1, if_pos h1]; exact same_num S _
  rw [if_neg h1, if_neg h1]
  have e0 : g.players = 0 ↔ s.side = 0 := by
    rw [S.data.players]
    rcases S.safe.static with q | q
    · simp [q.1, q.2.1]
    · omega
  by_cases h2 : s.side = 0
  · rw [if_pos h2, if_pos (e0.mpr h2)]; exact same_num S _
  rw [if_neg h2, if_neg (fun z => h2 (e0.mp z)), S.data.words]
  by_cases h3 : 300 ≤ s.words.length
  · rw [if_pos h3, if_pos h3]; exact same_num S _
  rw [if_neg h3, if_neg h3]
  refine ⟨⟨⟨S.data.rows, S.data.players, S.data.worths, S.data.bag, S.data.squares, ⟨S.data.board.bd, S.data.board.len⟩, S.data.hands, S.data.points, S.data.lost, rfl, S.data.phase, S.data.turn, S.data.due, S.data.aside⟩, ⟨S.safe.static, S.safe.w0, S.safe.tiles, S.safe.back⟩, ?_⟩, rfl⟩
  rcases S.dyn with d | d | d | d | d
  · exact .inl d
  · exact .inr (.inl ⟨d.ph, d.started, d.back, d.dry, d.idle, d.who, d.low, d.high, d.left, d.skip⟩)
  · exact .inr (.inr (.inl ⟨d.ph, d.started, d.back, d.dry, d.idle, d.who, d.others, d.own, d.left, d.skip⟩))
  · exact .inr (.inr (.inr (.inl ⟨d.ph, d.started, d.back, d.dry, d.idle, d.who, d.full, d.skip⟩)))
  · exact .inr (.inr (.inr (.inr ⟨d.ph, d.started, d.back, d.dry, d.idle, d.who, d.others, d.own, d.skip, d.last, d.laid⟩)))
theorem isGame_eq (n p : Int) (w b e : List Int) : isGame n p w b e = (within n 3 11 && (decide (n % 2 = 1) && (within p 2 4 && (decide (w.length = 27) && (w.all (fun z => within z 0 20) && (decide (b.length = 27) && (b.all (fun z => within z 0 30) && (decide ((e.length : Int) = n * n) && (e.all (fun z => within z 0 4) && decide (w.headD 0 = 0)))))))))) := by
  unfold isGame within
  rw [Bool.eq_iff_iff]
  simp only [Bool.and_eq_true, decide_eq_true_eq]
  constructor <;> · rintro ⟨h1, h2, h3, h4, h5, h6, h7, h8, h9, h10⟩; simp_all
theorem nats_sum : ∀ {l : List Int}, (∀ z ∈ l, 0 ≤ z) → ((nats l).sum : Int) = l.sum
  | [], _ => rfl
  | z :: l, h => by
    show ((z.toNat :: nats l).sum : Int) = (z :: l).sum
    rw [List.sum_cons, List.sum_cons]
    have := nats_sum (l := l) fun y hy => h y (List.mem_cons_of_mem _ hy)
    have := h z (by simp)
    omega
theorem rep_getD {α : Type} (n i : Nat) (x d : α) : (List.replicate n x).getD i d = if i < n then x else d := by
  rw [List.getD_eq_getElem?_getD, List.getElem?_replicate]
  split <;> rfl
theorem begin_sim {s : State} {g : G} (S : Sim s g) (n p : Int) (w b e : List Int) : Same2 (spec s (.begin_ n p w b e)) (beginG g n p w b e) := by
  unfold beginG
  rw [isGame_eq]
  show Same2 (if (within n 3 11 && (decide (n % 2 = 1) && (within p 2 4 && (decide (w.length = 27) && (w.all (fun z => within z 0 20) && (decide (b.length = 27) && (b.all (fun z => within z 0 30) && (decide ((e.length : Int) = n * n) && (e.all (fun z => within z 0 4) && decide (w.headD 0 = 0)))))))))) = false then (s, num (-1)) else if b.sum < 7 * p then (s, num (-5)) else (⟨n.toNat, nats w, nats b, nats e, [], List.replicate (n.toNat * n.toNat) none, List.replicate p.toNat ⟨[], 0, false⟩, 0, 0, 0, none, [], false⟩, num 0)) _
  by_cases h1 : (within n 3 11 && (decide (n % 2 = 1) && (within p 2 4 && (decide (w.length = 27) && (w.all (fun z => within z 0 20) && (decide (b.length = 27) && (b.all (fun z => within z 0 30) && (decide ((e.length : Int) = n * n) && (e.all (fun z => within z 0 4) && decide (w.headD 0 = 0)))))))))) = false
  · rw [if_pos h1, if_pos h1]; exact same_num S _
  rw [if_neg h1, if_neg h1]
  by_cases h2 : b.sum < 7 * p
  · rw [if_pos h2, if_pos h2]; exact same_num S _
  rw [if_neg h2, if_neg h2]
  rw [Bool.not_eq_false] at h1
  simp only [Bool.and_eq_true, decide_eq_true_eq] at h1
  obtain ⟨a1, a2, a3, a4, a5, a6, a7, a8, a9, a10⟩ := h1
  unfold within at a1 a3
  simp only [Bool.and_eq_true, decide_eq_true_eq] at a1 a3
  have hbs : ((nats b).sum : Int) = b.sum := nats_sum fun z hz => by
    have := List.all_eq_true.mp a7 z hz
    unfold within at this
    simp only [Bool.and_eq_true, decide_eq_true_eq] at this
    omega
  have hee : (nats e).length = n.toNat * n.toNat := by
    rw [nats_len]
    obtain ⟨m, rfl⟩ : ∃ m : Nat, n = m := ⟨n.toNat, by omega⟩
    rw [Int.toNat_natCast]
    have : ((m * m : Nat) : Int) = (m : Int) * m := by simp
    omega
  have hpl : ∀ j, State.player (⟨n.toNat, nats w, nats b, nats e, [], List.replicate (n.toNat * n.toNat) none, List.replicate p.toNat ⟨[], 0, false⟩, 0, 0, 0, none, [], false⟩ : State) j = ⟨[], 0, false⟩ := fun j => by
    unfold State.player
    simp only [rep_getD]
    split <;> rfl
  refine ⟨⟨⟨rfl, ?_, rfl, rfl, rfl, ⟨⟨?_, ?_⟩, ?_⟩, ?_, ?_, ?_, rfl, rfl, rfl, ?_, rfl⟩, ⟨.inr ⟨?_, ?_, ⟨?_, ?_⟩, ?_, hee, ?_⟩, ?_, ?_, ?_⟩, .inr (.inl ⟨rfl, rfl, rfl, rfl, rfl, ?_, ?_, ?_, ?_, ?_⟩)⟩, rfl⟩
  · show p.toNat = (List.replicate p.toNat _).length
    simp
  · show List.replicate _ (0 : Int) = (List.replicate _ none).map face
    rw [List.map_replicate]; rfl
  · intro t ht
    have := List.eq_of_mem_replicate ht
    cases this
  · show (List.replicate _ none).length = n.toNat * n.toNat
    simp
  · show List.replicate _ [] = (List.replicate _ _).map _
    rw [List.map_replicate]
  · show List.replicate _ (0 : Int) = (List.replicate _ _).map _
    rw [List.map_replicate]
  · show List.replicate _ 0 = (List.replicate _ _).map _
    rw [List.map_replicate]; rfl
  · show 7 = min (7 - (State.player _ 0).hand.length) (nats b).sum
    rw [hpl 0]
    show 7 = min (7 - 0) (nats b).sum
    omega
  · show 3 ≤ n.toNat ∧ n.toNat ≤ 11 ∧ n.toNat % 2 = 1
    omega
  · show 2 ≤ (List.replicate p.toNat _).length ∧ (List.replicate p.toNat _).length ≤ 4
    rw [List.length_replicate]; omega
  · show (nats w).length = 27
    rw [nats_len]; exact a4
  · exact nats_le (m := 20) a5
  · show (nats b).length = 27
    rw [nats_len]; exact a6
  · exact nats_le (m := 4) a9
  · show (nats w).getD 0 0 = 0
    cases w with
    | nil => rfl
    | cons x w =>
      have : x = 0 := a10
      subst this; rfl
  · intro q hq x hx
    have := List.eq_of_mem_replicate hq
    subst this
    cases hx
  · intro x hx; cases hx
  · show 0 < (List.replicate p.toNat _).length
    rw [List.length_replicate]; omega
  · intro j hj
    exact absurd hj (Nat.not_lt_zero j)
  · intro j _
    rw [hpl j]
  · show 7 * ((List.replicate p.toNat _).length - 0) ≤ (nats b).sum
    rw [List.length_replicate]; omega
  · intro j
    rw [hpl j]
/-- who has drawn -/
def gets (p : Player) (m : List Nat) : Player := ⟨p.hand ++ m, p.points, p.skip⟩
def drawS (s : State) (m : List Nat) : State := ⟨s.side, s.worth, toBag (drawn s.bag m) s.back, s.extra, s.words, s.board, s.players.set s.who (gets (s.player s.who) m), s.who, s.phase, s.dry, none, [], s.started⟩
def drawS1 (s : State) (m : List Nat) : State := ⟨s.side, s.worth, toBag (drawn s.bag m) s.back, s.extra, s.words, s.board, s.players.set s.who (gets (s.player s.who) m), s.who + 1, s.phase, s.dry, none, [], s.started⟩
def drawS2 (s : State) (m : List Nat) : State := ⟨s.side, s.worth, toBag (drawn s.bag m) s.back, s.extra, s.words, s.board, s.players.set s.who (gets (s.player s.who) m), 0, 1, s.dry, none, [], true⟩
theorem draw_spec (s : State) (l : List Int) : spec s (.draw l) = if l.all (fun z => within z 0 26) = false then (s, num (-1)) else if s.phase ≠ 0 ∧ s.phase ≠ 2 then (s, num (-3)) else if l.length ≠ s.due then (s, num (-4)) else
    if inBagAll s.bag (nats l) = false then (s, num (-5)) else if s.started = false then (if s.who + 1 < s.players.length then done (drawS1 s (nats l)) 0 else done (drawS2 s (nats l)) 0) else done (drawS s (nats l)).goOn 0 := by
  show (if l.all (fun z => within z 0 26) = false then (s, num (-1)) else if s.phase ≠ 0 ∧ s.phase ≠ 2 then (s, num (-3)) else if l.length ≠ s.due then (s, num (-4)) else match fromBag s.bag (nats l) with
        | none => (s, num (-5))
        | some b => _) = _
  by_cases h1 : l.all (fun z => within z 0 26) = false
  · rw [if_pos h1, if_pos h1]
  rw [if_neg h1, if_neg h1]
  by_cases h2 : s.phase ≠ 0 ∧ s.phase ≠ 2
  · rw [if_pos h2, if_pos h2]
  rw [if_neg h2, if_neg h2]
  by_cases h3 : l.length ≠ s.due
  · rw [if_pos h3, if_pos h3]
  rw [if_neg h3, if_neg h3, fromBag_eq']
  by_cases h4 : inBagAll s.bag (nats l) = false
  · rw [if_pos h4, if_neg (by simp [h4])]
  rw [if_neg h4, if_pos (by simpa using h4)]
  show (if s.started = false then (if s.who + 1 < (s.players.set s.who (gets (s.player s.who) (nats l))).length then done (drawS1 s (nats l)) 0 else done (drawS2 s (nats l)) 0) else done (drawS s (nats l)).goOn 0) = _
  rw [List.length_set]
theorem draw_sim {s : State} {g : G} (S : Sim s g) (l : List Int) : Same2 (spec s (.draw l)) (drawG g l) := by
  rw [draw_spec]
  unfold drawG
  by_cases h1 : l.all (fun z => within z 0 26) = false
  · rw [if_pos h1, if_pos h1]; exact same_num S _
  rw [if_neg h1, if_neg h1, S.data.phase]
  by_cases h2 : s.phase ≠ 0 ∧ s.phase ≠ 2
  · rw [if_pos h2, if_pos h2]; exact same_num S _
  rw [if_neg h2, if_neg h2]
  have h02 : s.phase = 0 ∨ s.phase = 2 := by omega
  have hdue : g.due = s.due := by rw [S.data.due, if_pos h02]
  rw [hdue]
  by_cases h3 : l.length ≠ s.due
  · rw [if_pos h3, if_pos h3]; exact same_num S _
  rw [if_neg h3, if_neg h3, S.data.bag]
  by_cases h4 : inBagAll s.bag (nats l) = false
  · rw [if_pos h4, if_pos h4]; exact same_num S _
  have hfb : fromBag s.bag (nats l) = some (drawn s.bag (nats l)) := by rw [fromBag_eq', if_pos (by simpa using h4)]
  rw [if_neg h4, if_neg h4]
  rw [Bool.not_eq_false] at h1
  have hsum := fromBag_sum _ _ _ hfb
  have hlen : (nats l).length = s.due := by
    rw [nats_len]
    exact Decidable.byContradiction fun q => h3 q
  have hle : ∀ x ∈ nats l, x ≤ 26 := nats_le (m := 26) h1
  generalize nats l = m at *
  have hside : s.side ≠ 0 := side_ne S.safe (by omega)
  obtain ⟨c1, c2, c3, c4, c5, c6⟩ := S.safe.game hside
  have hturn : g.turn = s.who := by rw [S.data.turn, if_neg (by omega)]
  have hwho : s.who < s.players.length := by
    rcases S.dyn with d | d | d | d | d
    · omega
    all_goals exact d.who
  have hdueD : s.due = min (7 - (s.player s.who).hand.length) s.left := rfl
  have hleft : s.left = s.bag.sum := rfl
  have hhand : g.hands.getD g.turn [] = (s.player s.who).hand := by rw [hturn]; exact S.data.hand _
  -- common facts about the state behind the draw
  have eHands : g.hands.set g.turn (g.hands.getD g.turn [] ++ m) = (s.players.set s.who (gets (s.player s.who) m)).map Player.hand := by
    rw [hhand, hturn, List.map_set, S.data.hands]; rfl
  have ePoints : g.points = (s.players.set s.who (gets (s.player s.who) m)).map Player.points :=
    S.data.points.trans (map_set_same Player.points s s.who (gets (s.player s.who) m) rfl).symm
  have eLost : g.lost = (s.players.set s.who (gets (s.player s.who) m)).map fun p => if p.skip = true then 1 else 0 :=
    S.data.lost.trans (map_set_same (fun p => if p.skip = true then 1 else 0) s s.who (gets (s.player s.who) m) rfl).symm
  have eLen : (s.players.set s.who (gets (s.player s.who) m)).length = s.players.length := List.length_set
  have eP : ∀ j, (s.players.set s.who (gets (s.player s.who) m)).getD j ⟨[], 0, false⟩ = if s.who = j then gets (s.player s.who) m else s.player j := fun j => pl_set_get hwho
  have hTiles : ∀ p ∈ s.players.set s.who (gets (s.player s.who) m), ∀ x ∈ p.hand, x ≤ 26 := by
    intro p hp x hx
    rcases mem_set_player hp with q | q
    · exact S.safe.tiles p q x hx
    · subst q
      rcases List.mem_append.mp hx with q | q
      · exact S.safe.tiles _ (player_mem hwho) x q
      · exact hle x q
  have hNe3 : ¬ s.phase = 3 := by omega
  have gp := S.data.phase
  have hbagG : drawn g.bag m = drawn s.bag m := by rw [S.data.bag]
  rcases S.dyn with d | d | d | d | d
  · exact absurd d hNe3
  · -- the first draws
    have hd7 : s.due = 7 := by
      have a := d.high s.who (Nat.le_refl _)
      have b := d.left
      rw [hdueD, a]
      simp only [List.length_nil]
      have := d.who
      omega
    have ea : g.aside = [] := by rw [S.data.aside, d.back]
    have eF : followDraw (drawnG g m) = followFirst (drawnG g m) := by
      show (if g.phase = 2 then _ else if g.aside ≠ [] then _ else followFirst (drawnG g m)) = _
      rw [if_neg (show ¬ g.phase = 2 by rw [gp, d.ph]; decide), if_neg (show ¬ g.aside ≠ [] by rw [ea]; simp)]
    rw [if_pos d.started, eF]
    have low' : ∀ j, j < s.who + 1 → ((s.players.set s.who (gets (s.player s.who) m)).getD j ⟨[], 0, false⟩).hand.length = 7 := by
      intro j hj
      rw [eP j]
      by_cases e : s.who = j
      · rw [if_pos e]
        show ((s.player s.who).hand ++ m).length = 7
        rw [d.high s.who (Nat.le_refl _), List.nil_append, hlen, hd7]
      · rw [if_neg e]; exact d.low j (by omega)
    have skip' : ∀ j, ((s.players.set s.who (gets (s.player s.who) m)).getD j ⟨[], 0, false⟩).skip = false := by
      intro j
      rw [eP j]
      by_cases e : s.who = j
      · rw [if_pos e]; exact d.skip _
      · rw [if_neg e]; exact d.skip _
    have eback : toBag (drawn s.bag m) s.back = drawn s.bag m := by rw [d.back]; rfl
    have eFF : followFirst (drawnG g m) = if s.who + 1 < s.players.length then { drawnG g m with turn := s.who + 1 } else { drawnG g m with turn := 0, phase := 1, due := 0 } := by
      show (if g.turn + 1 < g.players then { drawnG g m with turn := g.turn + 1 } else _) = _
      rw [hturn, S.data.players]
    rw [eFF]
    by_cases hw : s.who + 1 < s.players.length
    · rw [if_pos hw, if_pos hw]
      have key : Sim (drawS1 s m) { drawnG g m with turn := s.who + 1 } := by
        refine ⟨⟨S.data.rows, ?_, S.data.worths, ?_, S.data.squares, ⟨S.data.board.bd, S.data.board.len⟩, eHands, ePoints, eLost, S.data.words, gp, ?_, ?_, ?_⟩, ⟨.inr ⟨c1, ?_, c3, ?_, c5, c6⟩, S.safe.w0, hTiles, ?_⟩, .inr (.inl ⟨d.ph, d.started, rfl, d.dry, d.idle, ?_, low', ?_, ?_, skip'⟩)⟩
        · show g.players = (s.players.set _ _).length
          rw [eLen]; exact S.data.players
        · show drawn g.bag m = toBag (drawn s.bag m) s.back
          rw [eback, hbagG]
        · show s.who + 1 = if s.phase = 3 then 0 else s.who + 1
          rw [if_neg hNe3]
        · show g.due = if s.phase = 0 ∨ s.phase = 2 then min (7 - ((s.players.set s.who (gets (s.player s.who) m)).getD (s.who + 1) ⟨[], 0, false⟩).hand.length) (toBag (drawn s.bag m) s.back).sum else 0
          rw [if_pos h02, hdue, eP, if_neg (by omega), d.high _ (by omega), hd7, eback]
          have := d.left
          show 7 = min (7 - 0) _
          omega
        · exact ea
        · show 2 ≤ (s.players.set _ _).length ∧ (s.players.set _ _).length ≤ 4
          rw [eLen]; exact c2
        · show (toBag (drawn s.bag m) s.back).length = 27
          rw [eback, drawn_len]; exact c4
        · intro x hx; cases hx
        · show s.who + 1 < (s.players.set _ _).length
          rw [eLen]; exact hw
        · intro j hj
          show ((s.players.set s.who (gets (s.player s.who) m)).getD j ⟨[], 0, false⟩).hand = []
          have : s.who + 1 ≤ j := hj
          rw [eP j, if_neg (by omega)]
          exact d.high j (by omega)
        · show 7 * ((s.players.set s.who (gets (s.player s.who) m)).length - (s.who + 1)) ≤ (toBag (drawn s.bag m) s.back).sum
          rw [eLen, eback]
          have := d.left
          omega
      exact same_done key 0
    · rw [if_neg hw, if_neg hw]
      have key : Sim (drawS2 s m) { drawnG g m with turn := 0, phase := 1, due := 0 } := by
        refine ⟨⟨S.data.rows, ?_, S.data.worths, ?_, S.data.squares, ⟨S.data.board.bd, S.data.board.len⟩, eHands, ePoints, eLost, S.data.words, rfl, rfl, rfl, ?_⟩, ⟨.inr ⟨c1, ?_, c3, ?_, c5, c6⟩, S.safe.w0, hTiles, ?_⟩, .inr (.inr (.inr (.inl ⟨rfl, rfl, rfl, ?_, ?_, ?_, ?_, ?_⟩)))⟩
        · show g.players = (s.players.set _ _).length
          rw [eLen]; exact S.data.players
        · show drawn g.bag m = toBag (drawn s.bag m) s.back
          rw [eback, hbagG]
        · exact ea
        · show 2 ≤ (s.players.set _ _).length ∧ (s.players.set _ _).length ≤ 4
          rw [eLen]; exact c2
        · show (toBag (drawn s.bag m) s.back).length = 27
          rw [eback, drawn_len]; exact c4
        · intro x hx; cases hx
        · show s.dry = g.idle
          rw [d.dry, d.idle]
        · show g.idle < 6
          rw [d.idle]; decide
        · show 0 < (s.players.set _ _).length
          rw [eLen]; omega
        · intro j hj
          have hj' : j < s.players.length := by rw [← eLen]; exact hj
          have := low' j (by omega)
          exact ⟨Nat.le_of_eq this, fun _ => this⟩
        · exact skip' 0
      exact same_done key 0
  · -- behind a swap
    have ea : g.aside ≠ [] := by rw [S.data.aside]; exact d.back
    have hd : s.due = s.back.length := by
      have a := d.own
      have b := d.left
      rw [hdueD]; omega
    have eF : followDraw (drawnG g m) = endT { drawnG g m with bag := toBag (drawn s.bag m) s.back, aside := [], idle := g.idle + 1 } := by
      show (if g.phase = 2 then _ else if g.aside ≠ [] then endTurn { drawnG g m with bag := toBag (drawn g.bag m) g.aside, aside := [] } 0 else _) = _
      rw [if_neg (show ¬ g.phase = 2 by rw [gp, d.ph]; decide), if_pos ea, endTurn_eq, hbagG, S.data.aside]
      rfl
    rw [if_neg (show ¬ s.started = false by rw [d.started]; simp), eF]
    have key : Mid (drawS s m) { drawnG g m with bag := toBag (drawn s.bag m) s.back, aside := [], idle := g.idle + 1 } := by
      refine ⟨S.data.rows, ?_, S.data.worths, rfl, S.data.squares, ⟨S.data.board.bd, S.data.board.len⟩, eHands, ePoints, eLost, S.data.words, rfl, hturn, ?_, ?_, ?_, d.started, rfl, ⟨.inr ⟨c1, ?_, c3, ?_, c5, c6⟩, S.safe.w0, hTiles, ?_⟩, hside, ?_⟩
      · show g.players = (s.players.set _ _).length
        rw [eLen]; exact S.data.players
      · show s.who < (s.players.set _ _).length
        rw [eLen]; exact hwho
      · show ((s.players.set s.who (gets (s.player s.who) m)).getD s.who ⟨[], 0, false⟩).skip = false
        rw [eP, if_pos rfl]; exact d.skip
      · exact d.dry
      · show 2 ≤ (s.players.set _ _).length ∧ (s.players.set _ _).length ≤ 4
        rw [eLen]; exact c2
      · show (toBag (drawn s.bag m) s.back).length = 27
        rw [toBag_len, drawn_len]; exact c4
      · intro x hx; cases hx
      · intro j hj
        have hj' : j < s.players.length := by rw [← eLen]; exact hj
        have : ((s.players.set s.who (gets (s.player s.who) m)).getD j ⟨[], 0, false⟩).hand.length = 7 := by
          rw [eP j]
          by_cases e : s.who = j
          · rw [if_pos e]
            show ((s.player s.who).hand ++ m).length = 7
            rw [List.length_append, hlen, hd]; exact d.own
          · rw [if_neg e]; exact d.others j hj' (fun q => e q.symm)
        exact ⟨Nat.le_of_eq this, fun _ => this⟩
    exact same_done (goOn_sim key) 0
  · have := d.ph; omega
  · -- behind a play
    have ea : g.aside = [] := by rw [S.data.aside, d.back]
    have eback : toBag (drawn s.bag m) s.back = drawn s.bag m := by rw [d.back]; rfl
    have eF : followDraw (drawnG g m) = endT { drawnG g m with idle := if 0 < g.counted then 0 else g.idle + 1 } := by
      show (if g.phase = 2 then endTurn (drawnG g m) g.counted else _) = _
      rw [if_pos (show g.phase = 2 by rw [gp, d.ph]), endTurn_eq]
      rfl
    rw [if_neg (show ¬ s.started = false by rw [d.started]; simp), eF]
    have key : Mid (drawS s m) { drawnG g m with idle := if 0 < g.counted then 0 else g.idle + 1 } := by
      refine ⟨S.data.rows, ?_, S.data.worths, ?_, S.data.squares, ⟨S.data.board.bd, S.data.board.len⟩, eHands, ePoints, eLost, S.data.words, ea, hturn, ?_, ?_, ?_, d.started, rfl, ⟨.inr ⟨c1, ?_, c3, ?_, c5, c6⟩, S.safe.w0, hTiles, ?_⟩, hside, ?_⟩
      · show g.players = (s.players.set _ _).length
        rw [eLen]; exact S.data.players
      · show drawn g.bag m = toBag (drawn s.bag m) s.back
        rw [eback, hbagG]
      · show s.who < (s.players.set _ _).length
        rw [eLen]; exact hwho
      · show ((s.players.set s.who (gets (s.player s.who) m)).getD s.who ⟨[], 0, false⟩).skip = false
        rw [eP, if_pos rfl]; exact d.skip
      · show s.dry = if 0 < g.counted then 0 else g.idle + 1
        rw [d.dry]
        by_cases e : g.counted = 0
        · rw [if_pos e, if_neg (by omega)]
        · rw [if_neg e, if_pos (by omega)]
      · show 2 ≤ (s.players.set _ _).length ∧ (s.players.set _ _).length ≤ 4
        rw [eLen]; exact c2
      · show (toBag (drawn s.bag m) s.back).length = 27
        rw [eback, drawn_len]; exact c4
      · intro x hx; cases hx
      · intro j hj
        have hj' : j < s.players.length := by rw [← eLen]; exact hj
        show ((s.players.set s.who (gets (s.player s.who) m)).getD j ⟨[], 0, false⟩).hand.length + 0 ≤ 7 ∧ (7 ≤ (toBag (drawn s.bag m) s.back).sum → ((s.players.set s.who (gets (s.player s.who) m)).getD j ⟨[], 0, false⟩).hand.length + 0 = 7)
        rw [eP j, eback]
        by_cases e : s.who = j
        · rw [if_pos e]
          show ((s.player s.who).hand ++ m).length + 0 ≤ 7 ∧ (7 ≤ (drawn s.bag m).sum → ((s.player s.who).hand ++ m).length + 0 = 7)
          rw [List.length_append, hlen]
          have a := d.own.1
          omega
        · rw [if_neg e]
          have a := d.others j hj' (fun q => e q.symm)
          exact ⟨a.1, fun q => a.2 (by omega)⟩
    exact same_done (goOn_sim key) 0
end Tw
set_option linter.all false
namespace Tw
open Kg82
theorem okPlay_eq {s : State} {g : G} (S : Sim s g) (row col down : Int) (l : List Int) : okPlayG g row col down l = okPlay s row col down l := by
  unfold okPlayG okPlay within
  rw [S.data.rows, Bool.eq_iff_iff]
  simp only [Bool.and_eq_true, decide_eq_true_eq]
  constructor
  · rintro ⟨⟨a1, a2⟩, ⟨b1, b2⟩, ⟨c1, c2⟩, ⟨d1, d2⟩, e⟩
    exact ⟨⟨a1, by omega⟩, ⟨b1, by omega⟩, ⟨c1, c2⟩, e, d1, d2⟩
  · rintro ⟨⟨a1, a2⟩, ⟨b1, b2⟩, ⟨c1, c2⟩, e, d1, d2⟩
    exact ⟨⟨a1, by omega⟩, ⟨b1, by omega⟩, ⟨c1, c2⟩, ⟨d1, d2⟩, e⟩
def plays (p : Player) (h : List Nat) (n : Nat) : Player := ⟨h, p.points + n, p.skip⟩
def playS (s : State) (h q : List Nat) (ts : List Tile) (ih : List Nat) (n : Nat) : State :=
  ⟨s.side, s.worth, s.bag, s.extra, s.words, (q.zip ts).foldl (fun b x => b.set x.1 (some x.2)) s.board, s.players.set s.who (plays (s.player s.who) h n), s.who, 2, if n = 0 then s.dry + 1 else 0, some ⟨s.who, q, ih, n, s.dry⟩, s.back, s.started⟩
theorem play_spec (s : State) (row col down : Int) (l : List Int) : spec s (.play row col down l) = if okPlay s row col down l = false then (s, num (-1)) else if s.phase ≠ 1 then (s, num (-3)) else
    match taken (s.player s.who).hand ((nats l).map inHand), laid s row col down l with
      | some h, some q => done (playS s h q ((nats l).map tileOf) ((nats l).map inHand) ((s.lay q ((nats l).map tileOf)).playWorth (down == 1) q)) ((s.lay q ((nats l).map tileOf)).playWorth (down == 1) q)
      | none, _ => (s, num (-4))
      | _, none => (s, num (-6)) := rfl
theorem boardWith_get : ∀ (q : List Nat) (fs : List Int) (b : List Int) (k : Nat), k ∉ q → (boardWith b q fs).getD k 0 = b.getD k 0
  | [], _, _, _, _ => rfl
  | _ :: _, [], _, _, _ => rfl
  | j :: q, f :: fs, b, k, h => by
    show (boardWith (b.set j f) q fs).getD k 0 = b.getD k 0
    rw [boardWith_get q fs _ k (fun z => h (List.mem_cons_of_mem _ z))]
    simp only [List.getD_eq_getElem?_getD, List.getElem?_set]
    rw [if_neg (fun e => h (by rw [e]; simp))]
theorem boardWith_map : ∀ (q : List Nat) (fs : List Int) (b : List Int), q.Nodup → q.length = fs.length → (∀ k ∈ q, k < b.length) → q.map (fun k => (boardWith b q fs).getD k 0) = fs
  | [], [], _, _, _, _ => rfl
  | [], _ :: _, _, _, h, _ => by simp at h
  | _ :: _, [], _, _, h, _ => by simp at h
  | j :: q, f :: fs, b, hn, hl, hk => by
    rw [List.nodup_cons] at hn
    show (boardWith (b.set j f) q fs).getD j 0 :: q.map (fun k => (boardWith (b.set j f) q fs).getD k 0) = f :: fs
    rw [boardWith_get q fs _ j hn.1, boardWith_map q fs (b.set j f) hn.2 (by simpa using hl) (fun k hk' => by rw [List.length_set]; exact hk k (List.mem_cons_of_mem _ hk'))]
    congr 1
    have := hk j (by simp)
    simp [List.getD_eq_getElem?_getD, List.getElem?_set, this]
theorem foldl_erase_len {l hand : List Nat} (h : inHandAll hand l = true) : (l.foldl (fun h x => h.erase x) hand).length + l.length = hand.length := by
  apply taken_len
  rw [taken_eq', if_pos h]
theorem mem_foldl_erase : ∀ (l hand : List Nat) (x : Nat), x ∈ l.foldl (fun h x => h.erase x) hand → x ∈ hand
  | [], _, _, h => h
  | y :: l, hand, x, h => List.mem_of_mem_erase (mem_foldl_erase l (hand.erase y) x h)
theorem play_sim {s : State} {g : G} (S : Sim s g) (row col down : Int) (l : List Int) : Same2 (spec s (.play row col down l)) (playG g row col down l) := by
  rw [play_spec]
  unfold playG
  rw [okPlay_eq S, S.data.phase]
  by_cases h1 : okPlay s row col down l = false
  · rw [if_pos h1, if_pos h1]; exact same_num S _
  rw [if_neg h1, if_neg h1]
  by_cases h2 : s.phase ≠ 1
  · rw [if_pos h2, if_pos h2]; exact same_num S _
  rw [if_neg h2, if_neg h2]
  rw [Bool.not_eq_false] at h1
  have hph : s.phase = 1 := by omega
  obtain ⟨⟨a1, a2⟩, ⟨b1, b2⟩, ⟨k1, k2⟩, hT, e1, e2⟩ := okPlay_iff.mp h1
  have hside : s.side ≠ 0 := by omega
  obtain ⟨c1, c2, c3, c4, c5, c6⟩ := S.safe.game hside
  have d : D1 s g := by
    rcases S.dyn with d | d | d | d | d
    · omega
    · have := d.ph; omega
    · have := d.ph; omega
    · exact d
    · have := d.ph; omega
  have hturn : g.turn = s.who := by rw [S.data.turn, if_neg (by omega)]
  have hhand : g.hands.getD g.turn [] = (s.player s.who).hand := by rw [hturn]; exact S.data.hand _
  rw [hhand, hand_tiles hT, taken_eq', laid_eq S.data.board c1.2.2 h1, S.data.rows]
  by_cases h3 : inHandAll (s.player s.who).hand ((nats l).map inHand) = false
  · rw [if_pos h3, if_neg (by simp [h3])]; exact same_num S _
  rw [if_neg h3, if_pos (by simpa using h3)]
  rw [Bool.not_eq_false] at h3
  by_cases h4 : squaresFor g.board s.side row.toNat col.toNat (down == 1) (l.map faceI) = []
  · rw [if_pos h4, if_pos h4]; exact same_num S _
  rw [if_neg h4, if_neg h4]
  have hbl : g.board.length = s.side * s.side := by rw [S.data.board.bd.len, S.data.board.len]
  have hne : l.map faceI ≠ [] := by
    intro e
    have := congrArg List.length e
    simp at this
    subst this
    simp at e1
  obtain ⟨lok, hql⟩ := squaresFor_ok (d := down == 1) hbl (by omega : row.toNat < s.side) (by omega : col.toNat < s.side) (faces_ne hT) hne h4
  generalize squaresFor g.board s.side row.toNat col.toNat (down == 1) (l.map faceI) = q at *
  have hB := lay_ok S.data.board hT q
  have hw : (s.lay q ((nats l).map tileOf)).playWorth (down == 1) q = worthOfPlay (boardWith g.board q (l.map faceI)) (wordsOf (boardWith g.board q (l.map faceI)) g.rows q (down == 1)) q g.squares g.worths := by
    rw [S.data.rows, S.data.squares, S.data.worths]
    exact playWorth_eq (s := s.lay q ((nats l).map tileOf)) hB.bd S.safe.w0 (down == 1) lok
  have hpoint : g.points.getD g.turn 0 = (s.player s.who).points := by rw [hturn]; exact S.data.point _
  have hel := foldl_erase_len h3
  simp only []
  rw [hw]
  generalize hn : worthOfPlay (boardWith g.board q (l.map faceI)) (wordsOf (boardWith g.board q (l.map faceI)) g.rows q (down == 1)) q g.squares g.worths = n
  have hqle : q.length = l.length := by rw [hql, List.length_map]
  have eHands : g.hands.set g.turn (((l.map faceI).map tileIn).foldl (fun h x => h.erase x) (g.hands.getD g.turn [])) = (s.players.set s.who (plays (s.player s.who) (((nats l).map inHand).foldl (fun h x => h.erase x) (s.player s.who).hand) n)).map Player.hand := by
    rw [hhand, hturn, hand_tiles hT, List.map_set, S.data.hands]; rfl
  have ePoints : g.points.set g.turn (g.points.getD g.turn 0 + (n : Int)) = (s.players.set s.who (plays (s.player s.who) (((nats l).map inHand).foldl (fun h x => h.erase x) (s.player s.who).hand) n)).map Player.points := by
    rw [hpoint, hturn, List.map_set, S.data.points]; rfl
  generalize hh : ((nats l).map inHand).foldl (fun h x => h.erase x) (s.player s.who).hand = h' at *
  have eLost : g.lost = (s.players.set s.who (plays (s.player s.who) h' n)).map fun p => if p.skip = true then 1 else 0 :=
    S.data.lost.trans (map_set_same (fun p => if p.skip = true then 1 else 0) s s.who (plays (s.player s.who) h' n) rfl).symm
  have eLen : (s.players.set s.who (plays (s.player s.who) h' n)).length = s.players.length := List.length_set
  have eP : ∀ j, (s.players.set s.who (plays (s.player s.who) h' n)).getD j ⟨[], 0, false⟩ = if s.who = j then plays (s.player s.who) h' n else s.player j := fun j => pl_set_get d.who
  have hfull := d.full s.who d.who
  have hhl : h'.length + l.length = (s.player s.who).hand.length := by
    rw [List.length_map, nats_len] at hel
    exact hel
  have key : Sim (playS s h' q ((nats l).map tileOf) ((nats l).map inHand) n) (putG g q (down == 1) (l.map faceI)) := by
    refine ⟨⟨S.data.rows, ?_, S.data.worths, S.data.bag, S.data.squares, ⟨hB.bd, hB.len⟩, ?_, ?_, eLost, S.data.words, rfl, hturn, ?_, S.data.aside⟩, ⟨.inr ⟨c1, ?_, c3, c4, c5, c6⟩, S.safe.w0, ?_, S.safe.back⟩, .inr (.inr (.inr (.inr ⟨rfl, d.started, d.back, ?_, d.idle, ?_, ?_, ?_, ?_, ?_, lok⟩)))⟩
    · show g.players = (s.players.set _ _).length
      rw [eLen]; exact S.data.players
    · exact eHands
    · show g.points.set g.turn (g.points.getD g.turn 0 + ((worthOfPlay (boardWith g.board q (l.map faceI)) (wordsOf (boardWith g.board q (l.map faceI)) g.rows q (down == 1)) q g.squares g.worths : Nat) : Int)) = _
      rw [hn]; exact ePoints
    · show min (7 - (((l.map faceI).map tileIn).foldl (fun h x => h.erase x) (g.hands.getD g.turn [])).length) g.bag.sum = min (7 - ((s.players.set s.who (plays (s.player s.who) h' n)).getD s.who ⟨[], 0, false⟩).hand.length) s.bag.sum
      rw [hhand, hand_tiles hT, eP, if_pos rfl, S.data.bag, hh]
      rfl
    · show 2 ≤ (s.players.set _ _).length ∧ (s.players.set _ _).length ≤ 4
      rw [eLen]; exact c2
    · intro p hp x hx
      rcases mem_set_player hp with z | z
      · exact S.safe.tiles p z x hx
      · subst z
        have hx' : x ∈ h' := hx
        rw [← hh] at hx'
        exact S.safe.tiles _ (player_mem d.who) x (mem_foldl_erase _ _ x hx')
    · show (if n = 0 then s.dry + 1 else 0) = if worthOfPlay (boardWith g.board q (l.map faceI)) (wordsOf (boardWith g.board q (l.map faceI)) g.rows q (down == 1)) q g.squares g.worths = 0 then g.idle + 1 else 0
      rw [hn, d.dry]
    · show s.who < (s.players.set _ _).length
      rw [eLen]; exact d.who
    · intro j hj hne
      have hj' : j < s.players.length := by rw [← eLen]; exact hj
      have hne' : s.who ≠ j := fun z => hne z.symm
      show ((s.players.set s.who (plays (s.player s.who) h' n)).getD j ⟨[], 0, false⟩).hand.length + 0 ≤ 7 ∧ (7 ≤ s.bag.sum → ((s.players.set s.who (plays (s.player s.who) h' n)).getD j ⟨[], 0, false⟩).hand.length + 0 = 7)
      rw [eP j, if_neg hne']
      exact d.full j hj'
    · show ((s.players.set s.who (plays (s.player s.who) h' n)).getD s.who ⟨[], 0, false⟩).hand.length + q.length ≤ 7 ∧ (7 ≤ s.bag.sum → ((s.players.set s.who (plays (s.player s.who) h' n)).getD s.who ⟨[], 0, false⟩).hand.length + q.length = 7)
      rw [eP, if_pos rfl]
      show h'.length + q.length ≤ 7 ∧ (7 ≤ s.bag.sum → h'.length + q.length = 7)
      have f1 := hfull.1
      have f2 : 7 ≤ s.bag.sum → (s.player s.who).hand.length + 0 = 7 := hfull.2
      exact ⟨by omega, fun z => by have := f2 z; omega⟩
    · show ((s.players.set s.who (plays (s.player s.who) h' n)).getD s.who ⟨[], 0, false⟩).skip = false
      rw [eP, if_pos rfl]; exact d.skip
    · show some (⟨s.who, q, (nats l).map inHand, n, s.dry⟩ : Play) = some ⟨s.who, q, q.map fun k => tileIn ((boardWith g.board q (l.map faceI)).getD k 0), worthOfPlay (boardWith g.board q (l.map faceI)) (wordsOf (boardWith g.board q (l.map faceI)) g.rows q (down == 1)) q g.squares g.worths, g.idle⟩
      rw [hn, d.dry]
      have e : (q.map fun k => tileIn ((boardWith g.board q (l.map faceI)).getD k 0)) = (nats l).map inHand := by
        have := boardWith_map q (l.map faceI) g.board lok.nd hql (fun k hk => by rw [hbl]; exact lok.lt k hk)
        have e2 : (q.map fun k => (boardWith g.board q (l.map faceI)).getD k 0).map tileIn = (l.map faceI).map tileIn := congrArg (List.map tileIn) this
        rw [List.map_map, hand_tiles hT] at e2
        exact e2
      rw [e]
  have hcount : (putG g q (down == 1) (l.map faceI)).counted = n := hn
  rw [hcount]
  exact same_done key n
def falls (p : Player) (ts : List Nat) (n : Nat) : Player := ⟨p.hand ++ ts, p.points - n, p.skip⟩
def fallS (s : State) (x : Play) : State :=
  ⟨s.side, s.worth, s.bag, s.extra, s.words, x.squares.foldl (fun b k => b.set k none) s.board, s.players.set x.who (falls (s.player x.who) x.tiles x.points), s.who, s.phase, x.dry + 1, none, s.back, s.started⟩
def skipS (s : State) (i : Nat) : State := ⟨s.side, s.worth, s.bag, s.extra, s.words, s.board, s.players.set i ⟨(s.player i).hand, (s.player i).points, true⟩, s.who, s.phase, s.dry, s.last, s.back, s.started⟩
def badOf (s : State) (x : Play) : List (List Nat) := (((s.made false x.squares ++ s.made true x.squares).map s.letters).eraseDups).filter fun w => !(s.words.contains w)
theorem challenge_spec (s : State) (i : Int) : spec s (.challenge i) = if within i 0 ((s.players.length : Int) - 1) = false then (s, num (-1)) else if s.phase ≠ 2 then (s, num (-3)) else match s.last with
    | none => (s, num (-3))
    | some x => if i.toNat = x.who then (s, num (-4)) else if badOf s x = [] then done (skipS s i.toNat) 0 else done (fallS s x).goOn (badOf s x).length := rfl
theorem tile_le {bd : List (Option Tile)} {b : List Int} (h : Bd bd b) (k : Nat) : tileIn (b.getD k 0) ≤ 26 := by
  rw [h.getD k]
  cases e : bd.getD k none with
  | none => decide
  | some t =>
    have := h.tile e
    unfold TileOk at this
    show tileIn (if t.blank = true then -(t.letter : Int) else (t.letter : Int)) ≤ 26
    unfold tileIn
    split <;> omega
theorem clear_len : ∀ (q : List Nat) (bd : List (Option Tile)), (q.foldl (fun b k => b.set k none) bd).length = bd.length
  | [], _ => rfl
  | k :: q, bd => by
    show (q.foldl (fun b k => b.set k none) (bd.set k none)).length = bd.length
    rw [clear_len q, List.length_set]
theorem challenge_sim {s : State} {g : G} (S : Sim s g) (i : Int) : Same2 (spec s (.challenge i)) (challengeG g i) := by
  rw [challenge_spec]
  unfold challengeG
  have eD : decide (0 ≤ i ∧ i < g.players) = within i 0 ((s.players.length : Int) - 1) := by
    unfold within
    rw [S.data.players, Bool.eq_iff_iff]
    simp only [Bool.and_eq_true, decide_eq_true_eq]
    omega
  rw [eD, S.data.phase]
  by_cases h1 : within i 0 ((s.players.length : Int) - 1) = false
  · rw [if_pos h1, if_pos h1]; exact same_num S _
  rw [if_neg h1, if_neg h1]
  by_cases h2 : s.phase ≠ 2
  · rw [if_pos h2, if_pos h2]; exact same_num S _
  rw [if_neg h2, if_neg h2]
  rw [Bool.not_eq_false] at h1
  unfold within at h1
  simp only [Bool.and_eq_true, decide_eq_true_eq] at h1
  have d : D2 s g := by
    rcases S.dyn with d | d | d | d | d
    · omega
    · have := d.ph; omega
    · have := d.ph; omega
    · have := d.ph; omega
    · exact d
  have hside : s.side ≠ 0 := side_ne S.safe (by omega)
  obtain ⟨c1, c2, c3, c4, c5, c6⟩ := S.safe.game hside
  have hturn : g.turn = s.who := by rw [S.data.turn, if_neg (by omega)]
  have hhand : g.hands.getD g.turn [] = (s.player s.who).hand := by rw [hturn]; exact S.data.hand _
  have hpoint : g.points.getD g.turn 0 = (s.player s.who).points := by rw [hturn]; exact S.data.point _
  rw [d.last]
  simp only []
  rw [hturn]
  by_cases h3 : i.toNat = s.who
  · rw [if_pos h3, if_pos (by omega)]; exact same_num S _
  rw [if_neg h3, if_neg (show ¬ i = (s.who : Int) by omega)]
  have hbad : (unlisted g).length = (badOf s ⟨s.who, g.laid, g.laid.map fun k => tileIn (g.board.getD k 0), g.counted, g.idle⟩).length := by
    unfold unlisted badOf
    rw [S.data.words, S.data.rows]
    exact missing_len (words_mem S.data.board.bd d.laid)
  rw [hbad]
  by_cases h4 : badOf s ⟨s.who, g.laid, g.laid.map fun k => tileIn (g.board.getD k 0), g.counted, g.idle⟩ = []
  · rw [if_pos h4, if_neg (by rw [h4]; simp)]
    have hi : i.toNat < s.players.length := by omega
    have eP : ∀ j, (s.players.set i.toNat ⟨(s.player i.toNat).hand, (s.player i.toNat).points, true⟩).getD j ⟨[], 0, false⟩ = if i.toNat = j then ⟨(s.player i.toNat).hand, (s.player i.toNat).points, true⟩ else s.player j := fun j => pl_set_get hi
    have eH : ∀ j, ((s.players.set i.toNat ⟨(s.player i.toNat).hand, (s.player i.toNat).points, true⟩).getD j ⟨[], 0, false⟩).hand = (s.player j).hand := fun j => by
      rw [eP j]
      by_cases e : i.toNat = j
      · subst e; rw [if_pos rfl]
      · rw [if_neg e]
    have eLen : (s.players.set i.toNat (⟨(s.player i.toNat).hand, (s.player i.toNat).points, true⟩ : Player)).length = s.players.length := List.length_set
    have key : Sim (skipS s i.toNat) { g with lost := g.lost.set i.toNat 1 } := by
      refine ⟨⟨S.data.rows, ?_, S.data.worths, S.data.bag, S.data.squares, ⟨S.data.board.bd, S.data.board.len⟩, ?_, ?_, ?_, S.data.words, S.data.phase, S.data.turn, ?_, S.data.aside⟩, ⟨.inr ⟨c1, ?_, c3, c4, c5, c6⟩, S.safe.w0, ?_, S.safe.back⟩, .inr (.inr (.inr (.inr ⟨d.ph, d.started, d.back, d.dry, d.idle, ?_, ?_, ?_, ?_, d.last, d.laid⟩)))⟩
      · show g.players = (s.players.set _ _).length
        rw [eLen]; exact S.data.players
      · exact S.data.hands.trans (map_set_same Player.hand s i.toNat ⟨(s.player i.toNat).hand, (s.player i.toNat).points, true⟩ rfl).symm
      · exact S.data.points.trans (map_set_same Player.points s i.toNat ⟨(s.player i.toNat).hand, (s.player i.toNat).points, true⟩ rfl).symm
      · show g.lost.set i.toNat 1 = (s.players.set i.toNat ⟨(s.player i.toNat).hand, (s.player i.toNat).points, true⟩).map _
        rw [List.map_set, S.data.lost]; rfl
      · show g.due = if s.phase = 0 ∨ s.phase = 2 then min (7 - ((s.players.set i.toNat ⟨(s.player i.toNat).hand, (s.player i.toNat).points, true⟩).getD s.who ⟨[], 0, false⟩).hand.length) s.bag.sum else 0
        rw [eH]
        exact S.data.due
      · show 2 ≤ (s.players.set _ _).length ∧ (s.players.set _ _).length ≤ 4
        rw [eLen]; exact c2
      · intro p hp x hx
        rcases mem_set_player hp with z | z
        · exact S.safe.tiles p z x hx
        · subst z; exact S.safe.tiles _ (player_mem hi) x hx
      · show s.who < (s.players.set _ _).length
        rw [eLen]; exact d.who
      · intro j hj hne
        have hj' : j < s.players.length := by rw [← eLen]; exact hj
        show ((s.players.set i.toNat ⟨(s.player i.toNat).hand, (s.player i.toNat).points, true⟩).getD j ⟨[], 0, false⟩).hand.length + 0 ≤ 7 ∧ (7 ≤ s.bag.sum → ((s.players.set i.toNat ⟨(s.player i.toNat).hand, (s.player i.toNat).points, true⟩).getD j ⟨[], 0, false⟩).hand.length + 0 = 7)
        rw [eH]
        exact d.others j hj' hne
      · show ((s.players.set i.toNat ⟨(s.player i.toNat).hand, (s.player i.toNat).points, true⟩).getD s.who ⟨[], 0, false⟩).hand.length + g.laid.length ≤ 7 ∧ (7 ≤ s.bag.sum → ((s.players.set i.toNat ⟨(s.player i.toNat).hand, (s.player i.toNat).points, true⟩).getD s.who ⟨[], 0, false⟩).hand.length + g.laid.length = 7)
        rw [eH]
        exact d.own
      · show ((s.players.set i.toNat ⟨(s.player i.toNat).hand, (s.player i.toNat).points, true⟩).getD s.who ⟨[], 0, false⟩).skip = false
        rw [eP, if_neg h3]; exact d.skip
    have gph := S.data.phase
    rw [← hturn, ← gph]
    exact same_done key 0
  · have hpos : 0 < (badOf s ⟨s.who, g.laid, g.laid.map fun k => tileIn (g.board.getD k 0), g.counted, g.idle⟩).length := List.length_pos_iff.mpr h4
    rw [if_neg h4, if_pos hpos]
    generalize (badOf s ⟨s.who, g.laid, g.laid.map fun k => tileIn (g.board.getD k 0), g.counted, g.idle⟩).length = n at *
    have eLen : (s.players.set s.who (falls (s.player s.who) (g.laid.map fun k => tileIn (g.board.getD k 0)) g.counted)).length = s.players.length := List.length_set
    have eP : ∀ j, (s.players.set s.who (falls (s.player s.who) (g.laid.map fun k => tileIn (g.board.getD k 0)) g.counted)).getD j ⟨[], 0, false⟩ = if s.who = j then falls (s.player s.who) (g.laid.map fun k => tileIn (g.board.getD k 0)) g.counted else s.player j := fun j => pl_set_get d.who
    have key : Mid (fallS s ⟨s.who, g.laid, g.laid.map fun k => tileIn (g.board.getD k 0), g.counted, g.idle⟩) { takeBack g with idle := g.idle + 1 } := by
      refine ⟨S.data.rows, ?_, S.data.worths, S.data.bag, S.data.squares, ⟨clear_board g.laid s.board g.board S.data.board.bd, ?_⟩, ?_, ?_, ?_, S.data.words, S.data.aside, hturn, ?_, ?_, rfl, d.started, d.back, ⟨.inr ⟨c1, ?_, c3, c4, c5, c6⟩, S.safe.w0, ?_, S.safe.back⟩, hside, ?_⟩
      · show g.players = (s.players.set _ _).length
        rw [eLen]; exact S.data.players
      · show (g.laid.foldl (fun b k => b.set k none) s.board).length = s.side * s.side
        rw [clear_len]; exact S.data.board.len
      · show g.hands.set g.turn (g.hands.getD g.turn [] ++ g.laid.map fun k => tileIn (g.board.getD k 0)) = (s.players.set s.who (falls (s.player s.who) (g.laid.map fun k => tileIn (g.board.getD k 0)) g.counted)).map Player.hand
        rw [hhand, hturn, List.map_set, S.data.hands]; rfl
      · show g.points.set g.turn (g.points.getD g.turn 0 - (g.counted : Int)) = (s.players.set s.who (falls (s.player s.who) (g.laid.map fun k => tileIn (g.board.getD k 0)) g.counted)).map Player.points
        rw [hpoint, hturn, List.map_set, S.data.points]; rfl
      · exact S.data.lost.trans (map_set_same (fun p => if p.skip = true then 1 else 0) s s.who (falls (s.player s.who) (g.laid.map fun k => tileIn (g.board.getD k 0)) g.counted) rfl).symm
      · show s.who < (s.players.set _ _).length
        rw [eLen]; exact d.who
      · show ((s.players.set s.who (falls (s.player s.who) (g.laid.map fun k => tileIn (g.board.getD k 0)) g.counted)).getD s.who ⟨[], 0, false⟩).skip = false
        rw [eP, if_pos rfl]; exact d.skip
      · show 2 ≤ (s.players.set _ _).length ∧ (s.players.set _ _).length ≤ 4
        rw [eLen]; exact c2
      · intro p hp x hx
        rcases mem_set_player hp with z | z
        · exact S.safe.tiles p z x hx
        · subst z
          rcases List.mem_append.mp hx with z | z
          · exact S.safe.tiles _ (player_mem d.who) x z
          · obtain ⟨k, _, rfl⟩ := List.mem_map.mp z
            exact tile_le S.data.board.bd k
      · intro j hj
        have hj' : j < s.players.length := by rw [← eLen]; exact hj
        show ((s.players.set s.who (falls (s.player s.who) (g.laid.map fun k => tileIn (g.board.getD k 0)) g.counted)).getD j ⟨[], 0, false⟩).hand.length + 0 ≤ 7 ∧ (7 ≤ s.bag.sum → ((s.players.set s.who (falls (s.player s.who) (g.laid.map fun k => tileIn (g.board.getD k 0)) g.counted)).getD j ⟨[], 0, false⟩).hand.length + 0 = 7)
        rw [eP j]
        by_cases e : s.who = j
        · rw [if_pos e]
          have hl : (falls (s.player s.who) (g.laid.map fun k => tileIn (g.board.getD k 0)) g.counted).hand.length = (s.player s.who).hand.length + g.laid.length := by
            show ((s.player s.who).hand ++ _).length = _
            rw [List.length_append, List.length_map]
          rw [hl]
          exact d.own
        · rw [if_neg e]
          exact d.others j hj' (fun z => e z.symm)
    have eE : endTurn (takeBack g) 0 = endT { takeBack g with idle := g.idle + 1 } := rfl
    rw [eE]
    exact same_done (goOn_sim key) n
def swapP (p : Player) (h : List Nat) : Player := ⟨h, p.points, p.skip⟩
def swapS (s : State) (h m : List Nat) : State := ⟨s.side, s.worth, s.bag, s.extra, s.words, s.board, s.players.set s.who (swapP (s.player s.who) h), s.who, 0, s.dry + 1, s.last, m, s.started⟩
theorem swap_spec (s : State) (l : List Int) : spec s (.swap l) = if (l.all (fun z => within z 0 26) && decide (1 ≤ l.length)) = false then (s, num (-1)) else if s.phase ≠ 1 then (s, num (-3)) else if s.left < HAND then (s, num (-5)) else
    match taken (s.player s.who).hand (nats l) with
      | none => (s, num (-4))
      | some h => done (swapS s h (nats l)) l.length := rfl
theorem swap_sim {s : State} {g : G} (S : Sim s g) (l : List Int) : Same2 (spec s (.swap l)) (swapG g l) := by
  rw [swap_spec]
  unfold swapG
  have eA : (decide (l.length ≠ 0) && l.all (fun z => within z 0 26)) = (l.all (fun z => within z 0 26) && decide (1 ≤ l.length)) := by
    rw [Bool.and_comm, Bool.eq_iff_iff]
    simp only [Bool.and_eq_true, decide_eq_true_eq]
    exact ⟨fun ⟨a, b⟩ => ⟨a, by omega⟩, fun ⟨a, b⟩ => ⟨a, by omega⟩⟩
  rw [eA, S.data.phase]
  by_cases h1 : (l.all (fun z => within z 0 26) && decide (1 ≤ l.length)) = false
  · rw [if_pos h1, if_pos h1]; exact same_num S _
  rw [if_neg h1, if_neg h1]
  by_cases h2 : s.phase ≠ 1
  · rw [if_pos h2, if_pos h2]; exact same_num S _
  rw [if_neg h2, if_neg h2, S.left]
  by_cases h5 : s.left < 7
  · rw [if_pos h5, if_pos (show s.left < HAND from h5)]; exact same_num S _
  rw [if_neg h5, if_neg (show ¬ s.left < HAND from h5)]
  rw [Bool.not_eq_false, Bool.and_eq_true, decide_eq_true_eq] at h1
  have d : D1 s g := by
    rcases S.dyn with d | d | d | d | d
    · omega
    · have := d.ph; omega
    · have := d.ph; omega
    · exact d
    · have := d.ph; omega
  have hside : s.side ≠ 0 := side_ne S.safe (by omega)
  obtain ⟨c1, c2, c3, c4, c5, c6⟩ := S.safe.game hside
  have hturn : g.turn = s.who := by rw [S.data.turn, if_neg (by omega)]
  have hhand : g.hands.getD g.turn [] = (s.player s.who).hand := by rw [hturn]; exact S.data.hand _
  have hle : ∀ x ∈ nats l, x ≤ 26 := nats_le (m := 26) h1.1
  have hlen := nats_len l
  rw [hhand, taken_eq']
  by_cases h3 : inHandAll (s.player s.who).hand (nats l) = false
  · rw [if_pos h3, if_neg (by simp [h3])]; exact same_num S _
  rw [if_neg h3, if_pos (by simpa using h3)]
  rw [Bool.not_eq_false] at h3
  have hel := foldl_erase_len h3
  have hmem := mem_foldl_erase (nats l) (s.player s.who).hand
  have h7 := (d.full s.who d.who).2 (by omega)
  rw [← hlen] at h1 ⊢
  generalize nats l = m at *
  simp only []
  generalize hh : m.foldl (fun h x => h.erase x) (s.player s.who).hand = h' at *
  have eLen : (s.players.set s.who (swapP (s.player s.who) h')).length = s.players.length := List.length_set
  have eP : ∀ j, (s.players.set s.who (swapP (s.player s.who) h')).getD j ⟨[], 0, false⟩ = if s.who = j then swapP (s.player s.who) h' else s.player j := fun j => pl_set_get d.who
  have key : Sim (swapS s h' m) (swappedG g m) := by
    refine ⟨⟨S.data.rows, ?_, S.data.worths, S.data.bag, S.data.squares, ⟨S.data.board.bd, S.data.board.len⟩, ?_, ?_, ?_, S.data.words, rfl, hturn, ?_, rfl⟩, ⟨.inr ⟨c1, ?_, c3, c4, c5, c6⟩, S.safe.w0, ?_, hle⟩, .inr (.inr (.inl ⟨rfl, d.started, ?_, ?_, d.idle, ?_, ?_, ?_, ?_, ?_⟩))⟩
    · show g.players = (s.players.set _ _).length
      rw [eLen]; exact S.data.players
    · show g.hands.set g.turn (m.foldl (fun h x => h.erase x) (g.hands.getD g.turn [])) = (s.players.set s.who (swapP (s.player s.who) h')).map Player.hand
      rw [hhand, hturn, hh, List.map_set, S.data.hands]; rfl
    · exact S.data.points.trans (map_set_same Player.points s s.who (swapP (s.player s.who) h') rfl).symm
    · exact S.data.lost.trans (map_set_same (fun p => if p.skip = true then 1 else 0) s s.who (swapP (s.player s.who) h') rfl).symm
    · show m.length = min (7 - ((s.players.set s.who (swapP (s.player s.who) h')).getD s.who ⟨[], 0, false⟩).hand.length) s.bag.sum
      rw [eP, if_pos rfl]
      show m.length = min (7 - h'.length) s.left
      omega
    · show 2 ≤ (s.players.set _ _).length ∧ (s.players.set _ _).length ≤ 4
      rw [eLen]; exact c2
    · intro p hp x hx
      rcases mem_set_player hp with z | z
      · exact S.safe.tiles p z x hx
      · subst z
        exact S.safe.tiles _ (player_mem d.who) x (hmem x hx)
    · show m ≠ []
      intro z
      rw [z] at h1
      simp at h1
    · show s.dry + 1 = g.idle + 1
      rw [d.dry]
    · show s.who < (s.players.set _ _).length
      rw [eLen]; exact d.who
    · intro j hj hne
      have hj' : j < s.players.length := by rw [← eLen]; exact hj
      have hne' : s.who ≠ j := fun z => hne z.symm
      show ((s.players.set s.who (swapP (s.player s.who) h')).getD j ⟨[], 0, false⟩).hand.length = 7
      rw [eP, if_neg hne']
      exact (d.full j hj').2 (by omega)
    · show ((s.players.set s.who (swapP (s.player s.who) h')).getD s.who ⟨[], 0, false⟩).hand.length + m.length = 7
      rw [eP, if_pos rfl]
      show h'.length + m.length = 7
      omega
    · show 7 ≤ s.left
      omega
    · show ((s.players.set s.who (swapP (s.player s.who) h')).getD s.who ⟨[], 0, false⟩).skip = false
      rw [eP, if_pos rfl]; exact d.skip
  exact same_done key m.length
theorem pass_sim {s : State} {g : G} (S : Sim s g) : Same2 (spec s .pass) (passG g) := by
  unfold passG
  show Same2 (if s.phase ≠ 1 then (s, num (-3)) else done ({ s with dry := s.dry + 1 } : State).goOn 0) _
  rw [S.data.phase]
  by_cases h2 : s.phase ≠ 1
  · rw [if_pos h2, if_pos h2]; exact same_num S _
  rw [if_neg h2, if_neg h2]
  have d : D1 s g := by
    rcases S.dyn with d | d | d | d | d
    · omega
    · have := d.ph; omega
    · have := d.ph; omega
    · exact d
    · have := d.ph; omega
  have hside : s.side ≠ 0 := side_ne S.safe (by omega)
  have hturn : g.turn = s.who := by rw [S.data.turn, if_neg (by omega)]
  have key : Mid { s with dry := s.dry + 1 } { g with idle := g.idle + 1 } :=
    ⟨S.data.rows, S.data.players, S.data.worths, S.data.bag, S.data.squares, ⟨S.data.board.bd, S.data.board.len⟩, S.data.hands, S.data.points, S.data.lost, S.data.words, S.data.aside, hturn, d.who, d.skip, (by show s.dry + 1 = g.idle + 1; rw [d.dry]), d.started, d.back, ⟨S.safe.static, S.safe.w0, S.safe.tiles, S.safe.back⟩, hside, d.full⟩
  have eE : endTurn g 0 = endT { g with idle := g.idle + 1 } := rfl
  rw [eE]
  exact same_done (goOn_sim key) 0
theorem now_sim {s : State} {g : G} (S : Sim s g) : Same2 (spec s .now) (g, nowG g) := ⟨S, by
  show nowG g = (s.phase : Int) :: told s
  unfold nowG
  rw [told_eq S.data, S.data.phase]⟩
theorem hand_sim {s : State} {g : G} (S : Sim s g) (i : Int) : Same2 (spec s (.hand i)) (g, handG g i) := by
  unfold handG
  show Same2 (if within i 0 ((s.players.length : Int) - 1) = false then (s, num (-1)) else (s, ⟨(s.player i.toNat).hand.length, (if (s.player i.toNat).skip = true then 1 else 0) :: Kg82.whole (s.player i.toNat).hand⟩)) _
  have eD : decide (0 ≤ i ∧ i < g.players) = within i 0 ((s.players.length : Int) - 1) := by
    unfold within
    rw [S.data.players, Bool.eq_iff_iff]
    simp only [Bool.and_eq_true, decide_eq_true_eq]
    omega
  rw [eD]
  by_cases h1 : within i 0 ((s.players.length : Int) - 1) = false
  · rw [if_pos h1, if_pos h1]; exact same_num S _
  rw [if_neg h1, if_neg h1, S.data.hand, S.data.losts]
  refine ⟨S, ?_⟩
  show _ = ((s.player i.toNat).hand.length : Int) :: (if (s.player i.toNat).skip = true then 1 else 0) :: Kg82.whole (s.player i.toNat).hand
  split <;> rfl
theorem board_sim {s : State} {g : G} (S : Sim s g) : Same2 (spec s .board) (g, boardG g) := ⟨S, by
  unfold boardG
  rw [S.data.rows, S.data.board.bd.eq]
  show (s.side : Int) :: s.board.map face = (s.side : Int) :: s.board.map _
  congr 1
  apply List.map_congr_left
  intro x _
  cases x <;> rfl⟩
theorem flatMap_ext {α β : Type} {f g : α → List β} : ∀ {l : List α}, (∀ x ∈ l, f x = g x) → l.flatMap f = l.flatMap g
  | [], _ => rfl
  | x :: l, h => by rw [List.flatMap_cons, List.flatMap_cons, h x (by simp), flatMap_ext fun y hy => h y (List.mem_cons_of_mem _ hy)]
theorem count_sim {s : State} {g : G} (S : Sim s g) (row col down : Int) (l : List Int) : Same2 (spec s (.count row col down l)) (g, countG g row col down l) := by
  unfold countG
  show Same2 (if okPlay s row col down l = false then (s, num (-1)) else match laid s row col down l with
    | none => (s, num (-6))
    | some q => (s, ⟨(s.lay q ((nats l).map tileOf)).playWorth (down == 1) q, (((((s.lay q ((nats l).map tileOf)).made (down == 1) q).length : Nat) : Int) :: (((s.lay q ((nats l).map tileOf)).made (down == 1) q).flatMap fun w => ((w.length : Nat) : Int) :: (Kg82.whole ((s.lay q ((nats l).map tileOf)).letters w) ++ [(((s.lay q ((nats l).map tileOf)).wordWorth q w : Nat) : Int)])))⟩)) _
  rw [okPlay_eq S]
  by_cases h1 : okPlay s row col down l = false
  · rw [if_pos h1, if_pos h1]; exact same_num S _
  rw [if_neg h1, if_neg h1]
  rw [Bool.not_eq_false] at h1
  obtain ⟨⟨a1, a2⟩, ⟨b1, b2⟩, ⟨k1, k2⟩, hT, e1, e2⟩ := okPlay_iff.mp h1
  have hside : s.side ≠ 0 := by omega
  obtain ⟨c1, c2, c3, c4, c5, c6⟩ := S.safe.game hside
  rw [laid_eq S.data.board c1.2.2 h1, S.data.rows]
  by_cases h4 : squaresFor g.board s.side row.toNat col.toNat (down == 1) (l.map faceI) = []
  · rw [if_pos h4, if_pos h4]; exact same_num S _
  rw [if_neg h4, if_neg h4]
  have hbl : g.board.length = s.side * s.side := by rw [S.data.board.bd.len, S.data.board.len]
  have hne : l.map faceI ≠ [] := by
    intro e
    have := congrArg List.length e
    simp at this
    subst this
    simp at e1
  obtain ⟨lok, hql⟩ := squaresFor_ok (d := down == 1) hbl (by omega : row.toNat < s.side) (by omega : col.toNat < s.side) (faces_ne hT) hne h4
  generalize squaresFor g.board s.side row.toNat col.toNat (down == 1) (l.map faceI) = q at *
  have hB := lay_ok S.data.board hT q
  have hm : (s.lay q ((nats l).map tileOf)).made (down == 1) q = wordsOf (boardWith g.board q (l.map faceI)) s.side q (down == 1) :=
    made_eq (s := s.lay q ((nats l).map tileOf)) hB.bd (down == 1) lok.ne fun k hk => ⟨lok.lt k hk, lok.tile k hk⟩
  have hw : (s.lay q ((nats l).map tileOf)).playWorth (down == 1) q = worthOfPlay (boardWith g.board q (l.map faceI)) (wordsOf (boardWith g.board q (l.map faceI)) s.side q (down == 1)) q g.squares g.worths := by
    rw [S.data.squares, S.data.worths]
    exact playWorth_eq (s := s.lay q ((nats l).map tileOf)) hB.bd S.safe.w0 (down == 1) lok
  refine ⟨S, ?_⟩
  show _ = ((s.lay q ((nats l).map tileOf)).playWorth (down == 1) q : Int) :: ((((s.lay q ((nats l).map tileOf)).made (down == 1) q).length : Nat) : Int) :: (((s.lay q ((nats l).map tileOf)).made (down == 1) q).flatMap fun w => ((w.length : Nat) : Int) :: (Kg82.whole ((s.lay q ((nats l).map tileOf)).letters w) ++ [(((s.lay q ((nats l).map tileOf)).wordWorth q w : Nat) : Int)]))
  rw [hw, hm]
  simp only []
  congr 2
  apply flatMap_ext
  intro w _
  have x1 : (s.lay q ((nats l).map tileOf)).letters w = lettersOn (boardWith g.board q (l.map faceI)) w := letters_eq (s := s.lay q ((nats l).map tileOf)) hB.bd w
  have x2 : (s.lay q ((nats l).map tileOf)).wordWorth q w = worthOfWord (boardWith g.board q (l.map faceI)) w q g.squares g.worths := by
    rw [S.data.squares, S.data.worths]
    exact wordWorth_eq (s := s.lay q ((nats l).map tileOf)) hB.bd S.safe.w0 q w
  rw [x1, x2]
end Tw
set_option linter.all false
namespace Tw
open Kg82
/-! ### what the program's parts ask of a game -/
structure GOk (m : G) : Prop where
  wl : m.worths.length = 27
  hd : ∀ h ∈ m.hands, h.length ≤ 14 ∧ ∀ x ∈ h, x ≤ 26
  hl : m.hands.length = m.players
  pl : m.points.length = m.players
  ll : m.lost.length = m.players
  turn : m.turn < m.players
  p4 : m.players ≤ 4
structure GFull (m : G) : Prop where
  ok : GOk m
  bl : m.bag.length = 27
  n0 : 0 < m.rows
  n11 : m.rows ≤ 11
  brd : m.board.length = m.rows * m.rows
  fc : ∀ z ∈ m.board, z ≤ 26
  sq : m.squares.length = m.rows * m.rows
  s4 : ∀ x ∈ m.squares, x ≤ 4
  w20 : ∀ x ∈ m.worths, x ≤ 20
  al : m.aside.length ≤ 7
  a26 : ∀ x ∈ m.aside, x ≤ 26
  ld : ∀ k ∈ m.laid, k < m.rows * m.rows
/-- what a look at the board asks -/
structure GLook (m : G) : Prop where
  n11 : m.rows ≤ 11
  brd : m.board.length = m.rows * m.rows
  fc : ∀ z ∈ m.board, z ≤ 26
  sq : m.squares.length = m.rows * m.rows
  s4 : ∀ x ∈ m.squares, x ≤ 4
  wl : m.worths.length = 27
  w20 : ∀ x ∈ m.worths, x ≤ 20
/-- what a look at players asks -/
structure GP (m : G) : Prop where
  hl : m.hands.length = m.players
  pl : m.points.length = m.players
  ll : m.lost.length = m.players
  p4 : m.players ≤ 4
def LdOk (g : G) : Prop := ∀ k ∈ g.laid, k < g.rows * g.rows
theorem bd_le {bd : List (Option Tile)} {b : List Int} (h : Bd bd b) : ∀ z ∈ b, z ≤ 26 := fun z hz => by
  obtain ⟨k, hk, e⟩ := List.getElem_of_mem hz
  have h1 := tile_le h k
  have h2 : b.getD k 0 = z := by rw [List.getD_eq_getElem?_getD, List.getElem?_eq_getElem hk, e]; rfl
  rw [h2] at h1
  unfold tileIn at h1
  omega
theorem sim_p {s : State} {g : G} (S : Sim s g) : GP g := by
  refine ⟨by rw [S.data.hands, S.data.players, List.length_map], by rw [S.data.points, S.data.players, List.length_map], by rw [S.data.lost, S.data.players, List.length_map], ?_⟩
  rw [S.data.players]
  rcases S.safe.static with ⟨_, e, _⟩ | ⟨_, h, _⟩
  · rw [e]; simp
  · exact h.2
theorem sim_look {s : State} {g : G} (S : Sim s g) (h0 : 0 < g.rows) : GLook g := by
  have hr := S.data.rows
  have hn : s.side ≠ 0 := by omega
  obtain ⟨⟨_, n11, _⟩, _, ⟨wl, w20⟩, _, sq, s4⟩ := S.safe.game hn
  refine ⟨by omega, ?_, bd_le S.data.board.bd, by rw [S.data.squares, hr]; exact sq, by rw [S.data.squares]; exact s4, by rw [S.data.worths]; exact wl, by rw [S.data.worths]; exact w20⟩
  rw [S.data.board.bd.len, S.data.board.len, hr]
theorem sim_board {s : State} {g : G} (S : Sim s g) : g.board.length ≤ 121 := by
  rw [S.data.board.bd.len, S.data.board.len]
  have h : s.side ≤ 11 := by
    rcases S.safe.static with ⟨e, _⟩ | ⟨h, _⟩
    · omega
    · exact h.2.1
  exact Nat.mul_le_mul h h
theorem sim_hand {s : State} {g : G} (S : Sim s g) {h : List Nat} (hh : h ∈ g.hands) : ∃ j, j < s.players.length ∧ h = (s.player j).hand := by
  rw [S.data.hands] at hh
  obtain ⟨p, hp, rfl⟩ := List.mem_map.mp hh
  obtain ⟨j, hj, e⟩ := List.getElem_of_mem hp
  refine ⟨j, hj, ?_⟩
  unfold State.player
  rw [List.getD_eq_getElem?_getD, List.getElem?_eq_getElem hj, e]
  rfl
theorem sim_full {s : State} {g : G} (S : Sim s g) (L : LdOk g) (hp : g.phase ≠ 3) : GFull g ∧ (∀ h ∈ g.hands, h.length ≤ 7) ∧ ((g.phase = 0 ∨ g.phase = 2) → g.due ≤ 7) := by
  have hp' : s.phase ≠ 3 := by rw [← S.data.phase]; exact hp
  have hn := side_ne S.safe hp'
  have h0 : 0 < g.rows := by rw [S.data.rows]; omega
  have l := sim_look S h0
  have gp := sim_p S
  obtain ⟨_, _, _, bl, _, _⟩ := S.safe.game hn
  have hw : s.who < s.players.length := by
    rcases S.dyn with h | h | h | h | h
    · exact absurd h hp'
    · exact h.who
    · exact h.who
    · exact h.who
    · exact h.who
  have h7 : ∀ h ∈ g.hands, h.length ≤ 7 := fun h hh => by
    obtain ⟨j, hj, rfl⟩ := sim_hand S hh
    rcases S.dyn with d | d | d | d | d
    · exact absurd d hp'
    · by_cases q : j < s.who
      · rw [d.low j q]; exact Nat.le_refl _
      · rw [d.high j (by omega)]; exact Nat.zero_le _
    · by_cases q : j = s.who
      · subst q; have := d.own; omega
      · rw [d.others j hj q]; exact Nat.le_refl _
    · have := (d.full j hj).1; omega
    · by_cases q : j = s.who
      · subst q; have := d.own.1; omega
      · have := (d.others j hj q).1; omega
  have ha : g.aside.length ≤ 7 := by
    rw [S.data.aside]
    rcases S.dyn with d | d | d | d | d
    · exact absurd d hp'
    · rw [d.back]; exact Nat.zero_le _
    · have := d.own; omega
    · rw [d.back]; exact Nat.zero_le _
    · rw [d.back]; exact Nat.zero_le _
  refine ⟨⟨⟨l.wl, fun h hh => ⟨by have := h7 h hh; omega, fun x hx => ?_⟩, gp.hl, gp.pl, gp.ll, ?_, gp.p4⟩, by rw [S.data.bag]; exact bl, h0, l.n11, l.brd, l.fc, l.sq, l.s4, l.w20, ha, by rw [S.data.aside]; exact S.safe.back, L⟩, h7, fun h02 => ?_⟩
  · obtain ⟨j, hj, rfl⟩ := sim_hand S hh
    exact S.safe.tiles _ (player_mem hj) x hx
  · rw [S.data.turn, S.data.players, if_neg hp']; exact hw
  · rw [S.data.due]
    split
    · unfold State.due HAND; omega
    · exact Nat.zero_le _
theorem sim_laid {s : State} {g : G} (S : Sim s g) (hp : g.phase = 2) : g.laid ≠ [] ∧ g.laid.length ≤ 7 ∧ g.laid.Nodup := by
  have hp' : s.phase = 2 := by rw [← S.data.phase]; exact hp
  rcases S.dyn with d | d | d | d | d
  · omega
  · have := d.ph; omega
  · have := d.ph; omega
  · have := d.ph; omega
  · exact ⟨d.laid.ne, by have := d.own.1; omega, d.laid.nd⟩
/-! ### what is told by points: at most four -/
theorem eg_points (m : G) (h : m.points.length ≤ 4) : (endGame m).points.length ≤ 4 := by
  show (List.zipWith _ m.points m.hands).length ≤ 4
  rw [List.length_zipWith]
  omega
theorem gl_points : ∀ (f : Nat) (m : G), m.points.length ≤ 4 → (goLoop f m).points.length ≤ 4
  | 0, _, h => h
  | f + 1, m, h => by
    unfold goLoop
    split
    · split
      · exact eg_points _ h
      · exact gl_points f _ h
    · exact h
theorem endT_points (m : G) (h : m.points.length ≤ 4) : (endT m).points.length ≤ 4 := by
  unfold endT
  split
  · exact eg_points _ h
  · exact gl_points 6 _ h
theorem et_points (m : G) (c : Nat) (h : m.points.length ≤ 4) : (endTurn m c).points.length ≤ 4 := by
  rw [endTurn_eq]
  exact endT_points _ h
theorem fd_points (m : G) (h : m.points.length ≤ 4) : (followDraw m).points.length ≤ 4 := by
  unfold followDraw
  split
  · exact et_points _ _ h
  · split
    · exact et_points _ _ h
    · unfold followFirst
      split <;> exact h
/-! ### the squares laid last stay on the board; hands stay small -/
def SameL (a b : G) : Prop := a.laid = b.laid ∧ a.rows = b.rows ∧ a.hands = b.hands
theorem SameL.ok {a b : G} (h : SameL a b) (l : LdOk b) : LdOk a := by
  unfold LdOk at *
  rw [h.1, h.2.1]; exact l
def HdOk (g : G) : Prop := ∀ h ∈ g.hands, h.length ≤ 14
theorem SameL.hd {a b : G} (h : SameL a b) (l : HdOk b) : HdOk a := by
  unfold HdOk at *
  rw [h.2.2]; exact l
theorem gl_same : ∀ (f : Nat) (m : G), SameL (goLoop f m) m
  | 0, _ => ⟨rfl, rfl, rfl⟩
  | f + 1, m => by
    unfold goLoop
    split
    · split
      · exact ⟨rfl, rfl, rfl⟩
      · exact ⟨(gl_same f _).1, (gl_same f _).2.1, (gl_same f _).2.2⟩
    · exact ⟨rfl, rfl, rfl⟩
theorem endT_same (m : G) : SameL (endT m) m := by
  unfold endT
  split
  · exact ⟨rfl, rfl, rfl⟩
  · exact ⟨(gl_same 6 _).1, (gl_same 6 _).2.1, (gl_same 6 _).2.2⟩
theorem et_same (m : G) (c : Nat) : SameL (endTurn m c) m := by
  rw [endTurn_eq]
  exact ⟨(endT_same _).1, (endT_same _).2.1, (endT_same _).2.2⟩
theorem fd_same (m : G) : SameL (followDraw m) m := by
  unfold followDraw
  split
  · exact et_same _ _
  · split
    · exact ⟨(et_same _ _).1, (et_same _ _).2.1, (et_same _ _).2.2⟩
    · unfold followFirst
      split <;> exact ⟨rfl, rfl, rfl⟩
theorem hd_get {hs : List (List Nat)} {n : Nat} (h : ∀ x ∈ hs, x.length ≤ n) (i : Nat) : (hs.getD i []).length ≤ n := by
  rw [List.getD_eq_getElem?_getD]
  cases e : hs[i]? with
  | none => exact Nat.zero_le _
  | some x => exact h x (List.mem_of_getElem? e)
theorem hd_set {hs : List (List Nat)} {n i : Nat} {x : List Nat} (h : ∀ x ∈ hs, x.length ≤ n) (hx : x.length ≤ n) : ∀ y ∈ hs.set i x, y.length ≤ n := fun y hy => by
  rcases List.mem_or_eq_of_mem_set hy with q | q
  · exact h y q
  · rw [q]; exact hx
theorem ld_begin {g : G} (L : LdOk g) (n p : Int) (w b e : List Int) : LdOk (beginG g n p w b e).1 := by
  unfold beginG
  split
  · exact L
  · split
    · exact L
    · intro k hk; cases hk
theorem ld_word {g : G} (L : LdOk g) (l : List Int) : LdOk (wordG g l).1 := by
  unfold wordG
  repeat' split
  all_goals exact L
theorem ld_draw {g : G} (L : LdOk g) (l : List Int) : LdOk (drawG g l).1 := by
  unfold drawG
  split
  · exact L
  split
  · exact L
  split
  · exact L
  split
  · exact L
  exact (fd_same _).ok L
theorem okG_iff {m : G} {r c d : Int} {l : List Int} : okPlayG m r c d l = true ↔ (0 ≤ r ∧ r < m.rows) ∧ (0 ≤ c ∧ c < m.rows) ∧ (0 ≤ d ∧ d ≤ 1) ∧ (1 ≤ l.length ∧ l.length ≤ 7) ∧ Tiles52 l := by
  unfold okPlayG Tiles52 Kg82.within
  simp only [Bool.and_eq_true, decide_eq_true_eq, List.all_eq_true]
theorem ld_play {s : State} {g : G} (S : Sim s g) (L : LdOk g) (r c d : Int) (l : List Int) : LdOk (playG g r c d l).1 := by
  unfold playG
  split
  · exact L
  split
  · exact L
  split
  · exact L
  split
  · exact L
  rename_i h1 h2 h3 h4
  rw [Bool.not_eq_false] at h1
  obtain ⟨⟨r0, r1⟩, ⟨c0, c1⟩, ⟨d0, d1⟩, ⟨l1, l7⟩, hT⟩ := okG_iff.mp h1
  have lk := sim_look S (by omega)
  have hne : l.map faceI ≠ [] := fun e => by
    have := congrArg List.length e
    simp at this
    subst this
    simp at l1
  exact (squaresFor_ok (d := d == 1) lk.brd (by omega : r.toNat < g.rows) (by omega : c.toNat < g.rows) (faces_ne hT) hne h4).1.lt
theorem ld_challenge {g : G} (L : LdOk g) (i : Int) : LdOk (challengeG g i).1 := by
  unfold challengeG
  split
  · exact L
  split
  · exact L
  split
  · exact L
  split
  · exact (et_same _ _).ok L
  · exact L
theorem ld_swap {g : G} (L : LdOk g) (l : List Int) : LdOk (swapG g l).1 := by
  unfold swapG
  repeat' split
  all_goals exact L
theorem ld_pass {g : G} (L : LdOk g) : LdOk (passG g).1 := by
  unfold passG
  split
  · exact L
  · exact (et_same _ _).ok L
/-! ### a call as it is handed in -/
def stepG (g : G) (c : List (List Int)) : G × List Int := match c with
  | [[1, n, p], w, b, e] => beginG g n p w b e
  | [[2], l] => wordG g l
  | [[3], l] => drawG g l
  | [[4, r, c, d], l] => playG g r c d l
  | [[5, b]] => challengeG g b
  | [[6], l] => swapG g l
  | [[7]] => passG g
  | [[8]] => (g, nowG g)
  | [[9, i]] => (g, handG g i)
  | [[10]] => (g, boardG g)
  | [[11, r, c, d], l] => (g, countG g r c d l)
  | _ => (g, [])
inductive Good : List (List Int) → Prop
  | c1 {n p : Int} {w b e : List Int} : w.length ≤ 130 → b.length ≤ 130 → e.length ≤ 130 → Good [[1, n, p], w, b, e]
  | c2 {l : List Int} : l.length ≤ 130 → Good [[2], l]
  | c3 {l : List Int} : l.length ≤ 130 → Good [[3], l]
  | c4 {r c d : Int} {l : List Int} : l.length ≤ 130 → Good [[4, r, c, d], l]
  | c5 {b : Int} : Good [[5, b]]
  | c6 {l : List Int} : l.length ≤ 130 → Good [[6], l]
  | c7 : Good [[7]]
  | c8 : Good [[8]]
  | c9 {i : Int} : Good [[9, i]]
  | c10 : Good [[10]]
  | c11 {r c d : Int} {l : List Int} : l.length ≤ 130 → Good [[11, r, c, d], l]
theorem step_of {s : State} {g : G} {c : List (List Int)} {k : Kg82.Call} {r : G × List Int} (h : Kg82Neutral.callOf c = some k) (q : Same2 (spec s k) r) : Sim (Kg82Neutral.step s c).1 r.1 ∧ (Kg82Neutral.step s c).2 = r.2 := by
  unfold Kg82Neutral.step
  rw [h]
  exact ⟨q.1, q.2.symm⟩
theorem step_sim {s : State} {g : G} (S : Sim s g) {c : List (List Int)} (h : Good c) : Sim (Kg82Neutral.step s c).1 (stepG g c).1 ∧ (Kg82Neutral.step s c).2 = (stepG g c).2 := by
  cases h with
  | c1 => exact step_of (g := g) rfl (begin_sim S _ _ _ _ _)
  | c2 => exact step_of (g := g) rfl (word_sim S _)
  | c3 => exact step_of (g := g) rfl (draw_sim S _)
  | c4 => exact step_of (g := g) rfl (play_sim S _ _ _ _)
  | c5 => exact step_of (g := g) rfl (challenge_sim S _)
  | c6 => exact step_of (g := g) rfl (swap_sim S _)
  | c7 => exact step_of (g := g) rfl (pass_sim S)
  | c8 => exact step_of (g := g) rfl (now_sim S)
  | c9 => exact step_of (g := g) rfl (hand_sim S _)
  | c10 => exact step_of (g := g) rfl (board_sim S)
  | c11 => exact step_of (g := g) rfl (count_sim S _ _ _ _)
theorem hd_begin {g : G} (L : HdOk g) (n p : Int) (w b e : List Int) : HdOk (beginG g n p w b e).1 := by
  unfold beginG
  split
  · exact L
  · split
    · exact L
    · intro h hh
      have e : h = [] := List.eq_of_mem_replicate (show h ∈ List.replicate p.toNat [] from hh)
      rw [e]; exact Nat.zero_le _
theorem hd_word {g : G} (L : HdOk g) (l : List Int) : HdOk (wordG g l).1 := by
  unfold wordG
  repeat' split
  all_goals exact L
theorem hd_draw {s : State} {g : G} (S : Sim s g) (D : LdOk g) (L : HdOk g) (l : List Int) : HdOk (drawG g l).1 := by
  unfold drawG
  split
  · exact L
  split
  · exact L
  split
  · exact L
  split
  · exact L
  rename_i h1 h2 h3 h4
  obtain ⟨_, h7, hd7⟩ := sim_full S D (by omega)
  have hd := hd7 (by omega)
  refine (fd_same _).hd ?_
  refine hd_set L ?_
  have := hd_get h7 g.turn
  have := nats_len l
  rw [List.length_append]
  omega
theorem er_len : ∀ (l hand : List Nat), (l.foldl (fun h x => h.erase x) hand).length ≤ hand.length
  | [], _ => Nat.le_refl _
  | x :: l, hand => Nat.le_trans (er_len l (hand.erase x)) (List.erase_sublist.length_le)
theorem hd_play {g : G} (L : HdOk g) (r c d : Int) (l : List Int) : HdOk (playG g r c d l).1 := by
  unfold playG
  split
  · exact L
  split
  · exact L
  split
  · exact L
  split
  · exact L
  exact hd_set L (Nat.le_trans (er_len _ _) (hd_get L g.turn))
theorem hd_challenge {s : State} {g : G} (S : Sim s g) (D : LdOk g) (L : HdOk g) (i : Int) : HdOk (challengeG g i).1 := by
  unfold challengeG
  split
  · exact L
  split
  · exact L
  split
  · exact L
  rename_i h1 h2 h3
  split
  · refine (et_same _ _).hd ?_
    refine hd_set L ?_
    obtain ⟨_, h7, _⟩ := sim_full S D (by omega)
    have := hd_get h7 g.turn
    have := (sim_laid S (by omega)).2.1
    rw [List.length_append, List.length_map]
    omega
  · exact L
theorem hd_swap {g : G} (L : HdOk g) (l : List Int) : HdOk (swapG g l).1 := by
  unfold swapG
  split
  · exact L
  split
  · exact L
  split
  · exact L
  split
  · exact L
  exact hd_set L (Nat.le_trans (er_len _ _) (hd_get L g.turn))
theorem hd_pass {g : G} (L : HdOk g) : HdOk (passG g).1 := by
  unfold passG
  split
  · exact L
  · exact (et_same _ _).hd L
theorem step_hd {s : State} {g : G} (S : Sim s g) (D : LdOk g) (L : HdOk g) {c : List (List Int)} (h : Good c) : HdOk (stepG g c).1 := by
  cases h with
  | c1 => exact hd_begin L _ _ _ _ _
  | c2 => exact hd_word L _
  | c3 => exact hd_draw S D L _
  | c4 => exact hd_play L _ _ _ _
  | c5 => exact hd_challenge S D L _
  | c6 => exact hd_swap L _
  | c7 => exact hd_pass L
  | c8 => exact L
  | c9 => exact L
  | c10 => exact L
  | c11 => exact L
theorem step_ld {s : State} {g : G} (S : Sim s g) (L : LdOk g) {c : List (List Int)} (h : Good c) : LdOk (stepG g c).1 := by
  cases h with
  | c1 => exact ld_begin L _ _ _ _ _
  | c2 => exact ld_word L _
  | c3 => exact ld_draw L _
  | c4 => exact ld_play S L _ _ _ _
  | c5 => exact ld_challenge L _
  | c6 => exact ld_swap L _
  | c7 => exact ld_pass L
  | c8 => exact L
  | c9 => exact L
  | c10 => exact L
  | c11 => exact L
/-- a game that a line may have come to -/
structure Live (g : G) : Prop where
  sim : ∃ s, Sim s g
  ld : LdOk g
  hd : HdOk g
theorem live_init : Live G.init := ⟨⟨_, init_sim⟩, fun k hk => (by cases hk), fun k hk => by cases hk⟩
theorem Live.step {g : G} (h : Live g) {c : List (List Int)} (q : Good c) : Live (stepG g c).1 := by
  obtain ⟨⟨s, S⟩, L, D⟩ := h
  exact ⟨⟨_, (step_sim S q).1⟩, step_ld S L q, step_hd S L D q⟩
/-! ### a line of calls -/
def outG : G → List (List (List Int)) → List Int
  | _, [] => []
  | g, c :: r => ((stepG g c).2.length : Int) :: ((stepG g c).2 ++ outG (stepG g c).1 r)
theorem out_eq : ∀ (cs : List (List (List Int))) (s : State) (g : G), Sim s g → (∀ c ∈ cs, Good c) → PyFlat.told (PyFlat.played Kg82Neutral.step s cs) = outG g cs
  | [], _, _, _, _ => rfl
  | c :: cs, s, g, S, h => by
    obtain ⟨h1, h2⟩ := step_sim S (h c (by simp))
    have ih := out_eq cs _ _ h1 (fun d hd => h d (List.mem_cons_of_mem _ hd))
    show ((Kg82Neutral.step s c).2.length : Int) :: ((Kg82Neutral.step s c).2 ++ PyFlat.told (PyFlat.played Kg82Neutral.step (Kg82Neutral.step s c).1 cs)) = _
    rw [ih, h2]
    rfl
/-- a call by its numbers and rows alone -/
inductive Form : List (List Int) → Prop
  | c1 {n p : Int} {w b e : List Int} : Form [[1, n, p], w, b, e]
  | c2 {l : List Int} : Form [[2], l]
  | c3 {l : List Int} : Form [[3], l]
  | c4 {r c d : Int} {l : List Int} : Form [[4, r, c, d], l]
  | c5 {b : Int} : Form [[5, b]]
  | c6 {l : List Int} : Form [[6], l]
  | c7 : Form [[7]]
  | c8 : Form [[8]]
  | c9 {i : Int} : Form [[9, i]]
  | c10 : Form [[10]]
  | c11 {r c d : Int} {l : List Int} : Form [[11, r, c, d], l]
theorem ln0 {α : Type} {l : List α} (h : 0 = l.length) : l = [] := List.length_eq_zero_iff.mp h.symm
theorem lnS {α : Type} {l : List α} {n : Nat} (h : n + 1 = l.length) : ∃ a r, l = a :: r ∧ n = r.length := by
  cases l with
  | nil => cases h
  | cons a r => exact ⟨a, r, rfl, Nat.succ.inj h⟩
theorem ln1 {α : Type} {l : List α} (h : 1 = l.length) : ∃ a, l = [a] := by
  obtain ⟨a, r, e, q⟩ := lnS h
  exact ⟨a, by rw [e, ln0 q]⟩
theorem ln2 {α : Type} {l : List α} (h : 2 = l.length) : ∃ a b, l = [a, b] := by
  obtain ⟨a, r, e, q⟩ := lnS h
  obtain ⟨b, q⟩ := ln1 q
  exact ⟨a, b, by rw [e, q]⟩
theorem ln3 {α : Type} {l : List α} (h : 3 = l.length) : ∃ a b c, l = [a, b, c] := by
  obtain ⟨a, r, e, q⟩ := lnS h
  obtain ⟨b, c, q⟩ := ln2 q
  exact ⟨a, b, c, by rw [e, q]⟩
theorem pr_of {a b c d : Nat} (h : some (a, b) = some (c, d)) : a = c ∧ b = d := by cases h; exact ⟨rfl, rfl⟩
theorem form_of {c : List (List Int)} (h : PyFlat.okCall PyKg82.shape c) : Form c := by
  obtain ⟨p, a, xs, rfl, h⟩ := h
  unfold PyKg82.shape at h
  by_cases e : p = 1
  · rw [if_pos e] at h; subst e; obtain ⟨h1, h2⟩ := pr_of h; obtain ⟨_, _, rfl⟩ := ln2 h1; obtain ⟨_, _, _, rfl⟩ := ln3 h2; exact .c1
  rw [if_neg e] at h; clear e; by_cases e : p = 2
  · rw [if_pos e] at h; subst e; obtain ⟨h1, h2⟩ := pr_of h; cases ln0 h1; obtain ⟨_, rfl⟩ := ln1 h2; exact .c2
  rw [if_neg e] at h; clear e; by_cases e : p = 3
  · rw [if_pos e] at h; subst e; obtain ⟨h1, h2⟩ := pr_of h; cases ln0 h1; obtain ⟨_, rfl⟩ := ln1 h2; exact .c3
  rw [if_neg e] at h; clear e; by_cases e : p = 4
  · rw [if_pos e] at h; subst e; obtain ⟨h1, h2⟩ := pr_of h; obtain ⟨_, _, _, rfl⟩ := ln3 h1; obtain ⟨_, rfl⟩ := ln1 h2; exact .c4
  rw [if_neg e] at h; clear e; by_cases e : p = 5
  · rw [if_pos e] at h; subst e; obtain ⟨h1, h2⟩ := pr_of h; obtain ⟨_, rfl⟩ := ln1 h1; cases ln0 h2; exact .c5
  rw [if_neg e] at h; clear e; by_cases e : p = 6
  · rw [if_pos e] at h; subst e; obtain ⟨h1, h2⟩ := pr_of h; cases ln0 h1; obtain ⟨_, rfl⟩ := ln1 h2; exact .c6
  rw [if_neg e] at h; clear e; by_cases e : p = 7
  · rw [if_pos e] at h; subst e; obtain ⟨h1, h2⟩ := pr_of h; cases ln0 h1; cases ln0 h2; exact .c7
  rw [if_neg e] at h; clear e; by_cases e : p = 8
  · rw [if_pos e] at h; subst e; obtain ⟨h1, h2⟩ := pr_of h; cases ln0 h1; cases ln0 h2; exact .c8
  rw [if_neg e] at h; clear e; by_cases e : p = 9
  · rw [if_pos e] at h; subst e; obtain ⟨h1, h2⟩ := pr_of h; obtain ⟨_, rfl⟩ := ln1 h1; cases ln0 h2; exact .c9
  rw [if_neg e] at h; clear e; by_cases e : p = 10
  · rw [if_pos e] at h; subst e; obtain ⟨h1, h2⟩ := pr_of h; cases ln0 h1; cases ln0 h2; exact .c10
  rw [if_neg e] at h; clear e; by_cases e : p = 11
  · rw [if_pos e] at h; subst e; obtain ⟨h1, h2⟩ := pr_of h; obtain ⟨_, _, _, rfl⟩ := ln3 h1; obtain ⟨_, rfl⟩ := ln1 h2; exact .c11
  rw [if_neg e] at h; cases h
theorem whole_id {c : List (List Int)} (h : Form c) : PyKg82.whole c = c := by cases h <;> rfl
theorem row_len {l : List Int} (h : Kg82Neutral.row l 130 = true) : l.length ≤ 130 := by
  unfold Kg82Neutral.row at h
  simp only [Bool.and_eq_true, decide_eq_true_eq] at h
  exact h.2
theorem an2 {a b : Bool} (h : (a && b) = true) : b = true := by
  cases a
  · cases h
  · exact h
theorem an1 {a b : Bool} (h : (a && b) = true) : a = true := by
  cases a
  · cases h
  · rfl
theorem good_of {c : List (List Int)} (f : Form c) (h : Kg82Neutral.asked1 c = true) : Good c := by
  cases f with
  | c1 => exact .c1 (row_len (an1 (an2 (an2 h)))) (row_len (an1 (an2 (an2 (an2 h))))) (row_len (an2 (an2 (an2 (an2 h)))))
  | c2 => exact .c2 (row_len h)
  | c3 => exact .c3 (row_len h)
  | c4 => exact .c4 (row_len (an2 (an2 (an2 h))))
  | c5 => exact .c5
  | c6 => exact .c6 (row_len h)
  | c7 => exact .c7
  | c8 => exact .c8
  | c9 => exact .c9
  | c10 => exact .c10
  | c11 => exact .c11 (row_len (an2 (an2 (an2 h))))
/-- how many numbers and rows a call has -/
theorem asked_line {l : List Int} (h : PyKg82.answers_asked l = true) : ∃ cs, l = PyFlat.put cs ∧ (∀ c ∈ cs, Good c) ∧ PyKg82.answers l = outG G.init cs ∧ (PyKg82.answers l).length ≤ 10000000 := by
  unfold PyKg82.answers_asked at h
  cases e : PyFlat.calls PyKg82.shape l.length l with
  | none => rw [e] at h; cases h
  | some raw =>
    rw [e] at h
    simp only [Bool.and_eq_true] at h
    obtain ⟨e1, hf⟩ := PyFlat.put_calls _ _ _ e
    have ew : raw.map PyKg82.whole = raw := (List.map_congr_left fun c hc => whole_id (form_of (hf c hc))).trans (List.map_id _)
    rw [ew] at h
    have hg : ∀ c ∈ raw, Good c := fun c hc => by
      have h1 := h.1.2
      unfold Kg82Neutral.asked at h1
      simp only [Bool.and_eq_true, List.all_eq_true] at h1
      exact good_of (form_of (hf c hc)) (h1.1 c hc)
    refine ⟨raw, e1, hg, ?_, ?_⟩
    · unfold PyKg82.answers PyKg82.calls
      rw [e]
      show PyFlat.told (PyFlat.played Kg82Neutral.step Kg82Neutral.start (raw.map PyKg82.whole)) = _
      rw [ew]
      exact out_eq raw _ _ init_sim hg
    · have h2 := h.2
      unfold PyFlat.short at h2
      exact of_decide_eq_true h2
end Tw
namespace Tw
open Kg82
/-! ### reading a flat list -/
theorem dr_head {ns r : List Int} {k : Nat} {x : Int} (h : ns.drop k = x :: r) : ns[k]? = some x ∧ ns.drop (k + 1) = r ∧ k < ns.length := by
  have hk : k < ns.length := by
    rcases Nat.lt_or_ge k ns.length with q | q
    · exact q
    · rw [List.drop_eq_nil_of_le q] at h; cases h
  refine ⟨?_, ?_, hk⟩
  · have e := congrArg (fun l : List Int => l[0]?) h
    simpa using e
  · rw [← List.drop_drop, h]; rfl
theorem dr_app {ns a r : List Int} {k : Nat} (h : ns.drop k = a ++ r) (hk : k ≤ ns.length) : (ns.drop k).take a.length = a ∧ ns.drop (k + a.length) = r ∧ k + a.length ≤ ns.length := by
  refine ⟨by rw [h]; exact PyFlat.take_len a r, by rw [← List.drop_drop, h]; exact PyFlat.drop_len a r, ?_⟩
  have e := congrArg List.length h
  rw [List.length_drop, List.length_append] at e
  omega
theorem dr_row {ns x r : List Int} {k : Nat} (h : ns.drop k = PyFlat.putRow x ++ r) : ns[k]? = some (x.length : Int) ∧ (ns.drop (k + 1)).take x.length = x ∧ ns.drop (k + 1 + x.length) = r ∧ k + 1 + x.length ≤ ns.length := by
  obtain ⟨h1, h2, h3⟩ := dr_head (x := (x.length : Int)) (r := x ++ r) h
  obtain ⟨h4, h5, h6⟩ := dr_app h2 h3
  exact ⟨h1, h4, h5, h6⟩
theorem Good.form {c : List (List Int)} (h : Good c) : ∃ p a rs, c = (p :: a) :: rs ∧ PyKg82.shape p = some (a.length, rs.length) ∧ rs.length ≤ 3 := by
  cases h
  all_goals exact ⟨_, _, _, rfl, rfl, by simp⟩
end Tw
set_option Elab.async false
set_option linter.all false
set_option maxRecDepth 100000
set_option maxHeartbeats 2000000
/-! ### my own words over the layer -/
namespace Tw
open PySem PySem.Spec PyProof.Rows L2
theorem cx_K {CX : CXT} {P : Program} {w : World} {K : PySem.W.Frag} {mg : Str → Option Value} {base : Heap} {N : List Str} {qual : Str} {scope : Scope} {f : Addr} {cd : Value} {A : Around} {outer : List Env} {s : Shared} {H : Hp} {E : XK} :
    (cxOf CX P w K mg base N qual scope f cd A outer s H E).K = K := rfl
theorem scal_int {a b : Int} : scal (.int a) (.int b) = true := rfl
/-! a field read, written, counted on: folded -/
def FL (K : PySem.W.Frag) (f : Str) (x : V) (H1 : Hp) (Q : VK) : Prop := ∃ a C dx fs v, x = .ref a ∧ H1 a = some (.ins C dx fs) ∧ Cls K C ∧ NoAttr K C f ∧ fs.lookup f = some v ∧ Q v H1
theorem tFld_def {K : PySem.W.Frag} {ta : TE} {f : Str} {σ : L2.St} {H : Hp} {Q : VK} : tFld K ta f σ H Q = ta σ H (fun x H1 => FL K f x H1 Q) := rfl
def SF (K : PySem.W.Frag) (f : Str) (y x : V) (H2 : Hp) (R : Hp → Prop) : Prop := ∃ a C dx fs, x = .ref a ∧ H2 a = some (.ins C dx fs) ∧ Cls K C ∧ NoAttr K C f ∧ fs.length < 1000 ∧ R (upd H2 a (.ins C dx (putF f y fs)))
theorem sFld_def {K : PySem.W.Frag} {ta tv : TE} {f : Str} {D : Ends} {σ : L2.St} {H : Hp} : sFld K ta tv f D σ H = tv σ H (fun y H1 => ta σ H1 (fun x H2 => SF K f y x H2 (fun H3 => D.nx σ H3))) := rfl
def AF (K : PySem.W.Frag) (f : Str) (tv : TE) (rd : V → V → Hp → VK → Prop) (D : Ends) (σ : L2.St) (x : V) (H1 : Hp) : Prop := ∃ a C dx fs v, x = .ref a ∧ H1 a = some (.ins C dx fs) ∧ Cls K C ∧ NoAttr K C f ∧ fs.lookup f = some v ∧
  tv σ H1 fun y H2 => rd v y H2 fun z H3 => ∃ dx' fs', H3 a = some (.ins C dx' fs') ∧ fs'.length < 1000 ∧ D.nx σ (upd H3 a (.ins C dx' (putF f z fs')))
theorem sFldAug_def {K : PySem.W.Frag} {ta tv : TE} {rd : V → V → Hp → VK → Prop} {f : Str} {D : Ends} {σ : L2.St} {H : Hp} : sFldAug K ta tv rd f D σ H = ta σ H (fun x H1 => AF K f tv rd D σ x H1) := rfl
/-! a list of ints, of nats, as values -/
abbrev vI (l : List Int) : List V := l.map V.int
abbrev vN (l : List Nat) : List V := l.map fun (k : Nat) => V.int (k : Int)
def bI (d : Bool) : Int := if d = true then 1 else 0
/-- a def of the top that keeps a promise -/
structure Has (P : Program) (w : World) (K : PySem.W.Frag) (mg : Str → Option Value) (base : Heap) (x : Str) (k : Nat) (ps : List Str) (sp : Sp) : Prop where
  ex : ∃ f fd, mg x = some (.ref f) ∧ PySem.W.keepIn K (.ref f) = true ∧ Binds K fd ps [] ∧ FnOk P w K mg base CX0 k f fd ps sp
/-- a def of the top as it stands -/
structure FunAt (K : PySem.W.Frag) (mg : Str → Option Value) (x : Str) (st : Stmt) (ps : List Str) : Prop where
  ex : ∃ f fd, mg x = some (.ref f) ∧ Fun K x x st f fd ∧ Binds K fd ps []
/-- a constant of the top -/
def Glob (mg : Str → Option Value) (x : Str) (v : V) : Prop := ∃ u, mg x = some u ∧ RelV v u
section
variable {P : Program} {w : World} {K : PySem.W.Frag} {mg : Str → Option Value} {base : Heap}
theorem FunAt.has {x : Str} {st : Stmt} {N ps : List Str} {k : Nat} {sp : Sp} (F : FunAt K mg x st ps) (S : FnScope N ps (defScope st)) (len : ∀ vs H Q E, sp vs H Q E → vs.length = ps.length)
    (hbody : ∀ (f : Addr) (cdv : Value) (A : Around) (outer : List Env) (s : Shared) (H : Hp) (vs : List V) (Q : VK) (E : XK), Room k (A.deeper (envOfC x (defScope st) s.heap.objs.size f cdv)) → sp vs H Q E →
      ∃ t, PSs (cxOf CX0 P w K mg base N x (defScope st) f cdv A outer s H E).nox (defBody st) t ∧ t { nx := fun _ H' => Q .non H', rt := Q } (start N vs) H) : Has P w K mg base x (k + 1) ps sp := by
  obtain ⟨f, fd, h1, h2, h3⟩ := F.ex
  exact ⟨f, fd, h1, h2.kp, h3, h2.ok S len fun cdv A outer s H vs Q E hr h => hbody f cdv A outer s H vs Q E hr h⟩
end
section
variable {X : Cx} {x : Str} {k : Nat} {ps : List Str} {sp : Sp} {p pos : Pos} {e : Expr} {es : List Expr} {t : TA}
theorem pe_own (h : Has X.prog X.w X.K X.mg X.base x k ps sp) (hr : Room k X.A) (hg : Gl X x) (ha : PA X (e :: es) t) (hdb : (x == ("__debug__" : Str)) = false := by decide)
    (he : starEach (e :: es) X.env = (false, eval e X.env) :: starEach es X.env := by rfl) (hpl : (backTo pos (starEach es X.env)).any (·.1) = false := by rfl) :
    PE X (.Call (.Name x p) (e :: es) [] pos) (tCall sp [] E0 t) := by
  obtain ⟨f, fd, h1, h2, h3, h4⟩ := h.ex
  exact pe_call h4 hr hg h1 h2 h3 .nil pass0 ha hdb he hpl
theorem pe_gl {v : V} (h : Glob X.mg x v) (hg : Gl X x) (hd : (x == ("__debug__" : Str)) = false := by decide) : PE X (.Name x pos) (tC v) := by
  obtain ⟨u, h1, h2⟩ := h
  exact pe_glob hg h1 h2 hd
end
/-! ### the text by places -/
def top (i : Nat) : Stmt := PySem.Challenge.pw_tilewords_s01_answers.main.body.getD i (.Pass ⟨0, 0, 0, 0⟩)
abbrev s_face_of : Stmt := top 6
abbrev N_face_of : List Str := ["played"]
abbrev P_face_of : List Str := ["played"]
theorem sc_face_of : FnScope N_face_of P_face_of (defScope s_face_of) := ⟨rfl, rfl, rfl, by decide +kernel, rfl, by decide +kernel, by decide +kernel⟩
abbrev s_tile_of : Stmt := top 7
abbrev N_tile_of : List Str := ["face"]
abbrev P_tile_of : List Str := ["face"]
theorem sc_tile_of : FnScope N_tile_of P_tile_of (defScope s_tile_of) := ⟨rfl, rfl, rfl, by decide +kernel, rfl, by decide +kernel, by decide +kernel⟩
abbrev s_line_from : Stmt := top 8
abbrev N_line_from : List Str := ["rows", "row", "column", "down", "place"]
abbrev P_line_from : List Str := ["rows", "row", "column", "down"]
theorem sc_line_from : FnScope N_line_from P_line_from (defScope s_line_from) := ⟨rfl, rfl, rfl, by decide +kernel, rfl, by decide +kernel, by decide +kernel⟩
abbrev s_neighbours : Stmt := top 9
abbrev N_neighbours : List Str := ["rows", "square", "row", "column", "found"]
abbrev P_neighbours : List Str := ["rows", "square"]
theorem sc_neighbours : FnScope N_neighbours P_neighbours (defScope s_neighbours) := ⟨rfl, rfl, rfl, by decide +kernel, rfl, by decide +kernel, by decide +kernel⟩
abbrev s_run_through : Stmt := top 10
abbrev N_run_through : List Str := ["board", "rows", "square", "down", "row", "column", "line", "first", "last"]
abbrev P_run_through : List Str := ["board", "rows", "square", "down"]
theorem sc_run_through : FnScope N_run_through P_run_through (defScope s_run_through) := ⟨rfl, rfl, rfl, by decide +kernel, rfl, by decide +kernel, by decide +kernel⟩
abbrev s_words_of : Stmt := top 11
abbrev N_words_of : List Str := ["board", "rows", "laid", "down", "runs", "square", "run"]
abbrev P_words_of : List Str := ["board", "rows", "laid", "down"]
theorem sc_words_of : FnScope N_words_of P_words_of (defScope s_words_of) := ⟨rfl, rfl, rfl, by decide +kernel, rfl, by decide +kernel, by decide +kernel⟩
abbrev s_board_with : Stmt := top 12
abbrev N_board_with : List Str := ["board", "laid", "faces", "filled", "square", "face"]
abbrev P_board_with : List Str := ["board", "laid", "faces"]
theorem sc_board_with : FnScope N_board_with P_board_with (defScope s_board_with) := ⟨rfl, rfl, rfl, by decide +kernel, rfl, by decide +kernel, by decide +kernel⟩
abbrev s_touches : Stmt := top 13
abbrev N_touches : List Str := ["board", "rows", "laid", "square", "beside"]
abbrev P_touches : List Str := ["board", "rows", "laid"]
theorem sc_touches : FnScope N_touches P_touches (defScope s_touches) := ⟨rfl, rfl, rfl, by decide +kernel, rfl, by decide +kernel, by decide +kernel⟩
abbrev s_is_tied : Stmt := top 14
abbrev N_is_tied : List Str := ["board", "rows", "laid", "middle"]
abbrev P_is_tied : List Str := ["board", "rows", "laid"]
theorem sc_is_tied : FnScope N_is_tied P_is_tied (defScope s_is_tied) := ⟨rfl, rfl, rfl, by decide +kernel, rfl, by decide +kernel, by decide +kernel⟩
abbrev s_squares_for : Stmt := top 15
abbrev N_squares_for : List Str := ["board", "rows", "row", "column", "down", "faces", "laid", "square"]
abbrev P_squares_for : List Str := ["board", "rows", "row", "column", "down", "faces"]
theorem sc_squares_for : FnScope N_squares_for P_squares_for (defScope s_squares_for) := ⟨rfl, rfl, rfl, by decide +kernel, rfl, by decide +kernel, by decide +kernel⟩
abbrev s_letters_on : Stmt := top 16
abbrev N_letters_on : List Str := ["board", "run", "square"]
abbrev P_letters_on : List Str := ["board", "run"]
theorem sc_letters_on : FnScope N_letters_on P_letters_on (defScope s_letters_on) := ⟨rfl, rfl, rfl, by decide +kernel, rfl, by decide +kernel, by decide +kernel⟩
abbrev s_worth_of_word : Stmt := top 17
abbrev N_worth_of_word : List Str := ["board", "run", "laid", "squares", "worths", "total", "times", "square", "worth"]
abbrev P_worth_of_word : List Str := ["board", "run", "laid", "squares", "worths"]
theorem sc_worth_of_word : FnScope N_worth_of_word P_worth_of_word (defScope s_worth_of_word) := ⟨rfl, rfl, rfl, by decide +kernel, rfl, by decide +kernel, by decide +kernel⟩
abbrev s_worth_of_play : Stmt := top 18
abbrev N_worth_of_play : List Str := ["board", "words", "laid", "squares", "worths", "total", "run"]
abbrev P_worth_of_play : List Str := ["board", "words", "laid", "squares", "worths"]
theorem sc_worth_of_play : FnScope N_worth_of_play P_worth_of_play (defScope s_worth_of_play) := ⟨rfl, rfl, rfl, by decide +kernel, rfl, by decide +kernel, by decide +kernel⟩
abbrev s_Game___init__ : Stmt := inClass (top 26) 0
abbrev N_Game___init__ : List Str := ["self"]
abbrev P_Game___init__ : List Str := ["self"]
theorem sc_Game___init__ : FnScope N_Game___init__ P_Game___init__ (defScope s_Game___init__) := ⟨rfl, rfl, rfl, by decide +kernel, rfl, by decide +kernel, by decide +kernel⟩
abbrev s_Game_set_up : Stmt := inClass (top 26) 1
abbrev N_Game_set_up : List Str := ["self", "rows", "players", "worths", "bag", "squares", "player"]
abbrev P_Game_set_up : List Str := ["self", "rows", "players", "worths", "bag", "squares"]
theorem sc_Game_set_up : FnScope N_Game_set_up P_Game_set_up (defScope s_Game_set_up) := ⟨rfl, rfl, rfl, by decide +kernel, rfl, by decide +kernel, by decide +kernel⟩
abbrev s_standing : Stmt := top 27
abbrev N_standing : List Str := ["game"]
abbrev P_standing : List Str := ["game"]
theorem sc_standing : FnScope N_standing P_standing (defScope s_standing) := ⟨rfl, rfl, rfl, by decide +kernel, rfl, by decide +kernel, by decide +kernel⟩
abbrev s_follow_first_draw : Stmt := top 28
abbrev N_follow_first_draw : List Str := ["game"]
abbrev P_follow_first_draw : List Str := ["game"]
theorem sc_follow_first_draw : FnScope N_follow_first_draw P_follow_first_draw (defScope s_follow_first_draw) := ⟨rfl, rfl, rfl, by decide +kernel, rfl, by decide +kernel, by decide +kernel⟩
abbrev s_await_play : Stmt := top 29
abbrev N_await_play : List Str := ["game"]
abbrev P_await_play : List Str := ["game"]
theorem sc_await_play : FnScope N_await_play P_await_play (defScope s_await_play) := ⟨rfl, rfl, rfl, by decide +kernel, rfl, by decide +kernel, by decide +kernel⟩
abbrev s_end_turn : Stmt := top 30
abbrev N_end_turn : List Str := ["game", "counted"]
abbrev P_end_turn : List Str := ["game", "counted"]
theorem sc_end_turn : FnScope N_end_turn P_end_turn (defScope s_end_turn) := ⟨rfl, rfl, rfl, by decide +kernel, rfl, by decide +kernel, by decide +kernel⟩
abbrev s_is_played_out : Stmt := top 31
abbrev N_is_played_out : List Str := ["game", "hand"]
abbrev P_is_played_out : List Str := ["game"]
theorem sc_is_played_out : FnScope N_is_played_out P_is_played_out (defScope s_is_played_out) := ⟨rfl, rfl, rfl, by decide +kernel, rfl, by decide +kernel, by decide +kernel⟩
abbrev s_go_to_next : Stmt := top 32
abbrev N_go_to_next : List Str := ["game"]
abbrev P_go_to_next : List Str := ["game"]
theorem sc_go_to_next : FnScope N_go_to_next P_go_to_next (defScope s_go_to_next) := ⟨rfl, rfl, rfl, by decide +kernel, rfl, by decide +kernel, by decide +kernel⟩
abbrev s_end_game : Stmt := top 33
abbrev N_end_game : List Str := ["game", "held", "tile", "hand", "player"]
abbrev P_end_game : List Str := ["game"]
theorem sc_end_game : FnScope N_end_game P_end_game (defScope s_end_game) := ⟨rfl, rfl, rfl, by decide +kernel, rfl, by decide +kernel, by decide +kernel⟩
abbrev s_all_within : Stmt := top 38
abbrev N_all_within : List Str := ["numbers", "low", "high", "number"]
abbrev P_all_within : List Str := ["numbers", "low", "high"]
theorem sc_all_within : FnScope N_all_within P_all_within (defScope s_all_within) := ⟨rfl, rfl, rfl, by decide +kernel, rfl, by decide +kernel, by decide +kernel⟩
abbrev s_is_game : Stmt := top 39
abbrev N_is_game : List Str := ["rows", "players", "worths", "bag", "squares"]
abbrev P_is_game : List Str := ["rows", "players", "worths", "bag", "squares"]
theorem sc_is_game : FnScope N_is_game P_is_game (defScope s_is_game) := ⟨rfl, rfl, rfl, by decide +kernel, rfl, by decide +kernel, by decide +kernel⟩
abbrev s_begin : Stmt := top 40
abbrev N_begin : List Str := ["game", "rows", "players", "worths", "bag", "squares"]
abbrev P_begin : List Str := ["game", "rows", "players", "worths", "bag", "squares"]
theorem sc_begin : FnScope N_begin P_begin (defScope s_begin) := ⟨rfl, rfl, rfl, by decide +kernel, rfl, by decide +kernel, by decide +kernel⟩
abbrev s_word : Stmt := top 41
abbrev N_word : List Str := ["game", "letters"]
abbrev P_word : List Str := ["game", "letters"]
theorem sc_word : FnScope N_word P_word (defScope s_word) := ⟨rfl, rfl, rfl, by decide +kernel, rfl, by decide +kernel, by decide +kernel⟩
abbrev s_is_in_hand : Stmt := top 42
abbrev N_is_in_hand : List Str := ["hand", "tiles", "tile"]
abbrev P_is_in_hand : List Str := ["hand", "tiles"]
theorem sc_is_in_hand : FnScope N_is_in_hand P_is_in_hand (defScope s_is_in_hand) := ⟨rfl, rfl, rfl, by decide +kernel, rfl, by decide +kernel, by decide +kernel⟩
abbrev s_is_in_bag : Stmt := top 43
abbrev N_is_in_bag : List Str := ["bag", "tiles", "tile"]
abbrev P_is_in_bag : List Str := ["bag", "tiles"]
theorem sc_is_in_bag : FnScope N_is_in_bag P_is_in_bag (defScope s_is_in_bag) := ⟨rfl, rfl, rfl, by decide +kernel, rfl, by decide +kernel, by decide +kernel⟩
abbrev s_draw : Stmt := top 44
abbrev N_draw : List Str := ["game", "tiles", "tile"]
abbrev P_draw : List Str := ["game", "tiles"]
theorem sc_draw : FnScope N_draw P_draw (defScope s_draw) := ⟨rfl, rfl, rfl, by decide +kernel, rfl, by decide +kernel, by decide +kernel⟩
abbrev s_follow_draw : Stmt := top 45
abbrev N_follow_draw : List Str := ["game", "tile"]
abbrev P_follow_draw : List Str := ["game"]
theorem sc_follow_draw : FnScope N_follow_draw P_follow_draw (defScope s_follow_draw) := ⟨rfl, rfl, rfl, by decide +kernel, rfl, by decide +kernel, by decide +kernel⟩
abbrev s_is_play : Stmt := top 46
abbrev N_is_play : List Str := ["game", "row", "column", "down", "tiles"]
abbrev P_is_play : List Str := ["game", "row", "column", "down", "tiles"]
theorem sc_is_play : FnScope N_is_play P_is_play (defScope s_is_play) := ⟨rfl, rfl, rfl, by decide +kernel, rfl, by decide +kernel, by decide +kernel⟩
abbrev s_play : Stmt := top 47
abbrev N_play : List Str := ["game", "row", "column", "down", "tiles", "faces", "tile", "face", "laid"]
abbrev P_play : List Str := ["game", "row", "column", "down", "tiles"]
theorem sc_play : FnScope N_play P_play (defScope s_play) := ⟨rfl, rfl, rfl, by decide +kernel, rfl, by decide +kernel, by decide +kernel⟩
abbrev s_put_on_board : Stmt := top 48
abbrev N_put_on_board : List Str := ["game", "laid", "down", "faces", "hand", "face", "words"]
abbrev P_put_on_board : List Str := ["game", "laid", "down", "faces"]
theorem sc_put_on_board : FnScope N_put_on_board P_put_on_board (defScope s_put_on_board) := ⟨rfl, rfl, rfl, by decide +kernel, rfl, by decide +kernel, by decide +kernel⟩
abbrev s_unlisted_words : Stmt := top 49
abbrev N_unlisted_words : List Str := ["game", "missing", "run", "letters"]
abbrev P_unlisted_words : List Str := ["game"]
theorem sc_unlisted_words : FnScope N_unlisted_words P_unlisted_words (defScope s_unlisted_words) := ⟨rfl, rfl, rfl, by decide +kernel, rfl, by decide +kernel, by decide +kernel⟩
abbrev s_take_back : Stmt := top 50
abbrev N_take_back : List Str := ["game", "square"]
abbrev P_take_back : List Str := ["game"]
theorem sc_take_back : FnScope N_take_back P_take_back (defScope s_take_back) := ⟨rfl, rfl, rfl, by decide +kernel, rfl, by decide +kernel, by decide +kernel⟩
abbrev s_challenge : Stmt := top 51
abbrev N_challenge : List Str := ["game", "player", "missing"]
abbrev P_challenge : List Str := ["game", "player"]
theorem sc_challenge : FnScope N_challenge P_challenge (defScope s_challenge) := ⟨rfl, rfl, rfl, by decide +kernel, rfl, by decide +kernel, by decide +kernel⟩
abbrev s_swap : Stmt := top 52
abbrev N_swap : List Str := ["game", "tiles", "tile"]
abbrev P_swap : List Str := ["game", "tiles"]
theorem sc_swap : FnScope N_swap P_swap (defScope s_swap) := ⟨rfl, rfl, rfl, by decide +kernel, rfl, by decide +kernel, by decide +kernel⟩
abbrev s_pass_turn : Stmt := top 53
abbrev N_pass_turn : List Str := ["game"]
abbrev P_pass_turn : List Str := ["game"]
theorem sc_pass_turn : FnScope N_pass_turn P_pass_turn (defScope s_pass_turn) := ⟨rfl, rfl, rfl, by decide +kernel, rfl, by decide +kernel, by decide +kernel⟩
abbrev s_tell_now : Stmt := top 55
abbrev N_tell_now : List Str := ["game"]
abbrev P_tell_now : List Str := ["game"]
theorem sc_tell_now : FnScope N_tell_now P_tell_now (defScope s_tell_now) := ⟨rfl, rfl, rfl, by decide +kernel, rfl, by decide +kernel, by decide +kernel⟩
abbrev s_tell_hand : Stmt := top 56
abbrev N_tell_hand : List Str := ["game", "player"]
abbrev P_tell_hand : List Str := ["game", "player"]
theorem sc_tell_hand : FnScope N_tell_hand P_tell_hand (defScope s_tell_hand) := ⟨rfl, rfl, rfl, by decide +kernel, rfl, by decide +kernel, by decide +kernel⟩
abbrev s_tell_board : Stmt := top 57
abbrev N_tell_board : List Str := ["game"]
abbrev P_tell_board : List Str := ["game"]
theorem sc_tell_board : FnScope N_tell_board P_tell_board (defScope s_tell_board) := ⟨rfl, rfl, rfl, by decide +kernel, rfl, by decide +kernel, by decide +kernel⟩
abbrev s_tell_count : Stmt := top 58
abbrev N_tell_count : List Str := ["game", "row", "column", "down", "tiles", "faces", "tile", "laid", "filled", "words", "told", "run"]
abbrev P_tell_count : List Str := ["game", "row", "column", "down", "tiles"]
theorem sc_tell_count : FnScope N_tell_count P_tell_count (defScope s_tell_count) := ⟨rfl, rfl, rfl, by decide +kernel, rfl, by decide +kernel, by decide +kernel⟩
abbrev s_end_of_list : Stmt := top 61
abbrev N_end_of_list : List Str := ["calls", "place"]
abbrev P_end_of_list : List Str := ["calls", "place"]
theorem sc_end_of_list : FnScope N_end_of_list P_end_of_list (defScope s_end_of_list) := ⟨rfl, rfl, rfl, by decide +kernel, rfl, by decide +kernel, by decide +kernel⟩
abbrev s_answer : Stmt := top 62
abbrev N_answer : List Str := ["game", "number", "whole", "lists"]
abbrev P_answer : List Str := ["game", "number", "whole", "lists"]
theorem sc_answer : FnScope N_answer P_answer (defScope s_answer) := ⟨rfl, rfl, rfl, by decide +kernel, rfl, by decide +kernel, by decide +kernel⟩
abbrev s_answers : Stmt := top 63
abbrev N_answers : List Str := ["calls", "game", "told", "place", "number", "form", "whole", "lists", "after", "reply"]
abbrev P_answers : List Str := ["calls"]
theorem sc_answers : FnScope N_answers P_answers (defScope s_answers) := ⟨rfl, rfl, rfl, by decide +kernel, rfl, by decide +kernel, by decide +kernel⟩
/-- places of the top's own objects -/
structure ZA where
  lt : Addr
  wt : Addr
  forms : Addr
  C : Addr
/-- the names of a game's fields -/
def fieldNames : List Str := ["rows", "players", "worths", "bag", "squares", "board", "hands", "points", "lost", "words", "phase", "turn", "due", "aside", "laid", "down", "counted", "idle"]
/-- what else of the top is known -/
structure Txt (K : PySem.W.Frag) (mg : Str → Option Value) (Z : ZA) : Prop where
  no_len : mg "len" = none
  no_sum : mg "sum" = none
  no_any : mg "any" = none
  no_all : mg "all" = none
  no_min : mg "min" = none
  no_max : mg "max" = none
  no_abs : mg "abs" = none
  no_list : mg "list" = none
  no_tuple : mg "tuple" = none
  no_range : mg "range" = none
  no_zip : mg "zip" = none
  c_LETTERS : Glob mg "LETTERS" (.int 26)
  c_FULL_PLAY : Glob mg "FULL_PLAY" (.int 7)
  c_FULL_PLAY_MORE : Glob mg "FULL_PLAY_MORE" (.int 50)
  c_LETTER_TIMES : Glob mg "LETTER_TIMES" (.ref Z.lt)
  c_WORD_TIMES : Glob mg "WORD_TIMES" (.ref Z.wt)
  lt : ∀ H, SqT K H Z.lt (vN [1, 2, 3, 1, 1])
  wt : ∀ H, SqT K H Z.wt (vN [1, 1, 1, 2, 3])
  c_DRAWING : Glob mg "DRAWING" (.int 0)
  c_PLAYING : Glob mg "PLAYING" (.int 1)
  c_CHALLENGING : Glob mg "CHALLENGING" (.int 2)
  c_OVER : Glob mg "OVER" (.int 3)
  c_HAND_SIZE : Glob mg "HAND_SIZE" (.int 7)
  c_IDLE_LIMIT : Glob mg "IDLE_LIMIT" (.int 6)
  c_SORTS : Glob mg "SORTS" (.int 27)
  c_MOST_WORDS : Glob mg "MOST_WORDS" (.int 300)
  c_SWAP_NEEDS : Glob mg "SWAP_NEEDS" (.int 7)
  cl : Cls K Z.C
  na : ∀ f ∈ fieldNames, NoAttr K Z.C f
  c_FORMS : Glob mg "FORMS" (.ref Z.forms)
  forms : ∀ (p : Int) (n k : Nat), PyKg82.shape p = some (n, k) → ∃ q, KGet K Z.forms p (.ref q) ∧ ∀ H, SqT K H q (vN [n, k])
  mgC : mg "Game" = some (.ref Z.C)
/-- a new list comes out, all that was tracked stays -/
def New (H : Hp) (Q : VK) (xs : List V) : Prop := ∀ H' p, Same H H' → H p = none → H' p = some (.lst xs) → Q (.ref p) H'
theorem New.upd {H : Hp} {Q : VK} {xs : List V} (k : New H Q xs) {p : Addr} (hp : H p = none) : Q (.ref p) (upd H p (.lst xs)) :=
  k _ p (fun b o e => by rw [upd_ne (ne_of_none e hp)]; exact e) hp upd_same
theorem Same.upd {H H' : Hp} (s : Same H H') {p : Addr} {o : HO} (hp : H' p = none) : Same H (L2.upd H' p o) := fun b u e => by
  rw [upd_ne (ne_of_none (s b u e) hp)]; exact s b u e
theorem Same.new {H : Hp} {p : Addr} {o : HO} (hp : H p = none) : Same H (L2.upd H p o) := Same.upd (Same.refl H) hp
theorem SqL.same {K : PySem.W.Frag} {H H' : Hp} (s : Same H H') {a : Addr} {xs : List V} (h : SqL K H a xs) : SqL K H' a xs := s.seq h
theorem SqT.same {K : PySem.W.Frag} {H H' : Hp} (s : Same H H') {a : Addr} {xs : List V} (h : SqT K H a xs) : SqT K H' a xs := by
  rcases h with (h | ⟨o, h⟩) | h
  · exact .inl (.inl (s _ _ h))
  · exact .inl (.inr ⟨o, s _ _ h⟩)
  · exact .inr h
end Tw
namespace Tw
open PySem PySem.Spec PyProof.Rows L2
local macro_rules | `(tactic| walk_at "rd") => `(tactic| simp only [tRet, tRetN, tIf, tIfS, tTest, tOp, tUn, rU, rI0, rI, tVar, tC, tSeq, tAsg, gName, tDrop, tNext, tCB, tCons, tNil, tCall, tNot, tAnd, tOr, tB, tAug, ipI, tPart, tNoPart, tSl, tAndV, tOrV, tNotV, gTup, gCons, gNil, tLst, tTup, tChain, rEq, rNe, scal_int, tYes, tLc_def, tFor_def, iRng1, iRng2, iList, iZip, tBM, wipe, cx_K, tFld_def, sFld_def, sFldAug_def, tAugS, rLen, rSum, rAny, rAll, rAnyI, rListOf, rTupleOf, rCount, gSub, tMeth, tMake, tKD,
  L2.start, List.map_cons, List.map_nil, List.length_cons, List.length_nil, List.cons_append, List.nil_append, List.append_nil, Nat.sub_self, Nat.add_sub_cancel, List.replicate, List.getElem?_cons_zero, List.getElem?_cons_succ, List.set_cons_zero, List.set_cons_succ,
  Option.some.injEq, V.int.injEq, V.ref.injEq, V.bl.injEq, List.cons.injEq, and_true, true_and, and_assoc, exists_eq_left', exists_eq_left, exists_eq_right, exists_eq_right', exists_and_left, exists_and_right, decide_eq_true_eq, Bool.not_eq_true', if_true, if_false, Bool.false_eq_true, decide_eq_false_iff_not])
section
variable {P : Program} {w : World} {K : PySem.W.Frag} {mg : Str → Option Value} {base : Heap} {Z : ZA}
theorem app_of {K : PySem.W.Frag} {H : Hp} {p : Addr} {xs : List V} {v : V} {R : VK} (h : H p = some (.lst xs)) (hz : xs.length < sizeLine) (k : R .non (upd H p (.lst (xs ++ [v])))) : tyV K "list" (.ref p) H ∧ rAppend (.ref p) [v] H R :=
  ⟨.inl ⟨rfl, _, SqL.of h⟩, _, _, _, rfl, rfl, h, hz, k⟩
theorem upd_id {H : Hp} {p : Addr} {o : HO} (h : H p = some o) : upd H p o = H := by
  funext b
  by_cases e : b = p
  · subst e; rw [upd_same, h]
  · rw [upd_ne e]
theorem ifapp {c : Prop} [Decidable c] {K : PySem.W.Frag} {H : Hp} {p : Addr} {xs : List V} {v : V} {R : Hp → Prop} (h : H p = some (.lst xs)) (hz : xs.length < sizeLine) (k : R (upd H p (.lst (xs ++ if c then [v] else [])))) :
    if c then (tyV K "list" (.ref p) H ∧ rAppend (.ref p) [v] H fun _ H1 => R H1) else R H := by
  by_cases e : c
  · rw [if_pos e] at k ⊢
    exact app_of h hz k
  · rw [if_neg e] at k ⊢
    rw [List.append_nil, upd_id h] at k
    exact k
/-- an object that is not of H changes -/
theorem _root_.L2.Same.updO {H H' : Hp} (s : Same H H') {p : Addr} {o o' : HO} (h : H' p = some o) (hn : H p = none) : Same H (upd H' p o') := fun b u e => by
  rw [upd_ne (ne_of_none e hn)]; exact s b u e
def sp_face_of : Sp := fun vs H Q _ => ∃ z, vs = [.int z] ∧ Q (.int (faceI z)) H
theorem h_face_of (T : Txt K mg Z) (F : FunAt K mg "face_of" s_face_of P_face_of) : Has P w K mg base "face_of" 1 P_face_of sp_face_of := by
  refine F.has sc_face_of (fun vs H Q E h => ?_) (fun f cdv A outer s H vs Q E hr h => ?_)
  · obtain ⟨z, rfl, _⟩ := h
    rfl
  · obtain ⟨z, rfl, k⟩ := h
    refine ⟨_, (pss_one (ps_ret (pe_ifExp (pt_cmpR op_le (pv 0) (pe_gl T.c_LETTERS rfl) (nomark _)) (pv 0) (pe_op op_sub (pe_gl T.c_LETTERS rfl) (pv 0))))), ?_⟩
    walk_at "rd"
    unfold faceI at k
    split <;> simp_all
def sp_tile_of : Sp := fun vs H Q _ => ∃ z, vs = [.int z] ∧ Q (.int (tileIn z : Int)) H
theorem h_tile_of (T : Txt K mg Z) (F : FunAt K mg "tile_of" s_tile_of P_tile_of) : Has P w K mg base "tile_of" 1 P_tile_of sp_tile_of := by
  refine F.has sc_tile_of (fun vs H Q E h => ?_) (fun f cdv A outer s H vs Q E hr h => ?_)
  · obtain ⟨z, rfl, _⟩ := h
    rfl
  · obtain ⟨z, rfl, k⟩ := h
    refine ⟨_, (pss_one (ps_ret (pe_callB (call_max2 rfl) rfl T.no_max PyProof.Rows.boot_max (pa_cons (pv 0) (pa_cons pe_int pa_nil))))), ?_⟩
    walk_at "rd"
    have e : (if 0 > z then 0 else z) = (tileIn z : Int) := by unfold tileIn; split <;> omega
    rw [e]; exact k
theorem lo_rng (row n : Nat) (f : Nat → Nat) (h : row ≤ n) : lcOut (fun _ => true) (fun v => match v with | .int z => .int (f z.toNat : Int) | v => v) (rngV (row : Int) ((n : Int) - row).toNat) = vN ((List.range' row (n - row)).map f) := by
  unfold lcOut rngV
  have e : ((n : Int) - row).toNat = n - row := by omega
  rw [e, List.filter_eq_self.mpr (fun _ _ => rfl), List.range'_eq_map_range, List.map_map, List.map_map]
  show _ = List.map _ (List.map _ _)
  rw [List.map_map]
  apply List.map_congr_left
  intro i _
  show V.int (f ((row : Int) + i).toNat : Int) = V.int (f (row + i) : Int)
  rw [show ((row : Int) + i).toNat = row + i by omega]
def sp_line_from : Sp := fun vs H Q _ => ∃ (n row col : Nat) (d : Bool), vs = [.int (n : Int), .int (row : Int), .int (col : Int), .int (bI d)] ∧ n ≤ 11 ∧ row ≤ n ∧ col ≤ n ∧ New H Q (vN (lineFrom n row col d))
theorem h_line_from (T : Txt K mg Z) (F : FunAt K mg "line_from" s_line_from P_line_from) : Has P w K mg base "line_from" 1 P_line_from sp_line_from := by
  refine F.has sc_line_from (fun vs H Q E h => ?_) (fun f cdv A outer s H vs Q E hr h => ?_)
  · obtain ⟨n, row, col, d, rfl, _⟩ := h
    rfl
  · obtain ⟨n, row, col, d, rfl, h1, h2, h3, k⟩ := h
    refine ⟨_, (pss_cons (ps_if (pt_cmpR op_eq (pv 3) pe_int (nomark _)) (pss_one (ps_ret (pe_lc rfl sc_line_from.nd (pi_range2 rfl T.no_range (pa_cons (pv 1) (pa_cons (pv 0) pa_nil))) (show BlkOk N_line_from (defScope s_line_from) _ [("place", 4)] from ⟨rfl, by decide +kernel, by decide +kernel, by decide +kernel, by decide +kernel⟩) (fun _ _ _ _ _ => (pg_name (i := 4) sc_line_from.nd rfl (Or.inl rfl))) (fun _ _ _ _ _ => pts_nil) (fun _ _ _ _ _ => (pe_op op_add (pe_op op_mul (pv 4) (pv 0)) (pv 2)))))) pss_nil)
      (pss_one (ps_ret (pe_lc rfl sc_line_from.nd (pi_range2 rfl T.no_range (pa_cons (pv 2) (pa_cons (pv 0) pa_nil))) (show BlkOk N_line_from (defScope s_line_from) _ [("place", 4)] from ⟨rfl, by decide +kernel, by decide +kernel, by decide +kernel, by decide +kernel⟩) (fun _ _ _ _ _ => (pg_name (i := 4) sc_line_from.nd rfl (Or.inl rfl))) (fun _ _ _ _ _ => pts_nil) (fun _ _ _ _ _ => (pe_op op_add (pe_op op_mul (pv 1) (pv 0)) (pv 4))))))), ?_⟩
    walk_at "rd"
    have hsz : (11 : Nat) ≤ sizeLine := by decide
    cases d with
    | true =>
      rw [if_pos (show bI true = 1 from rfl)]
      refine ⟨by omega, by omega, by omega, by omega, lc_R (fun _ => true) (fun v => match v with | .int z => .int ((fun p => p * n + col) z.toNat : Nat) | v => v) (by omega) (fun i H' Ry Rn hi sm hy hn => ?_) (fun D H' hD sm hH => ?_)⟩
      · walk_at "rd"
        refine ⟨.inl ⟨by omega, by omega⟩, ?_⟩
        have e := hy rfl H' (Same.refl _)
        have e2 : ((((row : Int) + i).toNat * n + col : Nat) : Int) = (↑row + ↑i) * ↑n + ↑col := by
          rw [show ((row : Int) + i).toNat = row + i by omega]
          simp
        rw [← e2]
        exact e
      · refine k H' D sm hD ?_
        rw [hH, lo_rng row n (fun p => p * n + col) h2]
        rfl
    | false =>
      rw [if_neg (show ¬ bI false = 1 by decide)]
      refine ⟨by omega, by omega, by omega, by omega, lc_R (fun _ => true) (fun v => match v with | .int z => .int ((fun p => row * n + p) z.toNat : Nat) | v => v) (by omega) (fun i H' Ry Rn hi sm hy hn => ?_) (fun D H' hD sm hH => ?_)⟩
      · walk_at "rd"
        refine ⟨.inl ⟨by omega, by omega⟩, ?_⟩
        have e := hy rfl H' (Same.refl _)
        have e2 : ((row * n + ((col : Int) + i).toNat : Nat) : Int) = ↑row * ↑n + (↑col + ↑i) := by
          rw [show ((col : Int) + i).toNat = col + i by omega]
          simp
        rw [← e2]
        exact e
      · refine k H' D sm hD ?_
        rw [hH, lo_rng col n (fun p => row * n + p) h3]
        rfl
def sp_neighbours : Sp := fun vs H Q _ => ∃ (n k : Nat), vs = [.int (n : Int), .int (k : Int)] ∧ 0 < n ∧ n ≤ 11 ∧ New H Q (vN (neighbours n k))
theorem h_neighbours (T : Txt K mg Z) (F : FunAt K mg "neighbours" s_neighbours P_neighbours) : Has P w K mg base "neighbours" 1 P_neighbours sp_neighbours := by
  refine F.has sc_neighbours (fun vs H Q E h => ?_) (fun f cdv A outer s H vs Q E hr h => ?_)
  · obtain ⟨n, k, rfl, _⟩ := h
    rfl
  · obtain ⟨n, k, rfl, h1, h2, kk⟩ := h
    refine ⟨_, (pss_cons (ps_set (i := 2) sc_neighbours.nd rfl (Or.inl rfl) (pe_op op_fdiv (pv 1) (pv 0)))
      (pss_cons (ps_set (i := 3) sc_neighbours.nd rfl (Or.inl rfl) (pe_op op_mod (pv 1) (pv 0)))
      (pss_cons (ps_set (i := 4) sc_neighbours.nd rfl (Or.inl rfl) (pe_lst pa_nil))
      (pss_cons (ps_if (pt_cmpR op_gt (pv 2) pe_int (nomark _)) (pss_one (ps_expr (pe_bmK (K := K) rfl PySem.F.plainAttrs_list PySem.F.slot_list_append PySem.F.type_list_append mt_append (pv 4) (pa_cons (pe_op op_sub (pv 1) (pv 0)) pa_nil)))) pss_nil)
      (pss_cons (ps_if (pt_cmpR op_lt (pv 2) (pe_op op_sub (pv 0) pe_int) (nomark _)) (pss_one (ps_expr (pe_bmK (K := K) rfl PySem.F.plainAttrs_list PySem.F.slot_list_append PySem.F.type_list_append mt_append (pv 4) (pa_cons (pe_op op_add (pv 1) (pv 0)) pa_nil)))) pss_nil)
      (pss_cons (ps_if (pt_cmpR op_gt (pv 3) pe_int (nomark _)) (pss_one (ps_expr (pe_bmK (K := K) rfl PySem.F.plainAttrs_list PySem.F.slot_list_append PySem.F.type_list_append mt_append (pv 4) (pa_cons (pe_op op_sub (pv 1) pe_int) pa_nil)))) pss_nil)
      (pss_cons (ps_if (pt_cmpR op_lt (pv 3) (pe_op op_sub (pv 0) pe_int) (nomark _)) (pss_one (ps_expr (pe_bmK (K := K) rfl PySem.F.plainAttrs_list PySem.F.slot_list_append PySem.F.type_list_append mt_append (pv 4) (pa_cons (pe_op op_add (pv 1) pe_int) pa_nil)))) pss_nil)
      (pss_one (ps_ret (pv 4)))))))))), ?_⟩
    walk_at "rd"
    have d1 : ((k : Int) / n) = ((k / n : Nat) : Int) := by simp
    have d2 : ((k : Int) % n) = ((k % n : Nat) : Int) := by simp
    rw [d1, d2]
    have hs4 : 4 < sizeLine := by decide
    refine ⟨⟨by omega, by omega⟩, by omega, Nat.zero_le _, fun p hp => ?_⟩
    refine ifapp upd_same (by show 0 < sizeLine; omega) (ifapp upd_same (by split <;> simp <;> omega) (ifapp upd_same (by split <;> split <;> simp <;> omega) (ifapp upd_same (by split <;> split <;> split <;> simp <;> omega) ?_)))
    refine kk _ p ?_ hp ?_
    · exact (((((Same.new hp).updO upd_same hp).updO upd_same hp).updO upd_same hp).updO upd_same hp)
    · rw [upd_same]
      congr 2
      unfold neighbours
      have q1 : ((((k / n : Nat) : Int) < (n : Int) - 1)) ↔ k / n + 1 < n := by omega
      have q2 : ((((k % n : Nat) : Int) < (n : Int) - 1)) ↔ k % n + 1 < n := by omega
      have q3 : ((0 : Int) < ((k / n : Nat) : Int)) ↔ 0 < k / n := by omega
      have q4 : ((0 : Int) < ((k % n : Nat) : Int)) ↔ 0 < k % n := by omega
      have hkn : 0 < k / n → n ≤ k := fun h => by
        have := Nat.div_add_mod k n
        have : n * 1 ≤ n * (k / n) := Nat.mul_le_mul_left n h
        omega
      have hk0 : 0 < k % n → 1 ≤ k := fun h => by
        have := Nat.mod_le k n
        omega
      by_cases a1 : k / n + 1 < n <;> by_cases a2 : k % n + 1 < n <;> by_cases a3 : 0 < k / n <;> by_cases a4 : 0 < k % n <;>
        simp only [q1, q2, q3, q4, a1, a2, a3, a4, if_true, if_false, List.nil_append, List.append_nil, List.map_append, List.map_cons, List.map_nil, vN, List.cons_append, List.cons.injEq, V.int.injEq, and_true, true_and] <;>
        (try (have := hkn a3)) <;> (try (have := hk0 a4)) <;> (try omega)
theorem ixl_of {K : PySem.W.Frag} {H : Hp} {p : Addr} {xs : List V} {i : Int} {k : Nat} {v : V} {Q : VK} (h : SqL K H p xs) (hi : i = (k : Int)) (e : xs[k]? = some v) (q : Q v H) : rIxL K (.ref p) (.int i) H Q :=
  ⟨p, xs, i, v, rfl, rfl, h, at_of hi e, q⟩
theorem ixt_of {K : PySem.W.Frag} {H : Hp} {p : Addr} {xs : List V} {i : Int} {k : Nat} {v : V} {Q : VK} (h : SqT K H p xs) (hi : i = (k : Int)) (e : xs[k]? = some v) (q : Q v H) : rIxT K (.ref p) (.int i) H Q :=
  ⟨p, xs, i, v, rfl, rfl, h, at_of hi e, q⟩
theorem vI_at {b : List Int} {k : Nat} (h : k < b.length) : (vI b)[k]? = some (.int (b.getD k 0)) := by
  rw [List.getElem?_map, List.getElem?_eq_getElem h, List.getD_eq_getElem?_getD, List.getElem?_eq_getElem h]; rfl
theorem vN_at {b : List Nat} {k : Nat} (h : k < b.length) : (vN b)[k]? = some (.int (b.getD k 0 : Nat)) := by
  rw [List.getElem?_map, List.getElem?_eq_getElem h, List.getD_eq_getElem?_getD, List.getElem?_eq_getElem h]; rfl
theorem vN_get {b : List Nat} {k x : Nat} (h : b[k]? = some x) : (vN b)[k]? = some (.int (x : Int)) := by
  rw [List.getElem?_map, h]; rfl
theorem vI_get {b : List Int} {k : Nat} {x : Int} (h : b[k]? = some x) : (vI b)[k]? = some (.int x) := by
  rw [List.getElem?_map, h]; rfl
theorem line_at {n i : Nat} (s : Nat → Nat) (h : i < n) : ((List.range' 0 n).map s)[i]? = some (s i) := by
  rw [List.getElem?_map, List.getElem?_range' h]
  simp
theorem sIx_nat {n d a : Nat} (h : a ≤ n) : HT.sIx n d (some (a : Int)) = a := by
  show (if (a : Int) < 0 then ((a : Int) + n).toNat else min ((a : Int)).toNat n) = a
  rw [if_neg (by omega)]
  omega
theorem cut_nat {xs : List V} {a c : Nat} (h1 : a ≤ c) (h2 : c ≤ xs.length) : cutV xs (some (a : Int)) (some (c : Int)) = (xs.drop a).take (c - a) := by
  unfold cutV
  rw [sIx_nat (a := a) (by omega), sIx_nat (a := c) h2]
theorem range_cut {n a c : Nat} (s : Nat → Nat) (h1 : a ≤ c) (h2 : c ≤ n) : (((List.range' 0 n).map s).drop a).take (c - a) = (List.range' a (c - a)).map s := by
  apply List.ext_getElem?
  intro i
  rw [List.getElem?_take, List.getElem?_drop]
  by_cases h : i < c - a
  · rw [if_pos h, line_at s (by omega), List.getElem?_map, List.getElem?_range' h]
    simp
  · rw [if_neg h, List.getElem?_map, List.getElem?_eq_none (by simp; omega)]
    rfl
theorem mLast_stop (f : Nat → Bool) (n : Nat) {i : Nat} (h : ¬ (i + 1 < n ∧ f (i + 1) = true)) : ∀ g, mLast f n g i = i
  | 0 => rfl
  | g + 1 => by simp only [mLast]; rw [if_neg h]
theorem rt_core {a x : Addr} {b : List Int} {n lane i : Nat} {d : Bool} {H1 : Hp} {Q : VK} {v2 v3 v4 v5 : Option V} (ha : SqL K H1 a (vI b)) (hb : b.length = n * n) (hx : H1 x = some (.lst (vN ((List.range' 0 n).map (sqr n d lane))))) (hl : lane < n) (hi : i < n)
    (k : ∀ p, H1 p = none → Q (.ref p) (upd H1 p (.lst (vN ((stretch (alongB b n d lane) n i).map (sqr n d lane)))))) :
    tWhile
      (tAnd (tTest (tOp (rI0 fun i j => V.bl (decide (j < i))) (tVar 7) (tC (V.int 0))))
        (tTest (tOp rNe (tOp (rIxL K) (tVar 0) (tOp (rIxL K) (tVar 6) (tOp (rI0 fun i j => V.int (i - j)) (tVar 7) (tC (V.int 1))))) (tC (V.int 0)))))
      (tAug 7 (tC (V.int 1)) (ipI fun i j => i - j))
      { nx := tSeq
            (tWhile
              (tAnd (tTest (tOp (rI0 fun i j => V.bl (decide (i < j))) (tVar 8) (tOp (rI0 fun i j => V.int (i - j)) (tVar 1) (tC (V.int 1)))))
                (tTest (tOp rNe (tOp (rIxL K) (tVar 0) (tOp (rIxL K) (tVar 6) (tOp (rI0 fun i j => V.int (i + j)) (tVar 8) (tC (V.int 1))))) (tC (V.int 0)))))
              (tAug 8 (tC (V.int 1)) (ipI fun i j => i + j)))
            (tRet (tSl (rSlL K) (tVar 6) (tPart (tVar 7)) (tPart (tOp (rI0 fun i j => V.int (i + j)) (tVar 8) (tC (V.int 1))))))
            { nx := fun x H' => Q V.non H', rt := Q },
        rt := Q }
      [some (V.ref a), some (V.int ↑n), v2, v3, v4, v5, some (V.ref x), some (V.int ↑i), some (V.int ↑i)] H1 := by
  have hlen : (vN ((List.range' 0 n).map (sqr n d lane))).length = n := by simp
  have rd1 : ∀ (j : Nat) (Q' : VK), j < n → Q' (.int (b.getD (sqr n d lane j) 0)) H1 → ∀ z : Int, z = (j : Int) → rIxL K (.ref x) (.int z) H1 (fun v H' => rIxL K (.ref a) v H' Q') := fun j Q' hj q z hz =>
    ixl_of (SqL.of hx) hz (vN_get (line_at _ hj)) (ixl_of ha rfl (vI_at (by rw [hb]; exact sqr_lt d hl hj)) q)
  refine wh_of (fun m σ H' => m ≤ i ∧ mFirst (alongB b n d lane) m = mFirst (alongB b n d lane) i ∧ H' = H1 ∧ σ = [some (V.ref a), some (V.int ↑n), v2, v3, v4, v5, some (V.ref x), some (V.int ↑m), some (V.int ↑i)]) i ⟨Nat.le_refl _, rfl, rfl, rfl⟩ ?_
  rintro m σ H' ⟨hj, hm, rfl, rfl⟩ Pv' hP
  -- what is left behind the first loop
  have second : mFirst (alongB b n d lane) i = m → tWhile
              (tAnd (tTest (tOp (rI0 fun i j => V.bl (decide (i < j))) (tVar 8) (tOp (rI0 fun i j => V.int (i - j)) (tVar 1) (tC (V.int 1)))))
                (tTest (tOp rNe (tOp (rIxL K) (tVar 0) (tOp (rIxL K) (tVar 6) (tOp (rI0 fun i j => V.int (i + j)) (tVar 8) (tC (V.int 1))))) (tC (V.int 0)))))
              (tAug 8 (tC (V.int 1)) (ipI fun i j => i + j))
              { nx := tRet (tSl (rSlL K) (tVar 6) (tPart (tVar 7)) (tPart (tOp (rI0 fun i j => V.int (i + j)) (tVar 8) (tC (V.int 1))))) { nx := fun x H' => Q V.non H', rt := Q }, rt := Q }
              [some (V.ref a), some (V.int ↑n), v2, v3, v4, v5, some (V.ref x), some (V.int ↑m), some (V.int ↑i)] H' := by
    intro hfirst
    refine wh_of (fun m' σ H2 => ∃ l : Nat, m' = n - l ∧ i ≤ l ∧ l < n ∧ (∀ q, i < q → q ≤ l → alongB b n d lane q = true) ∧ H2 = H' ∧ σ = [some (V.ref a), some (V.int ↑n), v2, v3, v4, v5, some (V.ref x), some (V.int ↑m), some (V.int ↑l)]) (n - i) ⟨i, rfl, Nat.le_refl _, hi, fun q h1 h2 => by omega, rfl, rfl⟩ ?_
    rintro m' σ H2 ⟨l, rfl, hl1, hl2, hall, rfl, rfl⟩ Pw hw
    have ret : ¬ (l + 1 < n ∧ alongB b n d lane (l + 1) = true) → rSlL K (V.ref x) (some (m : Int)) (some ((l : Int) + 1)) H2 Q := by
      intro hstop
      refine ⟨x, _, rfl, SqL.of hx, fun p hp => ?_⟩
      have e1 : mLast (alongB b n d lane) n n i = l := by
        rw [mLast_same _ n hl2 (l - i) i n rfl hl1 hall (by omega)]
        exact mLast_stop _ n hstop n
      have hml := mFirst_le (alongB b n d lane) i
      have e2 : ((l : Int) + 1) = ((l + 1 : Nat) : Int) := by omega
      rw [e2, cut_nat (by omega) (by rw [hlen]; omega)]
      have e3 : ((vN ((List.range' 0 n).map (sqr n d lane))).drop m).take (l + 1 - m) = vN ((stretch (alongB b n d lane) n i).map (sqr n d lane)) := by
        unfold stretch
        rw [e1, hfirst, ← List.map_drop, ← List.map_take, range_cut _ (by omega) (by omega)]
      rw [e3]
      exact k p hp
    walk_at "rd"
    by_cases h1 : l + 1 < n
    · rw [if_pos (by omega)]
      refine rd1 (l + 1) _ h1 ?_ _ (by omega)
      walk_at "rd"
      by_cases h2 : alongB b n d lane (l + 1) = true
      · rw [if_pos (by unfold alongB tileAt at h2; simpa using h2)]
        refine ⟨fun σ' H3 => ∃ m', m' < n - l ∧ Pw m' σ' H3, fun _ _ q => q, n - (l + 1), by omega, hw _ _ _ ⟨l + 1, rfl, by omega, h1, ?_, rfl, by simp⟩⟩
        intro q q1 q2
        by_cases e : q = l + 1
        · subst e; exact h2
        · exact hall q q1 (by omega)
      · rw [if_neg (by unfold alongB tileAt at h2; simpa using h2)]
        exact ret fun z => h2 z.2
    · rw [if_neg (by omega)]
      exact ret fun z => h1 z.1
  cases m with
  | zero =>
    walk_at "rd"
    rw [if_neg (by simp)]
    exact second (by rw [← hm]; rfl)
  | succ m =>
    walk_at "rd"
    rw [if_pos (by omega)]
    refine rd1 m _ (by omega) ?_ _ (by omega)
    walk_at "rd"
    by_cases h2 : alongB b n d lane m = true
    · rw [if_pos (by unfold alongB tileAt at h2; simpa using h2)]
      refine ⟨fun σ' H3 => ∃ m', m' < m + 1 ∧ Pv' m' σ' H3, fun _ _ q => q, m, by omega, hP _ _ _ ⟨by omega, ?_, rfl, by simp⟩⟩
      rw [← hm]
      simp only [mFirst]
      rw [if_pos h2]
    · rw [if_neg (by unfold alongB tileAt at h2; simpa using h2)]
      refine second ?_
      rw [← hm]
      simp only [mFirst]
      rw [if_neg h2]
def sp_run_through (K : PySem.W.Frag) : Sp := fun vs H Q _ => ∃ (a : Addr) (b : List Int) (n k : Nat) (d : Bool), vs = [.ref a, .int (n : Int), .int (k : Int), .int (bI d)] ∧ SqL K H a (vI b) ∧ b.length = n * n ∧ k < n * n ∧ n ≤ 11 ∧ New H Q (vN (runThrough b n k d))
theorem h_run_through (T : Txt K mg Z) (F : FunAt K mg "run_through" s_run_through P_run_through) (h_line_from : Has P w K mg base "line_from" 1 P_line_from sp_line_from) : Has P w K mg base "run_through" 2 P_run_through (sp_run_through K) := by
  refine F.has sc_run_through (fun vs H Q E h => ?_) (fun f cdv A outer s H vs Q E hr h => ?_)
  · obtain ⟨a, b, n, k, d, rfl, _⟩ := h
    rfl
  · obtain ⟨a, b, n, k, d, rfl, ha, hb, hk, hn, kk⟩ := h
    refine ⟨_, (pss_cons (ps_set (i := 4) sc_run_through.nd rfl (Or.inl rfl) (pe_op op_fdiv (pv 2) (pv 1)))
      (pss_cons (ps_set (i := 5) sc_run_through.nd rfl (Or.inl rfl) (pe_op op_mod (pv 2) (pv 1)))
      (pss_cons (ps_set (i := 6) sc_run_through.nd rfl (Or.inl rfl) (pe_ifExp (pt_cmpR op_eq (pv 3) pe_int (nomark _)) (pe_own h_line_from (hr.mono (by decide)) rfl (pa_cons (pv 1) (pa_cons pe_int (pa_cons (pv 5) (pa_cons pe_int pa_nil))))) (pe_own h_line_from (hr.mono (by decide)) rfl (pa_cons (pv 1) (pa_cons (pv 4) (pa_cons pe_int (pa_cons pe_int pa_nil)))))))
      (pss_cons (ps_set (i := 7) sc_run_through.nd rfl (Or.inl rfl) (pe_ifExp (pt_cmpR op_eq (pv 3) pe_int (nomark _)) (pv 4) (pv 5)))
      (pss_cons (ps_set (i := 8) sc_run_through.nd rfl (Or.inl rfl) (pv 7))
      (pss_cons (ps_while PassesOwn.never (PW.pt (pw_and (pt_cmpR op_gt (pv 7) pe_int (nomark _)) (pw_and1 (pt_cmpR op_ne (pe_ix (ix_listK (K := K) rfl) (pv 0) (pe_ix (ix_listK (K := K) rfl) (pv 6) (pe_op op_sub (pv 7) pe_int) (fun _ _ => rfl)) (fun _ _ => rfl)) pe_int (nomark _))))) (pss_one (ps_aug (i := 7) sc_run_through.nd rfl (Or.inl rfl) pe_int ip_sub)))
      (pss_cons (ps_while PassesOwn.never (PW.pt (pw_and (pt_cmpR op_lt (pv 8) (pe_op op_sub (pv 1) pe_int) (nomark _)) (pw_and1 (pt_cmpR op_ne (pe_ix (ix_listK (K := K) rfl) (pv 0) (pe_ix (ix_listK (K := K) rfl) (pv 6) (pe_op op_add (pv 8) pe_int) (fun _ _ => rfl)) (fun _ _ => rfl)) pe_int (nomark _))))) (pss_one (ps_aug (i := 8) sc_run_through.nd rfl (Or.inl rfl) pe_int ip_add)))
      (pss_one (ps_ret (pe_slice (sl_listK (K := K) rfl) (pv 6) (po_some (pv 7)) (po_some (pe_op op_add (pv 8) pe_int)))))))))))), ?_⟩
    walk_at "rd"
    have h0 : 0 < n := by
      cases n with
      | zero => simp at hk
      | succ n => omega
    have d1 : ((k : Int) / n) = ((k / n : Nat) : Int) := by simp
    have d2 : ((k : Int) % n) = ((k % n : Nat) : Int) := by simp
    rw [d1, d2]
    refine ⟨⟨by omega, by omega⟩, by omega, ?_⟩
    have fin : ∀ (x : Addr) (H1 : Hp), Same H H1 → H x = none → ∀ p, H1 p = none → Q (.ref p) (upd H1 p (.lst (vN (runThrough b n k d)))) := fun x H1 sm hx p hp => kk _ p (Same.upd sm hp) (sm.free hp) upd_same
    cases d with
    | true =>
      rw [if_pos (show bI true = 1 from rfl)]
      refine ⟨n, 0, k % n, true, rfl, hn, Nat.zero_le _, Nat.le_of_lt (Nat.mod_lt _ h0), fun H1 x sm hx hH => ?_⟩
      dsimp only
      rw [if_pos (show bI true = 1 from rfl)]
      exact rt_core (d := true) (SqL.same sm ha) hb hH (lane_lt true hk) (pos_lt true hk) (fin x H1 sm hx)
    | false =>
      rw [if_neg (show ¬ bI false = 1 by decide)]
      refine ⟨n, k / n, 0, false, rfl, hn, Nat.le_of_lt (Nat.div_lt_of_lt_mul hk), Nat.zero_le _, fun H1 x sm hx hH => ?_⟩
      dsimp only
      rw [if_neg (show ¬ bI false = 1 by decide)]
      exact rt_core (d := false) (SqL.same sm ha) hb hH (lane_lt false hk) (pos_lt false hk) (fin x H1 sm hx)
end
section
variable {P : Program} {w : World} {K : PySem.W.Frag} {mg : Str → Option Value} {base : Heap} {Z : ZA}
/-! functions of ints, over values -/
def onN (g : Nat → V) : V → V | .int z => g z.toNat | v => v
def onI (g : Int → V) : V → V | .int z => g z | v => v
def onNb (g : Nat → Bool) : V → Bool | .int z => g z.toNat | _ => false
theorem out_N (g : Nat → V) : ∀ l : List Nat, lcOut (fun _ => true) (onN g) (vN l) = l.map g
  | [] => rfl
  | a :: l => by
    have ih := out_N g l
    show g ((a : Int)).toNat :: lcOut (fun _ => true) (onN g) (vN l) = g a :: l.map g
    rw [ih]; rfl
theorem out_I (g : Int → V) : ∀ l : List Int, lcOut (fun _ => true) (onI g) (vI l) = l.map g
  | [] => rfl
  | a :: l => by
    have ih := out_I g l
    show g a :: lcOut (fun _ => true) (onI g) (vI l) = g a :: l.map g
    rw [ih]
theorem out_Nf (p : Nat → Bool) : ∀ l : List Nat, lcOut (onNb p) id (vN l) = vN (l.filter p)
  | [] => rfl
  | a :: l => by
    have ih := out_Nf p l
    unfold lcOut at ih ⊢
    have e : onNb p (V.int (a : Int)) = p a := rfl
    show List.map id (List.filter (onNb p) (V.int (a : Int) :: vN l)) = vN ((a :: l).filter p)
    rw [List.filter_cons, List.filter_cons, e]
    by_cases h : p a = true
    · rw [if_pos h, if_pos h, List.map_cons, ih]; rfl
    · rw [if_neg h, if_neg h, ih]
theorem vN_item {l : List Nat} {i : Nat} {x : V} (h : (vN l)[i]? = some x) : ∃ k, l[i]? = some k ∧ x = .int (k : Int) ∧ k ∈ l := by
  rw [List.getElem?_map] at h
  cases e : l[i]? with
  | none => rw [e] at h; cases h
  | some k =>
    rw [e] at h
    exact ⟨k, rfl, (Option.some.inj h).symm, List.mem_of_getElem? e⟩
theorem vI_item {l : List Int} {i : Nat} {x : V} (h : (vI l)[i]? = some x) : ∃ k, l[i]? = some k ∧ x = .int k ∧ k ∈ l := by
  rw [List.getElem?_map] at h
  cases e : l[i]? with
  | none => rw [e] at h; cases h
  | some k =>
    rw [e] at h
    exact ⟨k, rfl, (Option.some.inj h).symm, List.mem_of_getElem? e⟩
theorem setl_of {H : Hp} {p : Addr} {xs : List V} {k : Nat} {v : V} {Q : Hp → Prop} (h : H p = some (.lst xs)) (hk : k < xs.length) (q : Q (upd H p (.lst (xs.set k v)))) : rSetL (.ref p) (.int (k : Int)) v H Q := by
  refine ⟨p, xs, _, k, rfl, rfl, h, ?_, q⟩
  unfold ixN
  rw [if_pos (by omega), if_pos (by omega)]; simp
theorem zip_min {α β : Type} : ∀ (l : List α) (m : List β), (l.take (min l.length m.length)).zip (m.take (min l.length m.length)) = l.zip m
  | [], _ => by simp
  | _ :: _, [] => by simp
  | a :: l, b :: m => by
    have ih := zip_min l m
    rw [List.length_cons, List.length_cons, Nat.add_min_add_right, List.take_succ_cons, List.take_succ_cons, List.zip_cons_cons, List.zip_cons_cons, ih]
theorem sz {n : Nat} (h : n ≤ 1000) : n ≤ sizeLine := Nat.le_trans h (by decide)
theorem szl {n : Nat} (h : n ≤ 1000) : n < sizeLine := Nat.lt_of_le_of_lt h (by decide)
/-- lists of squares -/
def Rows (H : Hp) (ps : List Addr) (ws : List (List Nat)) : Prop := Paired (fun p w => H p = some (.lst (vN w))) ps ws
theorem Rows.same {H H' : Hp} (s : Same H H') {ps : List Addr} {ws : List (List Nat)} (r : Rows H ps ws) : Rows H' ps ws := Paired.mapP r fun _ _ h => s _ _ h
theorem Rows.len {H : Hp} {ps : List Addr} {ws : List (List Nat)} (r : Rows H ps ws) : ps.length = ws.length := Paired.length r
def NewRows (H : Hp) (Q : VK) (ws : List (List Nat)) : Prop := ∀ H' p ps, Same H H' → H p = none → H' p = some (.lst (ps.map V.ref)) → Rows H' ps ws → Q (.ref p) H'
def sp_words_of (K : PySem.W.Frag) : Sp := fun vs H Q _ => ∃ (a l : Addr) (b : List Int) (n : Nat) (laid : List Nat) (d : Bool), vs = [.ref a, .int (n : Int), .ref l, .int (bI d)] ∧ SqL K H a (vI b) ∧ SqL K H l (vN laid) ∧ b.length = n * n ∧ n ≤ 11 ∧ laid ≠ [] ∧ laid.length ≤ 7 ∧ (∀ k ∈ laid, k < n * n) ∧ NewRows H Q (wordsOf b n laid d)
theorem h_words_of (T : Txt K mg Z) (F : FunAt K mg "words_of" s_words_of P_words_of) (h_run_through : Has P w K mg base "run_through" 2 P_run_through (sp_run_through K)) : Has P w K mg base "words_of" 3 P_words_of (sp_words_of K) := by
  refine F.has sc_words_of (fun vs H Q E h => ?_) (fun f cdv A outer s H vs Q E hr h => ?_)
  · obtain ⟨a, l, b, n, laid, d, rfl, _⟩ := h
    rfl
  · obtain ⟨a, l, b, n, laid, d, rfl, ha, hl, hb, hn, hne, hlen, hall, kk⟩ := h
    refine ⟨_, (pss_cons (ps_set (i := 4) sc_words_of.nd rfl (Or.inl rfl) (pe_lst (pa_cons (pe_own h_run_through (hr.mono (by decide)) rfl (pa_cons (pv 0) (pa_cons (pv 1) (pa_cons (pe_ix (ix_listK (K := K) rfl) (pv 2) pe_int (fun _ _ => rfl)) (pa_cons (pv 3) pa_nil))))) pa_nil)))
      (pss_cons (ps_for PassesOwn.never rfl (pi_listK (K := K) rfl (pv 2)) (pg_name (i := 5) sc_words_of.nd rfl (Or.inl rfl)) (pss_one (ps_expr (pe_bmK (K := K) rfl PySem.F.plainAttrs_list PySem.F.slot_list_append PySem.F.type_list_append mt_append (pv 4) (pa_cons (pe_own h_run_through (hr.mono (by decide)) rfl (pa_cons (pv 0) (pa_cons (pv 1) (pa_cons (pv 5) (pa_cons (pe_op op_sub pe_int (pv 3)) pa_nil))))) pa_nil)))))
      (pss_one (ps_ret (pe_lc rfl sc_words_of.nd (pi_listK (K := K) rfl (pv 4)) (show BlkOk N_words_of (defScope s_words_of) _ [("run", 6)] from ⟨rfl, by decide +kernel, by decide +kernel, by decide +kernel, by decide +kernel⟩) (fun _ _ _ _ _ => (pg_name (i := 6) sc_words_of.nd rfl (Or.inl rfl))) (fun _ _ _ _ _ => (pts_one (pt_cmpR op_ge (pe_callB (call_lenK (K := K) rfl) rfl T.no_len PySem.boot_len (pa_cons (pv 6) pa_nil)) pe_int (nomark _)))) (fun _ _ _ _ _ => (pv 6))))))), ?_⟩
    walk_at "rd"
    obtain ⟨k0, rest, rfl⟩ : ∃ k0 rest, laid = k0 :: rest := by
      cases laid with
      | nil => exact absurd rfl hne
      | cons a r => exact ⟨a, r, rfl⟩
    refine ixl_of hl (k := 0) rfl rfl ?_
    refine ⟨a, b, n, k0, d, rfl, ha, hb, hall k0 (by simp), hn, fun H1 p0 sm1 hp0 hH1 => ?_⟩
    refine ⟨by decide, fun p hp => ?_⟩
    have hpH : H p = none := sm1.free hp
    have smp : Same H (upd H1 p (.lst [V.ref p0])) := Same.upd sm1 hp
    refine ⟨⟨_, SqL.same smp hl⟩, fr_L' (xs := vN (k0 :: rest)) (fun i σ H' => ∃ (ps : List Addr) (v5 : Option V), σ = [some (V.ref a), some (V.int ↑n), some (V.ref l), some (V.int (bI d)), some (V.ref p), v5, none] ∧ Same H H' ∧ p ∉ ps ∧ H' p = some (.lst (ps.map V.ref)) ∧
      Rows H' ps (runThrough b n k0 d :: ((k0 :: rest).take i).map fun k => runThrough b n k (!d))) ?_ (fun i σ H' _ ⟨_, _, _, sm, _⟩ => SqL.same sm hl) ?_ ?_⟩
    · refine ⟨[p0], none, rfl, smp, ?_, upd_same, .cons ?_ .nil⟩
      · simp; exact fun e => by rw [e] at hp; rw [hp] at hH1; cases hH1
      · have hne : p0 ≠ p := fun e => by rw [e] at hH1; rw [hp] at hH1; cases hH1
        rw [upd_ne hne]; exact hH1
    · rintro i x σ H' hx ⟨ps, v5, rfl, sm, hnp, hpp, hr⟩ N hN
      obtain ⟨k, hk, rfl, hkm⟩ := vN_item hx
      walk_at "rd"
      refine ⟨.inl ⟨rfl, _, SqL.of hpp⟩, a, b, n, k, !d, by cases d <;> rfl, SqL.same sm ha, hb, hall k hkm, hn, fun H2 q sm2 hq hH2 => ?_⟩
      have hplen : ps.length < sizeLine := by
        have := hr.len
        simp only [List.length_cons, List.length_map, List.length_take] at this
        simp only [List.length_cons] at hlen
        exact szl (by omega)
      refine ⟨p, _, _, rfl, rfl, sm2 _ _ hpp, by rw [List.length_map]; exact hplen, hN _ _ ⟨ps ++ [q], _, rfl, ?_, ?_, ?_, ?_⟩⟩
      · exact fun b' o e => by rw [upd_ne (ne_of_none e hpH)]; exact sm2 _ _ (sm _ _ e)
      · rw [List.mem_append]
        rintro (z | z)
        · exact hnp z
        · simp at z
          rw [← z, hpp] at hq
          cases hq
      · rw [upd_same, List.map_append]; rfl
      · have hqp : q ≠ p := fun e => by rw [e, hpp] at hq; cases hq
        have r1 : Rows (upd H2 p (.lst (ps.map V.ref ++ [V.ref q]))) ps (runThrough b n k0 d :: ((k0 :: rest).take i).map fun k => runThrough b n k (!d)) := by
          have : ∀ {ps' : List Addr} {ws : List (List Nat)}, p ∉ ps' → Rows H' ps' ws → Rows (upd H2 p (.lst (ps.map V.ref ++ [V.ref q]))) ps' ws := by
            intro ps' ws hn' r
            induction r with
            | nil => exact .nil
            | cons h t ih =>
              rw [List.mem_cons, not_or] at hn'
              exact .cons (by rw [upd_ne (fun e => hn'.1 e.symm)]; exact sm2 _ _ h) (ih hn'.2)
          exact this hnp hr
        rw [take_succ_of hk, List.map_append]
        exact Paired.snoc r1 (by rw [upd_ne hqp]; exact hH2)
    · rintro σ H' ⟨ps, v5, rfl, sm, hnp, hpp, hr⟩
      have hlenv : (vN (k0 :: rest)).length = (k0 :: rest).length := by simp
      rw [hlenv, List.take_length] at hr
      have hpl := hr.len
      simp only [List.length_cons, List.length_map] at hpl hlen
      walk_at "rd"
      let pf : V → Bool := fun v => match v with | .ref q => (match H' q with | some (.lst xs) => decide (2 ≤ xs.length) | _ => false) | _ => false
      refine ⟨⟨_, SqL.of hpp⟩, lc_L (xs := ps.map V.ref) pf id (SqL.of hpp) (by rw [List.length_map]; exact sz (by omega)) (fun i x H2 Ry Rn hx sm2 hy hn2 => ?_) (fun D H2 hD sm2 hH2 => ?_)⟩
      · rw [List.getElem?_map] at hx
        obtain ⟨q, hq, rfl⟩ := Option.map_eq_some_iff.mp hx
        obtain ⟨w', hw', hqw⟩ := pair_at hr q (List.mem_of_getElem? hq)
        walk_at "rd"
        refine ⟨_, .inl (SqL.of (sm2 _ _ hqw)), ?_⟩
        have epf : pf (V.ref q) = decide (2 ≤ w'.length) := by
          show (match H' q with | some (.lst xs) => decide (2 ≤ xs.length) | _ => false) = _
          rw [hqw]
          simp
        by_cases h2 : 2 ≤ w'.length
        · rw [if_pos (by simp; omega)]
          exact hy (by rw [epf]; simpa using h2) H2 (Same.refl _)
        · rw [if_neg (by simp; omega)]
          exact hn2 (by rw [epf]; simpa using h2) H2 (Same.refl _)
      · have flt : ∀ {ps' : List Addr} {ws : List (List Nat)}, Rows H' ps' ws → ∃ qs, lcOut pf id (ps'.map V.ref) = qs.map V.ref ∧ Rows H' qs (ws.filter fun w => decide (2 ≤ w.length)) := by
          intro ps' ws r
          induction r with
          | nil => exact ⟨[], rfl, .nil⟩
          | cons h t ih =>
            rename_i q w' _ _
            obtain ⟨qs, e, r'⟩ := ih
            have epf : pf (V.ref q) = decide (2 ≤ w'.length) := by
              show (match H' q with | some (.lst xs) => decide (2 ≤ xs.length) | _ => false) = _
              rw [h]
              simp
            unfold lcOut at e ⊢
            rw [List.map_cons, List.filter_cons, List.filter_cons, epf]
            by_cases h2 : decide (2 ≤ w'.length) = true
            · rw [if_pos h2, if_pos h2]
              exact ⟨q :: qs, by rw [List.map_cons, e]; rfl, .cons h r'⟩
            · rw [if_neg h2, if_neg h2]
              exact ⟨qs, e, r'⟩
        obtain ⟨qs, e, r'⟩ := flt hr
        refine kk H2 D qs (sm.trans sm2) (sm.free hD) (by rw [hH2, e]) ?_
        exact r'.same sm2
def sp_board_with (K : PySem.W.Frag) : Sp := fun vs H Q _ => ∃ (a l q : Addr) (b : List Int) (laid : List Nat) (faces : List Int), vs = [.ref a, .ref l, .ref q] ∧ SqL K H a (vI b) ∧ SqL K H l (vN laid) ∧ SqL K H q (vI faces) ∧ (∀ k ∈ laid, k < b.length) ∧ New H Q (vI (boardWith b laid faces))
theorem h_board_with (T : Txt K mg Z) (F : FunAt K mg "board_with" s_board_with P_board_with) : Has P w K mg base "board_with" 1 P_board_with (sp_board_with K) := by
  refine F.has sc_board_with (fun vs H Q E h => ?_) (fun f cdv A outer s H vs Q E hr h => ?_)
  · obtain ⟨a, l, q, b, laid, faces, rfl, _⟩ := h
    rfl
  · obtain ⟨a, l, q, b, laid, faces, rfl, ha, hl, hq, hall, kk⟩ := h
    refine ⟨_, (pss_cons (ps_set (i := 3) sc_board_with.nd rfl (Or.inl rfl) (pe_callTy (call_listK (K := K) rfl) rfl T.no_list PyProof.Rows.boot_list (pa_cons (pv 0) pa_nil)))
      (pss_cons (ps_for PassesOwn.never rfl (pi_zip rfl T.no_zip (pa_cons (pv 1) (pa_cons (pv 2) pa_nil))) (pg_tup (n := 2) rfl (pgs_cons (pg_name (i := 4) sc_board_with.nd rfl (Or.inl rfl)) (pgs_cons (pg_name (i := 5) sc_board_with.nd rfl (Or.inl rfl)) pgs_nil))) (pss_one (ps_asg (pv 5) (pg_sub (pv 3) (pv 4) set_list))))
      (pss_one (ps_ret (pv 3))))), ?_⟩
    walk_at "rd"
    refine ⟨vI b, .inl ha, fun c hc => ?_⟩
    have smc : Same H (upd H c (.lst (vI b))) := Same.new hc
    refine ⟨⟨_, SqL.same smc hl⟩, ⟨_, SqL.same smc hq⟩, fr_Z' (xs := vN laid) (ys := vI faces) (fun i σ H' => ∃ (v4 v5 : Option V), σ = [some (V.ref a), some (V.ref l), some (V.ref q), some (V.ref c), v4, v5] ∧ Same H H' ∧ H' c = some (.lst (vI (boardWith b (laid.take i) (faces.take i))))) ?_
      (fun i σ H' ⟨_, _, _, sm, _⟩ => ⟨SqL.same sm hl, SqL.same sm hq⟩) ?_ ?_⟩
    · exact ⟨none, none, rfl, smc, upd_same⟩
    · rintro i x y T' σ H' hx hy hT ⟨v4, v5, rfl, sm, hcc⟩ N hN
      obtain ⟨k, hk, rfl, hkm⟩ := vN_item hx
      obtain ⟨z, hz, rfl, hzm⟩ := vI_item hy
      walk_at "rd"
      refine ⟨_, SqT.of upd_same, rfl, ?_⟩
      have hcT : c ≠ T' := fun e => by rw [e, hT] at hcc; cases hcc
      have hlt : k < (vI (boardWith b (laid.take i) (faces.take i))).length := by rw [List.length_map, boardWith_len]; exact hall k hkm
      walk_at "rd"
      refine setl_of (by rw [upd_ne hcT]; exact hcc) hlt (hN _ _ ⟨_, _, rfl, ?_, ?_⟩)
      · exact fun b' o e => by rw [upd_ne (ne_of_none e hc), upd_ne (ne_of_none (sm _ _ e) hT)]; exact sm _ _ e
      · rw [upd_same]
        congr 2
        rw [take_succ_of hk, take_succ_of hz]
        have e1 : boardWith b (laid.take i ++ [k]) (faces.take i ++ [z]) = (boardWith b (laid.take i) (faces.take i)).set k z := by
          have hl1 : i < laid.length := (List.getElem?_eq_some_iff.mp hk).1
          have hl2 : i < faces.length := (List.getElem?_eq_some_iff.mp hz).1
          unfold boardWith
          rw [List.zip_append (by simp; omega), List.foldl_append]
          rfl
        rw [e1]
        show (List.map V.int _).set k (V.int z) = List.map V.int _
        rw [List.map_set]
    · rintro σ H' ⟨v4, v5, rfl, sm, hcc⟩
      walk_at "rd"
      refine kk H' c sm hc ?_
      rw [hcc]
      have e1 : (vN laid).length = laid.length := by simp
      have e2 : (vI faces).length = faces.length := by simp
      rw [e1, e2]
      congr 2
      unfold boardWith
      rw [zip_min]
def Says (H : Hp) (Q : VK) (v : V) : Prop := ∀ H', Same H H' → Q v H'
theorem nb_len (n k : Nat) : (neighbours n k).length ≤ 4 := by
  unfold neighbours
  simp only [List.length_append]
  split <;> split <;> split <;> split <;> simp
theorem nb_lt {n k : Nat} (h0 : 0 < n) (hk : k < n * n) : ∀ j ∈ neighbours n k, j < n * n := by
  intro j hj
  unfold neighbours at hj
  have e0 := Nat.div_add_mod k n
  have m1 := Nat.mod_lt k h0
  simp only [List.mem_append] at hj
  rcases hj with ((hj | hj) | hj) | hj
  · split at hj
    · simp at hj; omega
    · cases hj
  · split at hj
    · rename_i h
      simp at hj
      have : n * (k / n + 1) + n ≤ n * n := by
        have := Nat.mul_le_mul_left n (show k / n + 1 + 1 ≤ n by omega)
        rw [Nat.mul_add] at this
        omega
      rw [Nat.mul_add] at this
      omega
    · cases hj
  · split at hj
    · simp at hj; omega
    · cases hj
  · split at hj
    · rename_i h
      simp at hj
      have : k / n < n := Nat.div_lt_of_lt_mul hk
      have := Nat.mul_le_mul_left n (show k / n + 1 ≤ n by omega)
      rw [Nat.mul_add] at this
      omega
    · cases hj
def sp_touches (K : PySem.W.Frag) : Sp := fun vs H Q _ => ∃ (a l : Addr) (b : List Int) (n : Nat) (laid : List Nat), vs = [.ref a, .int (n : Int), .ref l] ∧ SqL K H a (vI b) ∧ SqL K H l (vN laid) ∧ b.length = n * n ∧ 0 < n ∧ n ≤ 11 ∧ (∀ k ∈ laid, k < n * n) ∧ Says H Q (.bl (touches b n laid))
theorem h_touches (T : Txt K mg Z) (F : FunAt K mg "touches" s_touches P_touches) (h_neighbours : Has P w K mg base "neighbours" 1 P_neighbours sp_neighbours) : Has P w K mg base "touches" 2 P_touches (sp_touches K) := by
  refine F.has sc_touches (fun vs H Q E h => ?_) (fun f cdv A outer s H vs Q E hr h => ?_)
  · obtain ⟨a, l, b, n, laid, rfl, _⟩ := h
    rfl
  · obtain ⟨a, l, b, n, laid, rfl, ha, hl, hb, h0, hn, hall, kk⟩ := h
    refine ⟨_, (pss_cons (ps_for PassesOwn.never rfl (pi_listK (K := K) rfl (pv 2)) (pg_name (i := 3) sc_touches.nd rfl (Or.inl rfl)) (pss_one (ps_if (pt_val (pe_callB (cr_anyK (K := K) rfl rfl) rfl T.no_any PyProof.Rows.boot_any (pa_cons (pe_lc rfl sc_touches.nd (pi_listK (K := K) rfl (pe_own h_neighbours (hr.mono (by decide)) rfl (pa_cons (pv 1) (pa_cons (pv 3) pa_nil)))) (show BlkOk N_touches (defScope s_touches) _ [("beside", 4)] from ⟨rfl, by decide +kernel, by decide +kernel, by decide +kernel, by decide +kernel⟩) (fun _ _ _ _ _ => (pg_name (i := 4) sc_touches.nd rfl (Or.inl rfl))) (fun _ _ _ _ _ => pts_nil) (fun _ _ _ _ _ => (pe_cmpR op_ne (pe_ix (ix_listK (K := K) rfl) (pv 0) (pv 4) (fun _ _ => rfl)) pe_int (nomark _)))) pa_nil))) (pss_one (ps_ret pe_bl)) pss_nil)))
      (pss_one (ps_ret pe_bl))), ?_⟩
    walk_at "rd"
    refine ⟨⟨_, hl⟩, fr_L' (xs := vN laid) (fun i σ H' => ∃ (v3 : Option V), σ = [some (V.ref a), some (V.int ↑n), some (V.ref l), v3, none] ∧ Same H H' ∧ touches b n (laid.take i) = false) ⟨none, rfl, Same.refl _, rfl⟩ (fun i σ H' _ ⟨_, _, sm, _⟩ => SqL.same sm hl) ?_ ?_⟩
    · rintro i x σ H' hx ⟨v3, rfl, sm, ht⟩ N hN
      obtain ⟨k, hk, rfl, hkm⟩ := vN_item hx
      walk_at "rd"
      refine ⟨n, k, rfl, h0, hn, fun H1 p sm1 hp hH1 => ?_⟩
      have hnb : ∀ j ∈ neighbours n k, j < n * n := nb_lt h0 (hall k hkm)
      refine ⟨p, rfl, ⟨_, SqL.of hH1⟩, lc_L (xs := vN (neighbours n k)) (fun _ => true) (onN fun j => .bl (tileAt b j)) (SqL.of hH1) (by simp; exact sz (by have := nb_len n k; omega)) (fun i' x H2 Ry Rn hx sm2 hy hn2 => ?_) (fun D H2 hD sm2 hH2 => ?_)⟩
      · obtain ⟨j, hj, rfl, hjm⟩ := vN_item hx
        walk_at "rd"
        refine ixl_of (SqL.same (sm.trans (sm1.trans sm2)) ha) rfl (vI_at (by rw [hb]; exact hnb j hjm)) ?_
        walk_at "rd"
        have := hy rfl H2 (Same.refl _)
        have e : (!decide (b.getD j 0 = 0)) = tileAt b j := by unfold tileAt; simp
        rw [e]
        exact this
      · rw [out_N] at hH2
        refine ⟨D, rfl, (neighbours n k).map (tileAt b), ?_, ?_⟩
        · rw [List.map_map]; exact SqL.of hH2
        · have e : ((neighbours n k).map (tileAt b)).any id = (neighbours n k).any fun j => tileAt b j := by rw [List.any_map]; rfl
          rw [e]
          have tk : touches b n (laid.take (i + 1)) = (neighbours n k).any fun j => tileAt b j := by
            unfold touches at ht ⊢
            rw [take_succ_of hk, List.any_append, ht]
            simp
          by_cases hh : ((neighbours n k).any fun j => tileAt b j) = true
          · rw [if_pos hh]
            have e2 : touches b n laid = true := by
              unfold touches
              rw [List.any_eq_true]
              exact ⟨k, hkm, hh⟩
            rw [e2] at kk
            exact kk H2 (sm.trans (sm1.trans sm2))
          · rw [if_neg hh]
            exact hN _ _ ⟨_, rfl, sm.trans (sm1.trans sm2), by rw [tk]; simpa using hh⟩
    · rintro σ H' ⟨v3, rfl, sm, ht⟩
      have e1 : (vN laid).length = laid.length := by simp
      rw [e1, List.take_length] at ht
      walk_at "rd"
      rw [ht] at kk
      exact kk H' sm
def sp_letters_on (K : PySem.W.Frag) : Sp := fun vs H Q _ => ∃ (a l : Addr) (b : List Int) (run : List Nat), vs = [.ref a, .ref l] ∧ SqL K H a (vI b) ∧ SqL K H l (vN run) ∧ run.length ≤ 11 ∧ (∀ k ∈ run, k < b.length) ∧ ∀ H' p, Same H H' → H p = none → H' p = some (.tup (vN (lettersOn b run))) → Q (.ref p) H'
theorem h_letters_on (T : Txt K mg Z) (F : FunAt K mg "letters_on" s_letters_on P_letters_on) : Has P w K mg base "letters_on" 1 P_letters_on (sp_letters_on K) := by
  refine F.has sc_letters_on (fun vs H Q E h => ?_) (fun f cdv A outer s H vs Q E hr h => ?_)
  · obtain ⟨a, l, b, run, rfl, _⟩ := h
    rfl
  · obtain ⟨a, l, b, run, rfl, ha, hl, hlen, hall, kk⟩ := h
    refine ⟨_, (pss_one (ps_ret (pe_callTy (call_tupleK (K := K) rfl) rfl T.no_tuple PyProof.Rows.boot_tuple (pa_cons (pe_lc rfl sc_letters_on.nd (pi_listK (K := K) rfl (pv 1)) (show BlkOk N_letters_on (defScope s_letters_on) _ [("square", 2)] from ⟨rfl, by decide +kernel, by decide +kernel, by decide +kernel, by decide +kernel⟩) (fun _ _ _ _ _ => (pg_name (i := 2) sc_letters_on.nd rfl (Or.inl rfl))) (fun _ _ _ _ _ => pts_nil) (fun _ _ _ _ _ => (pe_callB call_abs rfl T.no_abs PyProof.Rows.boot_abs (pa_cons (pe_ix (ix_listK (K := K) rfl) (pv 0) (pv 2) (fun _ _ => rfl)) pa_nil)))) pa_nil)))), ?_⟩
    walk_at "rd"
    refine ⟨⟨_, hl⟩, lc_L (xs := vN run) (fun _ => true) (onN fun k => .int ((b.getD k 0).natAbs : Nat)) hl (by simp; exact sz (by omega)) (fun i x H2 Ry Rn hx sm2 hy hn2 => ?_) (fun D H2 hD sm2 hH2 => ?_)⟩
    · obtain ⟨k, hk, rfl, hkm⟩ := vN_item hx
      walk_at "rd"
      refine ixl_of (SqL.same sm2 ha) rfl (vI_at (hall k hkm)) ?_
      walk_at "rd"
      have := hy rfl H2 (Same.refl _)
      have e : (if b.getD k 0 < 0 then -b.getD k 0 else b.getD k 0) = (((b.getD k 0).natAbs : Nat) : Int) := by split <;> omega
      rw [e]
      exact this
    · rw [out_N] at hH2
      refine ⟨D, rfl, _, .inl ⟨SqL.of hH2, fun q hq => ?_⟩⟩
      refine kk _ q (Same.upd sm2 hq) (sm2.free hq) ?_
      rw [upd_same]
      unfold lettersOn
      show _ = some (HO.tup (List.map _ (List.map _ run)))
      rw [List.map_map]
      rfl
end
/-! ### a game in the heap -/
/-- where its parts lie -/
structure GA where
  g : Addr
  dx : Addr
  worths : Addr
  bag : Addr
  squares : Addr
  board : Addr
  hands : Addr
  points : Addr
  lost : Addr
  words : Addr
  aside : Addr
  laid : Addr
  hs : List Addr
  ws : List Addr
def gfs (m : G) (A : GA) : List (Str × V) :=
  [("rows", .int (m.rows : Int)), ("players", .int (m.players : Int)), ("worths", .ref A.worths), ("bag", .ref A.bag), ("squares", .ref A.squares), ("board", .ref A.board), ("hands", .ref A.hands), ("points", .ref A.points), ("lost", .ref A.lost), ("words", .ref A.words),
   ("phase", .int (m.phase : Int)), ("turn", .int (m.turn : Int)), ("due", .int (m.due : Int)), ("aside", .ref A.aside), ("laid", .ref A.laid), ("down", .int (bI m.down)), ("counted", .int (m.counted : Int)), ("idle", .int (m.idle : Int))]
def cells (C : Addr) (m : G) (A : GA) : List (Addr × HO) :=
  (A.g, .ins C A.dx (gfs m A)) :: (A.worths, .lst (vN m.worths)) :: (A.bag, .lst (vN m.bag)) :: (A.squares, .lst (vN m.squares)) :: (A.board, .lst (vI m.board)) :: (A.hands, .lst (A.hs.map V.ref)) :: (A.points, .lst (vI m.points)) :: (A.lost, .lst (vN m.lost)) ::
  (A.words, .lst (A.ws.map V.ref)) :: (A.aside, .lst (vN m.aside)) :: (A.laid, .lst (vN m.laid)) :: A.hs.zip (m.hands.map fun h => HO.lst (vN h))
def GA.own (A : GA) : List Addr := A.g :: A.worths :: A.bag :: A.squares :: A.board :: A.hands :: A.points :: A.lost :: A.words :: A.aside :: A.laid :: A.hs
structure GameAt (C : Addr) (H : Hp) (A : GA) (m : G) : Prop where
  at_ : ∀ p ∈ cells C m A, H p.1 = some p.2
  nd : A.own.Nodup
  hl : A.hs.length = m.hands.length
  ws : Paired (fun p w => H p = some (.tup (vN w))) A.ws m.words
theorem zip_fst {α β : Type} : ∀ (l : List α) (m : List β), l.length = m.length → (l.zip m).map (·.1) = l
  | [], _, _ => rfl
  | _ :: _, [], h => by simp at h
  | a :: l, b :: m, h => by
    show a :: (l.zip m).map (·.1) = a :: l
    rw [zip_fst l m (by simpa using h)]
theorem cells_own {C : Addr} {m : G} {A : GA} (h : A.hs.length = m.hands.length) : (cells C m A).map (·.1) = A.own := by
  show A.g :: A.worths :: A.bag :: A.squares :: A.board :: A.hands :: A.points :: A.lost :: A.words :: A.aside :: A.laid :: (A.hs.zip (m.hands.map fun h => HO.lst (vN h))).map (·.1) = A.own
  rw [zip_fst _ _ (by rw [List.length_map]; exact h)]
  rfl
/-- what isn't of F stays -/
def Keep (H H' : Hp) (F : List Addr) : Prop := ∀ b o, H b = some o → b ∉ F → H' b = some o
theorem Keep.refl (H : Hp) (F : List Addr) : Keep H H F := fun _ _ e _ => e
theorem same_keep {H H' : Hp} (s : Same H H') (F : List Addr) : Keep H H' F := fun b o e _ => s b o e
theorem Keep.trans {H H1 H2 : Hp} {F F1 : List Addr} (a : Keep H H1 F) (b : Keep H1 H2 F1) (hF : ∀ x ∈ F1, x ∈ F ∨ H x = none) : Keep H H2 F := fun c o e n =>
  b c o (a c o e n) fun hm => (hF c hm).elim n fun z => by rw [z] at e; cases e
theorem Keep.upd {H : Hp} {F : List Addr} {a : Addr} {o : HO} (h : a ∈ F) : Keep H (L2.upd H a o) F := fun b u e n => by
  rw [upd_ne (fun z => n (by rw [z]; exact h))]; exact e
theorem nd_get {α : Type} {l : List α} (hN : l.Nodup) {i j : Nat} {x : α} (a : l[i]? = some x) (b : l[j]? = some x) : i = j := L2.nd_ix hN a b
section
variable {C : Addr} {H : Hp} {A : GA} {m m' : G}
theorem GameAt.write (h : GameAt C H A m) {j : Nat} {a : Addr} {o o' : HO} (hj : (cells C m A)[j]? = some (a, o)) (ho : ∀ xs, o ≠ .tup xs) (e : cells C m' A = (cells C m A).set j (a, o')) (ehl : m'.hands.length = m.hands.length) (ew : m'.words = m.words) :
    GameAt C (upd H a o') A m' := by
  have hlt : j < (cells C m A).length := (List.getElem?_eq_some_iff.mp hj).1
  have own := cells_own (C := C) h.hl
  have ha : H a = some o := h.at_ (a, o) (List.mem_of_getElem? hj)
  have hja : A.own[j]? = some a := by rw [← own, List.getElem?_map, hj]; rfl
  refine ⟨fun p hp => ?_, h.nd, by rw [ehl]; exact h.hl, ?_⟩
  · rw [e] at hp
    obtain ⟨i, hi, ei⟩ := List.getElem_of_mem hp
    have hi' : i < (cells C m A).length := by simpa using hi
    by_cases q : j = i
    · subst q
      rw [List.getElem_set_self] at ei
      subst ei
      exact upd_same
    · rw [List.getElem_set_ne q] at ei
      have hi2 : (cells C m A)[i]? = some p := by rw [List.getElem?_eq_getElem hi', ei]
      have hia : A.own[i]? = some p.1 := by rw [← own, List.getElem?_map, hi2]; rfl
      have ne : p.1 ≠ a := fun z => q (nd_get h.nd hja (by rw [← z]; exact hia))
      rw [upd_ne ne]
      exact h.at_ p (List.mem_of_getElem? hi2)
  · rw [ew]
    exact Paired.mapP h.ws fun p w hp => by
      rw [upd_ne (ne_of hp ha (fun z => ho _ z.symm))]; exact hp
theorem GameAt.keep (h : GameAt C H A m) {H' : Hp} {F : List Addr} (k : Keep H H' F) (hF : ∀ b ∈ F, b ∉ A.own ∧ b ∉ A.ws) : GameAt C H' A m := by
  refine ⟨fun p hp => k _ _ (h.at_ p hp) fun z => (hF _ z).1 ?_, h.nd, h.hl, ?_⟩
  · rw [← cells_own (C := C) h.hl]
    exact List.mem_map.mpr ⟨p, hp, rfl⟩
  · have : ∀ {l : List Addr} {ws : List (List Nat)}, (∀ b ∈ l, b ∈ A.ws) → Paired (fun p w => H p = some (.tup (vN w))) l ws → Paired (fun p w => H' p = some (.tup (vN w))) l ws := by
      intro l ws hsub r
      induction r with
      | nil => exact .nil
      | cons q t ih => exact .cons (k _ _ q fun z => (hF _ z).2 (hsub _ (by simp))) (ih fun b hb => hsub b (List.mem_cons_of_mem _ hb))
    exact this (fun b hb => hb) h.ws
theorem GameAt.same (h : GameAt C H A m) {H' : Hp} (s : Same H H') : GameAt C H' A m := h.keep (same_keep s []) (fun b hb => nomatch hb)
theorem GameAt.obj (h : GameAt C H A m) : H A.g = some (.ins C A.dx (gfs m A)) := h.at_ (A.g, .ins C A.dx (gfs m A)) (by simp [cells])
theorem GameAt.l_worths (h : GameAt C H A m) : H A.worths = some (.lst (vN m.worths)) := h.at_ (A.worths, .lst (vN m.worths)) (by simp [cells])
theorem GameAt.l_bag (h : GameAt C H A m) : H A.bag = some (.lst (vN m.bag)) := h.at_ (A.bag, .lst (vN m.bag)) (by simp [cells])
theorem GameAt.l_squares (h : GameAt C H A m) : H A.squares = some (.lst (vN m.squares)) := h.at_ (A.squares, .lst (vN m.squares)) (by simp [cells])
theorem GameAt.l_board (h : GameAt C H A m) : H A.board = some (.lst (vI m.board)) := h.at_ (A.board, .lst (vI m.board)) (by simp [cells])
theorem GameAt.l_hands (h : GameAt C H A m) : H A.hands = some (.lst (A.hs.map V.ref)) := h.at_ (A.hands, .lst (A.hs.map V.ref)) (by simp [cells])
theorem GameAt.l_points (h : GameAt C H A m) : H A.points = some (.lst (vI m.points)) := h.at_ (A.points, .lst (vI m.points)) (by simp [cells])
theorem GameAt.l_lost (h : GameAt C H A m) : H A.lost = some (.lst (vN m.lost)) := h.at_ (A.lost, .lst (vN m.lost)) (by simp [cells])
theorem GameAt.l_words (h : GameAt C H A m) : H A.words = some (.lst (A.ws.map V.ref)) := h.at_ (A.words, .lst (A.ws.map V.ref)) (by simp [cells])
theorem GameAt.l_aside (h : GameAt C H A m) : H A.aside = some (.lst (vN m.aside)) := h.at_ (A.aside, .lst (vN m.aside)) (by simp [cells])
theorem GameAt.l_laid (h : GameAt C H A m) : H A.laid = some (.lst (vN m.laid)) := h.at_ (A.laid, .lst (vN m.laid)) (by simp [cells])
theorem GameAt.l_hand (h : GameAt C H A m) {i : Nat} {hd : List Nat} (hi : m.hands[i]? = some hd) : ∃ p, A.hs[i]? = some p ∧ H p = some (.lst (vN hd)) := by
  have hlt : i < A.hs.length := by rw [h.hl]; exact (List.getElem?_eq_some_iff.mp hi).1
  refine ⟨A.hs[i], List.getElem?_eq_getElem hlt, ?_⟩
  have q : (A.hs.zip (m.hands.map fun h => HO.lst (vN h)))[i]? = some (A.hs[i], HO.lst (vN hd)) := by
    rw [List.getElem?_zip_eq_some]
    exact ⟨List.getElem?_eq_getElem hlt, by rw [List.getElem?_map, hi]; rfl⟩
  have := List.mem_of_getElem? q
  exact h.at_ (A.hs[i], HO.lst (vN hd)) (by simp only [cells, List.mem_cons]; exact .inr (.inr (.inr (.inr (.inr (.inr (.inr (.inr (.inr (.inr (.inr this)))))))))))
-- fields
end
section
variable {P : Program} {w : World} {K : PySem.W.Frag} {mg : Str → Option Value} {base : Heap} {Z : ZA}
theorem sIx_min (n d a : Nat) : HT.sIx n d (some (a : Int)) = min a n := by
  show (if (a : Int) < 0 then ((a : Int) + n).toNat else min ((a : Int)).toNat n) = min a n
  rw [if_neg (by omega)]
  omega
theorem inV_N (k : Nat) : ∀ l : List Nat, inV (.int (k : Int)) (vN l) = l.contains k
  | [] => rfl
  | a :: l => by
    have ih := inV_N k l
    show ((a : Int) == (k : Int) || inV (.int (k : Int)) (vN l)) = _
    rw [ih, List.contains_cons]
    congr 1
    by_cases h : a = k
    · subst h
      exact (beq_self_eq_true (a : Int)).trans (beq_self_eq_true a).symm
    · have h1 : ¬ (a : Int) = (k : Int) := by omega
      have h2 : ¬ k = a := fun z => h z.symm
      exact (beq_eq_false_iff_ne.mpr h1).trans (beq_eq_false_iff_ne.mpr h2).symm
theorem flat_N (l : List Nat) : (vN l).all flatV = true := by
  induction l with
  | nil => rfl
  | cons a l ih =>
    show (true && (vN l).all flatV) = true
    rw [ih]; rfl
theorem in_of {H : Hp} {p : Addr} {l : List Nat} {k : Nat} {z : Int} {Q : VK} (h : SqL K H p (vN l)) (hz : z = (k : Int)) (q : Q (.bl (l.contains k)) H) : rIn K false (.int z) (.ref p) H Q := by
  subst hz
  refine ⟨p, _, rfl, .inl h, rfl, flat_N l, ?_⟩
  show Q (.bl (inV (.int (k : Int)) (vN l))) H
  rw [inV_N]; exact q
def sp_is_tied (K : PySem.W.Frag) : Sp := fun vs H Q _ => ∃ (a l : Addr) (b : List Int) (n : Nat) (laid : List Nat), vs = [.ref a, .int (n : Int), .ref l] ∧ SqL K H a (vI b) ∧ SqL K H l (vN laid) ∧ b.length = n * n ∧ 0 < n ∧ n ≤ 11 ∧ (∀ k ∈ laid, k < n * n) ∧ Says H Q (.bl (isTied b n laid))
theorem h_is_tied (T : Txt K mg Z) (F : FunAt K mg "is_tied" s_is_tied P_is_tied) (h_touches : Has P w K mg base "touches" 2 P_touches (sp_touches K)) : Has P w K mg base "is_tied" 3 P_is_tied (sp_is_tied K) := by
  refine F.has sc_is_tied (fun vs H Q E h => ?_) (fun f cdv A outer s H vs Q E hr h => ?_)
  · obtain ⟨a, l, b, n, laid, rfl, _⟩ := h
    rfl
  · obtain ⟨a, l, b, n, laid, rfl, ha, hl, hb, h0, hn, hall, kk⟩ := h
    refine ⟨_, (pss_cons (ps_if (pt_val (pe_callB (cr_anyIK (K := K) rfl rfl) rfl T.no_any PyProof.Rows.boot_any (pa_cons (pv 0) pa_nil))) (pss_one (ps_ret (pe_own h_touches (hr.mono (by decide)) rfl (pa_cons (pv 0) (pa_cons (pv 1) (pa_cons (pv 2) pa_nil)))))) pss_nil)
      (pss_cons (ps_set (i := 3) sc_is_tied.nd rfl (Or.inl rfl) (pe_op op_fdiv (pv 1) pe_int))
      (pss_one (ps_ret (pe_cmpR (op_inK (K := K) rfl) (pe_op op_add (pe_op op_mul (pv 3) (pv 1)) (pv 3)) (pv 2) rfl))))), ?_⟩
    walk_at "rd"
    refine ⟨b, ha, ?_⟩
    unfold isTied at kk
    by_cases h : (b.any fun x => decide (x ≠ 0)) = true
    · rw [if_pos h]
      rw [if_pos h] at kk
      exact ⟨a, l, b, n, laid, rfl, ha, hl, hb, h0, hn, hall, kk⟩
    · rw [if_neg h]
      rw [if_neg h] at kk
      have d1 : ((n : Int) / 2) = ((n / 2 : Nat) : Int) := by simp
      refine ⟨⟨by omega, by omega⟩, .inl ⟨by omega, by omega⟩, in_of (k := n / 2 * n + n / 2) hl ?_ (kk H (Same.refl _))⟩
      rw [d1]; simp
def sp_squares_for (K : PySem.W.Frag) : Sp := fun vs H Q _ => ∃ (a q : Addr) (b : List Int) (n row col : Nat) (d : Bool) (faces : List Int), vs = [.ref a, .int (n : Int), .int (row : Int), .int (col : Int), .int (bI d), .ref q] ∧ SqL K H a (vI b) ∧ SqL K H q (vI faces) ∧ b.length = n * n ∧ row < n ∧ col < n ∧ n ≤ 11 ∧
  faces ≠ [] ∧ faces.length ≤ 7 ∧ (∀ f ∈ faces, f ≠ 0) ∧ New H Q (vN (squaresFor b n row col d faces))
theorem h_squares_for (T : Txt K mg Z) (F : FunAt K mg "squares_for" s_squares_for P_squares_for) (h_line_from : Has P w K mg base "line_from" 1 P_line_from sp_line_from) (h_is_tied : Has P w K mg base "is_tied" 3 P_is_tied (sp_is_tied K))
    (h_words_of : Has P w K mg base "words_of" 3 P_words_of (sp_words_of K)) (h_board_with : Has P w K mg base "board_with" 1 P_board_with (sp_board_with K)) : Has P w K mg base "squares_for" 4 P_squares_for (sp_squares_for K) := by
  refine F.has sc_squares_for (fun vs H Q E h => ?_) (fun f cdv A outer s H vs Q E hr h => ?_)
  · obtain ⟨a, q, b, n, row, col, d, faces, rfl, _⟩ := h
    rfl
  · obtain ⟨a, q, b, n, row, col, d, faces, rfl, ha, hq, hb, hrow, hcol, hn, hne, hlen, hf, kk⟩ := h
    refine ⟨_, (pss_cons (ps_if (pt_cmpR op_ne (pe_ix (ix_listK (K := K) rfl) (pv 0) (pe_op op_add (pe_op op_mul (pv 2) (pv 1)) (pv 3)) (fun _ _ => rfl)) pe_int (nomark _)) (pss_one (ps_ret (pe_lst pa_nil))) pss_nil)
      (pss_cons (ps_set (i := 6) sc_squares_for.nd rfl (Or.inl rfl) (pe_slice (sl_listK (K := K) rfl) (pe_lc rfl sc_squares_for.nd (pi_listK (K := K) rfl (pe_own h_line_from (hr.mono (by decide)) rfl (pa_cons (pv 1) (pa_cons (pv 2) (pa_cons (pv 3) (pa_cons (pv 4) pa_nil)))))) (show BlkOk N_squares_for (defScope s_squares_for) _ [("square", 7)] from ⟨rfl, by decide +kernel, by decide +kernel, by decide +kernel, by decide +kernel⟩) (fun _ _ _ _ _ => (pg_name (i := 7) sc_squares_for.nd rfl (Or.inl rfl))) (fun _ _ _ _ _ => (pts_one (pt_cmpR op_eq (pe_ix (ix_listK (K := K) rfl) (pv 0) (pv 7) (fun _ _ => rfl)) pe_int (nomark _)))) (fun _ _ _ _ _ => (pv 7))) po_none (po_some (pe_callB (call_lenK (K := K) rfl) rfl T.no_len PySem.boot_len (pa_cons (pv 5) pa_nil)))))
      (pss_cons (ps_if (PW.pt (pw_or (pt_cmpR op_lt (pe_callB (call_lenK (K := K) rfl) rfl T.no_len PySem.boot_len (pa_cons (pv 6) pa_nil)) (pe_callB (call_lenK (K := K) rfl) rfl T.no_len PySem.boot_len (pa_cons (pv 5) pa_nil)) (nomark _)) (pw_or1 (pt_not (pt_val (pe_own h_is_tied (hr.mono (by decide)) rfl (pa_cons (pv 0) (pa_cons (pv 1) (pa_cons (pv 6) pa_nil))))))))) (pss_one (ps_ret (pe_lst pa_nil))) pss_nil)
      (pss_cons (ps_if (pt_cmpR op_eq (pe_callB (call_lenK (K := K) rfl) rfl T.no_len PySem.boot_len (pa_cons (pe_own h_words_of (hr.mono (by decide)) rfl (pa_cons (pe_own h_board_with (hr.mono (by decide)) rfl (pa_cons (pv 0) (pa_cons (pv 6) (pa_cons (pv 5) pa_nil)))) (pa_cons (pv 1) (pa_cons (pv 6) (pa_cons (pv 4) pa_nil))))) pa_nil)) pe_int (nomark _)) (pss_one (ps_ret (pe_lst pa_nil))) pss_nil)
      (pss_one (ps_ret (pv 6))))))), ?_⟩
    walk_at "rd"
    have h0 : 0 < n := by omega
    have hk : row * n + col < n * n := by
      rw [sqP n row col d]
      exact sqr_lt d (laneP_lt d hrow hcol) (posP_lt d hrow hcol)
    have nil : squaresFor b n row col d faces = [] → ∀ H', Same H H' → 0 ≤ sizeLine ∧ ∀ p, H' p = none → Q (V.ref p) (upd H' p (HO.lst [])) := fun e H' sm => by
      refine ⟨Nat.zero_le _, fun p hp => ?_⟩
      rw [e] at kk
      exact kk _ p (Same.upd sm hp) (sm.free hp) upd_same
    refine ⟨.inl ⟨by omega, by omega⟩, ixl_of (k := row * n + col) ha (by simp) (vI_at (by rw [hb]; exact hk)) ?_⟩
    walk_at "rd"
    by_cases t : tileAt b (row * n + col) = true
    · rw [if_pos (by unfold tileAt at t; simpa using t)]
      refine nil ?_ H (Same.refl _)
      unfold squaresFor
      rw [if_pos t]
    · rw [if_neg (by unfold tileAt at t; simpa using t)]
      refine ⟨n, row, col, d, rfl, hn, by omega, by omega, fun H1 c sm1 hc hH1 => ?_⟩
      have hline : ∀ k ∈ lineFrom n row col d, k < n * n := fun k hk' => by
        rw [lineFrom_eq] at hk'
        obtain ⟨p, hp, rfl⟩ := List.mem_map.mp hk'
        rw [List.mem_range'_1] at hp
        exact sqr_lt d (laneP_lt d hrow hcol) (by have := posP_lt d hrow hcol; omega)
      have hlinelen : (lineFrom n row col d).length ≤ n := by rw [lineFrom_eq]; simp
      refine ⟨c, rfl, ⟨_, SqL.of hH1⟩, lc_L (xs := vN (lineFrom n row col d)) (onNb fun k => !tileAt b k) id (SqL.of hH1) (by simp; exact sz (by omega)) (fun i x H2 Ry Rn hx sm2 hy hn2 => ?_) (fun D H2 hD sm2 hH2 => ?_)⟩
      · obtain ⟨j, hj, rfl, hjm⟩ := vN_item hx
        walk_at "rd"
        refine ixl_of (SqL.same (sm1.trans sm2) ha) rfl (vI_at (by rw [hb]; exact hline j hjm)) ?_
        walk_at "rd"
        have e : onNb (fun k => !tileAt b k) (V.int (j : Int)) = !tileAt b j := rfl
        by_cases tj : tileAt b j = true
        · rw [if_neg (by unfold tileAt at tj; simpa using tj)]
          exact hn2 (by rw [e, tj]; rfl) H2 (Same.refl _)
        · rw [if_pos (by unfold tileAt at tj; simpa using tj)]
          exact hy (by rw [e]; simpa using tj) H2 (Same.refl _)
      · rw [out_Nf] at hH2
        have smA : Same H H2 := sm1.trans sm2
        refine ⟨vI faces, .inl (SqL.same smA hq), D, _, rfl, SqL.of hH2, fun c2 hc2 => ?_⟩
        have ecut : cutV (vN ((lineFrom n row col d).filter fun k => !tileAt b k)) none (some ((vI faces).length : Int)) = vN (((lineFrom n row col d).filter fun k => !tileAt b k).take faces.length) := by
          unfold cutV
          have e1 : (vI faces).length = faces.length := by simp
          have e0 : HT.sIx (vN ((lineFrom n row col d).filter fun k => !tileAt b k)).length 0 none = 0 := rfl
          rw [e0, List.drop_zero, Nat.sub_zero, e1, sIx_min, List.length_map, ← List.map_take]
          congr 1
          by_cases hm : faces.length ≤ ((lineFrom n row col d).filter fun k => !tileAt b k).length
          · rw [Nat.min_eq_left hm]
          · rw [Nat.min_eq_right (by omega), List.take_of_length_le (Nat.le_refl _), List.take_of_length_le (by omega)]
        rw [ecut]
        have hc2H : H c2 = none := smA.free hc2
        have smB := Same.upd (o := .lst (vN (((lineFrom n row col d).filter fun k => !tileAt b k).take faces.length))) smA hc2
        have hatc : upd H2 c2 (.lst (vN (((lineFrom n row col d).filter fun k => !tileAt b k).take faces.length))) c2 = _ := upd_same
        generalize hH3 : upd H2 c2 (.lst (vN (((lineFrom n row col d).filter fun k => !tileAt b k).take faces.length))) = H3 at *
        have hflt : ∀ k ∈ ((lineFrom n row col d).filter fun k => !tileAt b k).take faces.length, k < n * n := fun k hk' => hline k (List.mem_filter.mp (List.mem_of_mem_take hk')).1
        generalize hL : ((lineFrom n row col d).filter fun k => !tileAt b k).take faces.length = L at *
        have hLlen : L.length ≤ faces.length := by rw [← hL]; exact List.length_take_le _ _
        refine ⟨c2, rfl, vN L, .inl (SqL.of hatc), vI faces, .inl (SqL.same smB hq), ?_⟩
        have eL : ((vN L).length : Int) = L.length := by simp
        have eF : ((vI faces).length : Int) = faces.length := by simp
        rw [eL, eF]
        by_cases hlt : L.length < faces.length
        · rw [if_pos (by omega)]
          refine nil ?_ H3 smB
          unfold squaresFor
          rw [if_neg t, hL, if_pos (.inl hlt)]
        · rw [if_neg (by omega)]
          refine ⟨a, c2, b, n, L, rfl, SqL.same smB ha, SqL.of hatc, hb, h0, hn, hflt, fun H4 sm4 => ?_⟩
          have smC := smB.trans sm4
          refine ⟨_, rfl, ?_⟩
          have hLne : L ≠ [] := fun z => by
            rw [z] at hlt
            cases faces with
            | nil => exact hne rfl
            | cons f fs => simp at hlt
          by_cases ht : isTied b n L = true
          · rw [ht]
            rw [if_neg (show ¬ true = false by decide)]
            refine ⟨a, c2, q, b, L, faces, rfl, SqL.same smC ha, SqL.of (sm4 _ _ hatc), SqL.same smC hq, fun k hk' => by rw [hb]; exact hflt k hk', fun H5 c5 sm5 hc5 hH5 => ?_⟩
            refine ⟨c5, c2, boardWith b L faces, n, L, d, rfl, SqL.of hH5, SqL.of (sm5 _ _ (sm4 _ _ hatc)), by rw [boardWith_len, hb], hn, hLne, by omega, hflt, fun H6 c6 ps sm6 hc6 hH6 hr6 => ?_⟩
            refine ⟨c6, rfl, _, .inl (SqL.of hH6), ?_⟩
            have eR : ((ps.map V.ref).length : Int) = ((wordsOf (boardWith b L faces) n L d).length : Nat) := by rw [List.length_map, hr6.len]
            rw [eR]
            have smD := smC.trans (sm5.trans sm6)
            have nor : ¬ (L.length < faces.length ∨ isTied b n L = false) := fun z => z.elim hlt (fun y => by rw [ht] at y; cases y)
            by_cases hw : (wordsOf (boardWith b L faces) n L d).length = 0
            · rw [if_pos (by omega)]
              refine nil ?_ H6 smD
              unfold squaresFor
              rw [if_neg t, hL, if_neg nor, if_pos hw]
            · rw [if_neg (by omega)]
              have eS : squaresFor b n row col d faces = L := by
                unfold squaresFor
                rw [if_neg t, hL, if_neg nor, if_neg hw]
              rw [eS] at kk
              exact kk H6 c2 smD hc2H (sm6 _ _ (sm5 _ _ (sm4 _ _ hatc)))
          · have ht' : isTied b n L = false := by simpa using ht
            rw [ht']
            rw [if_pos (show false = false from rfl)]
            refine nil ?_ H4 smC
            unfold squaresFor
            rw [if_neg t, hL, if_pos (.inr ht')]
def sp_worth_of_word (K : PySem.W.Frag) : Sp := fun vs H Q _ => ∃ (a r l q v : Addr) (b : List Int) (run laid squares worths : List Nat), vs = [.ref a, .ref r, .ref l, .ref q, .ref v] ∧ SqL K H a (vI b) ∧ SqL K H r (vN run) ∧ SqL K H l (vN laid) ∧ SqL K H q (vN squares) ∧ SqL K H v (vN worths) ∧
  run.length ≤ 11 ∧ (∀ k ∈ run, k < b.length) ∧ squares.length = b.length ∧ (∀ x ∈ squares, x ≤ 4) ∧ worths.length = 27 ∧ (∀ x ∈ worths, x ≤ 20) ∧ (∀ z ∈ b, z ≤ 26) ∧ Says H Q (.int (worthOfWord b run laid squares worths : Nat))
theorem h_worth_of_word (T : Txt K mg Z) (F : FunAt K mg "worth_of_word" s_worth_of_word P_worth_of_word) (h_tile_of : Has P w K mg base "tile_of" 1 P_tile_of sp_tile_of) : Has P w K mg base "worth_of_word" 2 P_worth_of_word (sp_worth_of_word K) := by
  refine F.has sc_worth_of_word (fun vs H Q E h => ?_) (fun f cdv A outer s H vs Q E hr h => ?_)
  · obtain ⟨a, r, l, q, v, b, run, laid, squares, worths, rfl, _⟩ := h
    rfl
  · obtain ⟨a, r, l, q, v, b, run, laid, squares, worths, rfl, ha, hr', hl, hq, hv, hlen, hall, hsq, hs4, hw, hw20, hb26, kk⟩ := h
    refine ⟨_, (pss_cons (ps_set (i := 5) sc_worth_of_word.nd rfl (Or.inl rfl) pe_int)
      (pss_cons (ps_set (i := 6) sc_worth_of_word.nd rfl (Or.inl rfl) pe_int)
      (pss_cons (ps_for PassesOwn.never rfl (pi_listK (K := K) rfl (pv 1)) (pg_name (i := 7) sc_worth_of_word.nd rfl (Or.inl rfl)) (pss_cons (ps_set (i := 8) sc_worth_of_word.nd rfl (Or.inl rfl) (pe_ix (ix_listK (K := K) rfl) (pv 4) (pe_own h_tile_of (hr.mono (by decide)) rfl (pa_cons (pe_ix (ix_listK (K := K) rfl) (pv 0) (pv 7) (fun _ _ => rfl)) pa_nil)) (fun _ _ => rfl)))
      (pss_cons (ps_if (pt_cmpR (op_inK (K := K) rfl) (pv 7) (pv 2) rfl) (pss_cons (ps_aug (i := 8) sc_worth_of_word.nd rfl (Or.inl rfl) (pe_ix (ix_tupK (K := K) rfl) (pe_gl T.c_LETTER_TIMES rfl) (pe_ix (ix_listK (K := K) rfl) (pv 3) (pv 7) (fun _ _ => rfl)) (fun _ _ => rfl)) ip_mul)
      (pss_one (ps_aug (i := 6) sc_worth_of_word.nd rfl (Or.inl rfl) (pe_ix (ix_tupK (K := K) rfl) (pe_gl T.c_WORD_TIMES rfl) (pe_ix (ix_listK (K := K) rfl) (pv 3) (pv 7) (fun _ _ => rfl)) (fun _ _ => rfl)) ip_mul))) pss_nil)
      (pss_one (ps_aug (i := 5) sc_worth_of_word.nd rfl (Or.inl rfl) (pv 8) ip_add)))))
      (pss_one (ps_ret (pe_op op_mul (pv 5) (pv 6))))))), ?_⟩
    walk_at "rd"
    refine ⟨⟨_, hr'⟩, fr_L' (xs := vN run) (fun i σ H' => ∃ (v7 v8 : Option V), H' = H ∧ σ = [some (V.ref a), some (V.ref r), some (V.ref l), some (V.ref q), some (V.ref v), some (V.int (((run.take i).map (letW b laid squares worths)).sum : Nat)), some (V.int (((run.take i).map (wrdW laid squares)).foldl (fun a b => a * b) 1 : Nat)), v7, v8])
      ⟨none, none, rfl, rfl⟩ (fun i σ H' _ ⟨_, _, e, _⟩ => by rw [e]; exact hr') ?_ ?_⟩
    · rintro i x σ H' hx ⟨v7, v8, rfl, rfl⟩ N hN
      obtain ⟨k, hk, rfl, hkm⟩ := vN_item hx
      have hkb := hall k hkm
      have hz26 : b.getD k 0 ≤ 26 := by
        rw [List.getD_eq_getElem?_getD, List.getElem?_eq_getElem hkb]
        exact hb26 _ (List.getElem_mem hkb)
      have hti : tileIn (b.getD k 0) < worths.length := by unfold tileIn; omega
      have hw20' : worths.getD (tileIn (b.getD k 0)) 0 ≤ 20 := by
        rw [List.getD_eq_getElem?_getD, List.getElem?_eq_getElem hti]
        exact hw20 _ (List.getElem_mem hti)
      have hkq : k < squares.length := by omega
      have hs4' : squares.getD k 0 ≤ 4 := by
        rw [List.getD_eq_getElem?_getD, List.getElem?_eq_getElem hkq]
        exact hs4 _ (List.getElem_mem hkq)
      have eT1 : ((run.take (i + 1)).map (letW b laid squares worths)).sum = ((run.take i).map (letW b laid squares worths)).sum + letW b laid squares worths k := by
        rw [take_succ_of hk, List.map_append, List.sum_append]; simp
      have eT2 : ((run.take (i + 1)).map (wrdW laid squares)).foldl (fun a b => a * b) 1 = ((run.take i).map (wrdW laid squares)).foldl (fun a b => a * b) 1 * wrdW laid squares k := by
        rw [take_succ_of hk, List.map_append, List.foldl_append]; rfl
      walk_at "rd"
      refine ixl_of ha rfl (vI_at hkb) ⟨_, rfl, ixl_of hv rfl (vN_at hti) (in_of hl rfl ?_)⟩
      walk_at "rd"
      by_cases hin : laid.contains k = true
      · rw [if_pos hin]
        refine ixl_of hq rfl (vN_at hkq) (ixt_of (T.lt _) rfl (vN_at (by show squares.getD k 0 < 5; omega)) ?_)
        walk_at "rd"
        refine ⟨.inl ⟨by omega, by omega⟩, ?_⟩
        refine ixl_of hq rfl (vN_at hkq) (ixt_of (T.wt _) rfl (vN_at (by show squares.getD k 0 < 5; omega)) ?_)
        walk_at "rd"
        refine ⟨.inr ⟨?_, ?_⟩, hN _ _ ⟨some (V.int (k : Int)), some (V.int (((worths.getD (tileIn (b.getD k 0)) 0 : Nat) : Int) * ((([1, 2, 3, 1, 1] : List Nat).getD (squares.getD k 0) 0 : Nat) : Int))), rfl, ?_⟩⟩
        · have : ([1, 1, 1, 2, 3] : List Nat).getD (squares.getD k 0) 0 ≤ 3 := by
            generalize squares.getD k 0 = e at *
            match e, hs4' with
            | 0, _ => decide
            | 1, _ => decide
            | 2, _ => decide
            | 3, _ => decide
            | 4, _ => decide
          omega
        · have : ([1, 1, 1, 2, 3] : List Nat).getD (squares.getD k 0) 0 ≤ 3 := by
            generalize squares.getD k 0 = e at *
            match e, hs4' with
            | 0, _ => decide
            | 1, _ => decide
            | 2, _ => decide
            | 3, _ => decide
            | 4, _ => decide
          omega
        · rw [eT1, eT2]
          unfold letW wrdW ltimes wtimes
          rw [if_pos hin, if_pos hin]
          have d1 : ([1, 2, 3, 1, 1] : List Nat).getD (squares.getD k 0) 0 = ([1, 2, 3, 1, 1] : List Nat).getD (squares.getD k 0) 1 := by
            generalize squares.getD k 0 = e at *
            match e, hs4' with
            | 0, _ => rfl
            | 1, _ => rfl
            | 2, _ => rfl
            | 3, _ => rfl
            | 4, _ => rfl
          have d2 : ([1, 1, 1, 2, 3] : List Nat).getD (squares.getD k 0) 0 = ([1, 1, 1, 2, 3] : List Nat).getD (squares.getD k 0) 1 := by
            generalize squares.getD k 0 = e at *
            match e, hs4' with
            | 0, _ => rfl
            | 1, _ => rfl
            | 2, _ => rfl
            | 3, _ => rfl
            | 4, _ => rfl
          rw [d1, d2]
          simp
      · rw [if_neg hin]
        refine hN _ _ ⟨some (V.int (k : Int)), some (V.int ((worths.getD (tileIn (b.getD k 0)) 0 : Nat) : Int)), rfl, ?_⟩
        rw [eT1, eT2]
        unfold letW wrdW
        rw [if_neg hin, if_neg hin]
        simp
    · rintro σ H' ⟨v7, v8, rfl, rfl⟩
      have e1 : (vN run).length = run.length := by simp
      rw [e1, List.take_length]
      walk_at "rd"
      have bnd : ∀ l : List Nat, (∀ k ∈ l, letW b laid squares worths k ≤ 60) → (l.map (letW b laid squares worths)).sum ≤ 60 * l.length := by
        intro l
        induction l with
        | nil => intro _; simp
        | cons x l ih =>
          intro hh
          have h1 := ih fun k hk => hh k (List.mem_cons_of_mem _ hk)
          have h2 := hh x (by simp)
          rw [List.map_cons, List.sum_cons, List.length_cons]
          omega
      have hsum := bnd run fun k hkm => by
        have hkb := hall k hkm
        have hti : tileIn (b.getD k 0) < worths.length := by
          have : b.getD k 0 ≤ 26 := by
            rw [List.getD_eq_getElem?_getD, List.getElem?_eq_getElem hkb]
            exact hb26 _ (List.getElem_mem hkb)
          unfold tileIn; omega
        have hw20' : worths.getD (tileIn (b.getD k 0)) 0 ≤ 20 := by
          rw [List.getD_eq_getElem?_getD, List.getElem?_eq_getElem hti]
          exact hw20 _ (List.getElem_mem hti)
        have h3 : (if laid.contains k = true then ltimes (squares.getD k 0) else 1) ≤ 3 := by
          split
          · rw [ltimes_eq]; split <;> (try split) <;> omega
          · omega
        exact Nat.le_trans (Nat.mul_le_mul hw20' h3) (by omega)
      refine ⟨.inl ⟨by omega, by omega⟩, ?_⟩
      have := kk H' (Same.refl _)
      unfold worthOfWord at this
      simpa using this
def natsV (xs : List V) : List Nat := xs.map fun v => match v with | .int z => z.toNat | _ => 0
theorem natsV_N : ∀ l : List Nat, natsV (vN l) = l
  | [] => rfl
  | a :: l => by
    show ((a : Int)).toNat :: natsV (vN l) = a :: l
    rw [natsV_N l]; rfl
/-- a function of a list of squares, at its address -/
def onRow (H : Hp) (g : List Nat → V) : V → V
  | .ref c => match H c with
    | some (.lst xs) => g (natsV xs)
    | _ => .non
  | v => v
theorem onRow_at {H : Hp} {g : List Nat → V} {c : Addr} {run : List Nat} (h : H c = some (.lst (vN run))) : onRow H g (.ref c) = g run := by
  have e : onRow H g (.ref c) = match H c with
    | some (.lst xs) => g (natsV xs)
    | _ => .non := rfl
  rw [e, h]
  show g (natsV (vN run)) = g run
  rw [natsV_N]
theorem out_rows {H : Hp} {g : List Nat → V} : ∀ {ps : List Addr} {ws : List (List Nat)}, Rows H ps ws → lcOut (fun _ => true) (onRow H g) (ps.map V.ref) = ws.map g
  | _, _, .nil => rfl
  | _, _, .cons h t => by
    have ih := out_rows (g := g) t
    unfold lcOut at ih ⊢
    rw [List.map_cons, List.filter_cons, if_pos rfl, List.map_cons, List.map_cons, ih, onRow_at h]
theorem cast_sum {α : Type} (g : α → Nat) : ∀ l : List α, (l.map fun x => ((g x : Nat) : Int)).sum = ((l.map g).sum : Nat)
  | [] => rfl
  | a :: l => by
    rw [List.map_cons, List.map_cons, List.sum_cons, List.sum_cons, cast_sum g l]; omega
def sp_worth_of_play (K : PySem.W.Frag) : Sp := fun vs H Q _ => ∃ (a p l q v : Addr) (ps : List Addr) (b : List Int) (ws : List (List Nat)) (laid squares worths : List Nat), vs = [.ref a, .ref p, .ref l, .ref q, .ref v] ∧ SqL K H a (vI b) ∧ SqL K H p (ps.map V.ref) ∧ Rows H ps ws ∧ SqL K H l (vN laid) ∧ SqL K H q (vN squares) ∧ SqL K H v (vN worths) ∧
  ws.length ≤ 8 ∧ (∀ run ∈ ws, run.length ≤ 11 ∧ ∀ k ∈ run, k < b.length) ∧ squares.length = b.length ∧ (∀ x ∈ squares, x ≤ 4) ∧ worths.length = 27 ∧ (∀ x ∈ worths, x ≤ 20) ∧ (∀ z ∈ b, z ≤ 26) ∧ Says H Q (.int (worthOfPlay b ws laid squares worths : Nat))
theorem h_worth_of_play (T : Txt K mg Z) (F : FunAt K mg "worth_of_play" s_worth_of_play P_worth_of_play) (h_worth_of_word : Has P w K mg base "worth_of_word" 2 P_worth_of_word (sp_worth_of_word K)) : Has P w K mg base "worth_of_play" 3 P_worth_of_play (sp_worth_of_play K) := by
  refine F.has sc_worth_of_play (fun vs H Q E h => ?_) (fun f cdv A outer s H vs Q E hr h => ?_)
  · obtain ⟨a, p, l, q, v, ps, b, ws, laid, squares, worths, rfl, _⟩ := h
    rfl
  · obtain ⟨a, p, l, q, v, ps, b, ws, laid, squares, worths, rfl, ha, hp, hrw, hl, hq, hv, hlen, hall, hsq, hs4, hw, hw20, hb26, kk⟩ := h
    refine ⟨_, (pss_cons (ps_set (i := 5) sc_worth_of_play.nd rfl (Or.inl rfl) (pe_callB (cr_sumK (K := K) rfl rfl) rfl T.no_sum PyProof.Rows.boot_sum (pa_cons (pe_lc rfl sc_worth_of_play.nd (pi_listK (K := K) rfl (pv 1)) (show BlkOk N_worth_of_play (defScope s_worth_of_play) _ [("run", 6)] from ⟨rfl, by decide +kernel, by decide +kernel, by decide +kernel, by decide +kernel⟩) (fun _ _ _ _ _ => (pg_name (i := 6) sc_worth_of_play.nd rfl (Or.inl rfl))) (fun _ _ _ _ _ => pts_nil) (fun _ _ _ _ _ => (pe_own h_worth_of_word (hr.mono (by decide)) rfl (pa_cons (pv 0) (pa_cons (pv 6) (pa_cons (pv 2) (pa_cons (pv 3) (pa_cons (pv 4) pa_nil)))))))) pa_nil)))
      (pss_one (ps_ret (pe_ifExp (pt_cmpR op_eq (pe_callB (call_lenK (K := K) rfl) rfl T.no_len PySem.boot_len (pa_cons (pv 2) pa_nil)) (pe_gl T.c_FULL_PLAY rfl) (nomark _)) (pe_op op_add (pv 5) (pe_gl T.c_FULL_PLAY_MORE rfl)) (pv 5))))), ?_⟩
    walk_at "rd"
    have hpl := hrw.len
    refine ⟨⟨_, hp⟩, lc_L (xs := ps.map V.ref) (fun _ => true) (onRow H fun run => .int (worthOfWord b run laid squares worths : Nat)) hp (by rw [List.length_map]; exact sz (by omega)) (fun i x H2 Ry Rn hx sm2 hy hn2 => ?_) (fun D H2 hD sm2 hH2 => ?_)⟩
    · rw [List.getElem?_map] at hx
      obtain ⟨c, hc, rfl⟩ := Option.map_eq_some_iff.mp hx
      obtain ⟨run, hrm, hcr⟩ := pair_at hrw c (List.mem_of_getElem? hc)
      walk_at "rd"
      refine ⟨a, c, l, q, v, b, run, laid, squares, worths, rfl, SqL.same sm2 ha, SqL.of (sm2 _ _ hcr), SqL.same sm2 hl, SqL.same sm2 hq, SqL.same sm2 hv, (hall run hrm).1, (hall run hrm).2, hsq, hs4, hw, hw20, hb26, fun H3 sm3 => ?_⟩
      have := hy rfl H3 sm3
      rw [onRow_at hcr] at this
      exact this
    · rw [out_rows hrw] at hH2
      refine ⟨D, rfl, ws.map fun run => ((worthOfWord b run laid squares worths : Nat) : Int), ?_, vN laid, .inl (SqL.same sm2 hl), ?_⟩
      · rw [List.map_map]
        exact SqL.of hH2
      · have e1 : ((vN laid).length : Int) = laid.length := by simp
        rw [e1]
        have := kk H2 sm2
        unfold worthOfPlay at this
        have e2 : (ws.map fun run => ((worthOfWord b run laid squares worths : Nat) : Int)).sum = ((ws.map fun run => worthOfWord b run laid squares worths).sum : Nat) := cast_sum _ ws
        rw [e2]
        by_cases h7 : laid.length = 7
        · rw [if_pos (by omega)]
          rw [if_pos h7] at this
          simpa using this
        · rw [if_neg (by omega)]
          rw [if_neg h7] at this
          simpa using this
end
section
variable {P : Program} {w : World} {K : PySem.W.Frag} {mg : Str → Option Value} {base : Heap} {Z : ZA} {H : Hp} {A : GA} {m m' : G} {Q : VK} {R : Hp → Prop}
theorem FL_eq (T : Txt K mg Z) (h : GameAt Z.C H A m) {f : Str} {v : V} (hf : f ∈ fieldNames) (l : (gfs m A).lookup f = some v) : FL K f (.ref A.g) H Q = Q v H := by
  apply propext
  constructor
  · rintro ⟨a, C, dx, fs, v', e, hH, _, _, l', q⟩
    cases e
    rw [h.obj] at hH
    cases hH
    rw [l] at l'
    cases l'
    exact q
  · exact fun q => ⟨_, _, _, _, _, rfl, h.obj, T.cl, T.na f hf, l, q⟩
theorem own_g (A : GA) : A.g ∈ A.own := by simp [GA.own]
theorem sf_scal (T : Txt K mg Z) (h : GameAt Z.C H A m) {f : Str} {y : V} (hf : f ∈ fieldNames) (e : putF f y (gfs m A) = gfs m' A) (ec : cells Z.C m' A = (cells Z.C m A).set 0 (A.g, .ins Z.C A.dx (gfs m' A))) (eh : m'.hands = m.hands) (ew : m'.words = m.words)
    (q : ∀ H2, GameAt Z.C H2 A m' → Keep H H2 A.own → R H2) : SF K f y (.ref A.g) H R := by
  refine ⟨A.g, Z.C, A.dx, _, rfl, h.obj, T.cl, T.na f hf, (by show 18 < 1000; decide), ?_⟩
  rw [e]
  exact q _ (h.write (j := 0) (o := .ins Z.C A.dx (gfs m A)) rfl (fun xs z => nomatch z) ec (by rw [eh]) ew) (Keep.upd (own_g A))
theorem af_scal {j : Int} {D : Ends} {σ : L2.St} (T : Txt K mg Z) (h : GameAt Z.C H A m) {f : Str} {i : Int} (hf : f ∈ fieldNames) (l : (gfs m A).lookup f = some (.int i)) (e : putF f (.int (i + j)) (gfs m A) = gfs m' A) (ec : cells Z.C m' A = (cells Z.C m A).set 0 (A.g, .ins Z.C A.dx (gfs m' A))) (eh : m'.hands = m.hands) (ew : m'.words = m.words)
    (q : ∀ H2, GameAt Z.C H2 A m' → Keep H H2 A.own → D.nx σ H2) : AF K f (tC (.int j)) rAdd D σ (.ref A.g) H := by
  refine ⟨A.g, Z.C, A.dx, _, _, rfl, h.obj, T.cl, T.na f hf, l, i, j, rfl, rfl, A.dx, _, h.obj, (by show 18 < 1000; decide), ?_⟩
  rw [e]
  exact q _ (h.write (j := 0) (o := .ins Z.C A.dx (gfs m A)) rfl (fun xs z => nomatch z) ec (by rw [eh]) ew) (Keep.upd (own_g A))
theorem fl_rows (T : Txt K mg Z) (h : GameAt Z.C H A m) : FL K "rows" (.ref A.g) H Q = Q (.int (m.rows : Int)) H := FL_eq T h (by decide +kernel) rfl
theorem fl_players (T : Txt K mg Z) (h : GameAt Z.C H A m) : FL K "players" (.ref A.g) H Q = Q (.int (m.players : Int)) H := FL_eq T h (by decide +kernel) rfl
theorem fl_worths (T : Txt K mg Z) (h : GameAt Z.C H A m) : FL K "worths" (.ref A.g) H Q = Q (.ref A.worths) H := FL_eq T h (by decide +kernel) rfl
theorem fl_bag (T : Txt K mg Z) (h : GameAt Z.C H A m) : FL K "bag" (.ref A.g) H Q = Q (.ref A.bag) H := FL_eq T h (by decide +kernel) rfl
theorem fl_squares (T : Txt K mg Z) (h : GameAt Z.C H A m) : FL K "squares" (.ref A.g) H Q = Q (.ref A.squares) H := FL_eq T h (by decide +kernel) rfl
theorem fl_board (T : Txt K mg Z) (h : GameAt Z.C H A m) : FL K "board" (.ref A.g) H Q = Q (.ref A.board) H := FL_eq T h (by decide +kernel) rfl
theorem fl_hands (T : Txt K mg Z) (h : GameAt Z.C H A m) : FL K "hands" (.ref A.g) H Q = Q (.ref A.hands) H := FL_eq T h (by decide +kernel) rfl
theorem fl_points (T : Txt K mg Z) (h : GameAt Z.C H A m) : FL K "points" (.ref A.g) H Q = Q (.ref A.points) H := FL_eq T h (by decide +kernel) rfl
theorem fl_lost (T : Txt K mg Z) (h : GameAt Z.C H A m) : FL K "lost" (.ref A.g) H Q = Q (.ref A.lost) H := FL_eq T h (by decide +kernel) rfl
theorem fl_words (T : Txt K mg Z) (h : GameAt Z.C H A m) : FL K "words" (.ref A.g) H Q = Q (.ref A.words) H := FL_eq T h (by decide +kernel) rfl
theorem fl_phase (T : Txt K mg Z) (h : GameAt Z.C H A m) : FL K "phase" (.ref A.g) H Q = Q (.int (m.phase : Int)) H := FL_eq T h (by decide +kernel) rfl
theorem fl_turn (T : Txt K mg Z) (h : GameAt Z.C H A m) : FL K "turn" (.ref A.g) H Q = Q (.int (m.turn : Int)) H := FL_eq T h (by decide +kernel) rfl
theorem fl_due (T : Txt K mg Z) (h : GameAt Z.C H A m) : FL K "due" (.ref A.g) H Q = Q (.int (m.due : Int)) H := FL_eq T h (by decide +kernel) rfl
theorem fl_aside (T : Txt K mg Z) (h : GameAt Z.C H A m) : FL K "aside" (.ref A.g) H Q = Q (.ref A.aside) H := FL_eq T h (by decide +kernel) rfl
theorem fl_laid (T : Txt K mg Z) (h : GameAt Z.C H A m) : FL K "laid" (.ref A.g) H Q = Q (.ref A.laid) H := FL_eq T h (by decide +kernel) rfl
theorem fl_down (T : Txt K mg Z) (h : GameAt Z.C H A m) : FL K "down" (.ref A.g) H Q = Q (.int (bI m.down)) H := FL_eq T h (by decide +kernel) rfl
theorem fl_counted (T : Txt K mg Z) (h : GameAt Z.C H A m) : FL K "counted" (.ref A.g) H Q = Q (.int (m.counted : Int)) H := FL_eq T h (by decide +kernel) rfl
theorem fl_idle (T : Txt K mg Z) (h : GameAt Z.C H A m) : FL K "idle" (.ref A.g) H Q = Q (.int (m.idle : Int)) H := FL_eq T h (by decide +kernel) rfl
theorem sf_phase {k : Nat} {z : Int} (T : Txt K mg Z) (h : GameAt Z.C H A m) (hz : z = (k : Int)) (q : ∀ H2, GameAt Z.C H2 A { m with phase := k } → Keep H H2 A.own → R H2) : SF K "phase" (.int z) (.ref A.g) H R := sf_scal (m' := { m with phase := k }) T h (by decide +kernel) (by subst hz; rfl) rfl rfl rfl q
theorem sf_turn {k : Nat} {z : Int} (T : Txt K mg Z) (h : GameAt Z.C H A m) (hz : z = (k : Int)) (q : ∀ H2, GameAt Z.C H2 A { m with turn := k } → Keep H H2 A.own → R H2) : SF K "turn" (.int z) (.ref A.g) H R := sf_scal (m' := { m with turn := k }) T h (by decide +kernel) (by subst hz; rfl) rfl rfl rfl q
theorem af_turn {j : Nat} {D : Ends} {σ : L2.St} (T : Txt K mg Z) (h : GameAt Z.C H A m) (q : ∀ H2, GameAt Z.C H2 A { m with turn := m.turn + j } → Keep H H2 A.own → D.nx σ H2) : AF K "turn" (tC (.int (j : Int))) rAdd D σ (.ref A.g) H := af_scal (m' := { m with turn := m.turn + j }) T h (by decide +kernel) rfl (by rfl) rfl rfl rfl q
theorem sf_due {k : Nat} {z : Int} (T : Txt K mg Z) (h : GameAt Z.C H A m) (hz : z = (k : Int)) (q : ∀ H2, GameAt Z.C H2 A { m with due := k } → Keep H H2 A.own → R H2) : SF K "due" (.int z) (.ref A.g) H R := sf_scal (m' := { m with due := k }) T h (by decide +kernel) (by subst hz; rfl) rfl rfl rfl q
theorem sf_counted {k : Nat} {z : Int} (T : Txt K mg Z) (h : GameAt Z.C H A m) (hz : z = (k : Int)) (q : ∀ H2, GameAt Z.C H2 A { m with counted := k } → Keep H H2 A.own → R H2) : SF K "counted" (.int z) (.ref A.g) H R := sf_scal (m' := { m with counted := k }) T h (by decide +kernel) (by subst hz; rfl) rfl rfl rfl q
theorem sf_idle {k : Nat} {z : Int} (T : Txt K mg Z) (h : GameAt Z.C H A m) (hz : z = (k : Int)) (q : ∀ H2, GameAt Z.C H2 A { m with idle := k } → Keep H H2 A.own → R H2) : SF K "idle" (.int z) (.ref A.g) H R := sf_scal (m' := { m with idle := k }) T h (by decide +kernel) (by subst hz; rfl) rfl rfl rfl q
theorem af_idle {j : Nat} {D : Ends} {σ : L2.St} (T : Txt K mg Z) (h : GameAt Z.C H A m) (q : ∀ H2, GameAt Z.C H2 A { m with idle := m.idle + j } → Keep H H2 A.own → D.nx σ H2) : AF K "idle" (tC (.int (j : Int))) rAdd D σ (.ref A.g) H := af_scal (m' := { m with idle := m.idle + j }) T h (by decide +kernel) rfl (by rfl) rfl rfl rfl q
/-- all changes are in place -/
def GivesA (C : Addr) (H : Hp) (A : GA) (m' : G) (Q : VK) (v : V) : Prop := ∀ H', GameAt C H' A m' → Keep H H' A.own → Q v H'
theorem Keep.trans' {H H1 H2 : Hp} {F : List Addr} (a : Keep H H1 F) (b : Keep H1 H2 F) : Keep H H2 F := a.trans b fun x hx => .inl hx
theorem vN_vI (l : List Nat) : vN l = (l.map fun (k : Nat) => (k : Int)).map V.int := by rw [List.map_map]; rfl
theorem sum_cast (l : List Nat) : (l.map fun (k : Nat) => (k : Int)).sum = ((l.sum : Nat) : Int) := by
  have := cast_sum (fun k : Nat => k) l
  simpa using this
def sp_standing (K : PySem.W.Frag) (Z : ZA) : Sp := fun vs H Q _ => ∃ (A : GA) (m : G), vs = [.ref A.g] ∧ GameAt Z.C H A m ∧ m.points.length ≤ 4 ∧ New H Q (vI (standing m))
theorem h_standing (T : Txt K mg Z) (F : FunAt K mg "standing" s_standing P_standing) : Has P w K mg base "standing" 1 P_standing (sp_standing K Z) := by
  refine F.has sc_standing (fun vs H Q E h => ?_) (fun f cdv A outer s H vs Q E hr h => ?_)
  · obtain ⟨A, m, rfl, _⟩ := h
    rfl
  · obtain ⟨A', m, rfl, hg, hp4, kk⟩ := h
    refine ⟨_, (pss_one (ps_ret (pe_op op_cat (pe_lst (pa_cons (pe_fldK (K := K) rfl (pv 0) rfl) (pa_cons (pe_fldK (K := K) rfl (pv 0) rfl) (pa_cons (pe_fldK (K := K) rfl (pv 0) rfl) (pa_cons (pe_callB (cr_sumK (K := K) rfl rfl) rfl T.no_sum PyProof.Rows.boot_sum (pa_cons (pe_fldK (K := K) rfl (pv 0) rfl) pa_nil)) pa_nil))))) (pe_fldK (K := K) rfl (pv 0) rfl)))), ?_⟩
    walk_at "rd"
    simp only [fl_rows T hg, fl_players T hg, fl_worths T hg, fl_bag T hg, fl_squares T hg, fl_board T hg, fl_hands T hg, fl_points T hg, fl_lost T hg, fl_words T hg, fl_phase T hg, fl_turn T hg, fl_due T hg, fl_aside T hg, fl_laid T hg, fl_down T hg, fl_counted T hg, fl_idle T hg]
    refine ⟨_, rfl, m.bag.map (fun (k : Nat) => (k : Int)), by rw [← vN_vI]; exact SqL.of hg.l_bag, by decide, fun p hp => ?_⟩
    have hg2 := hg.same (Same.new (o := .lst [V.int ↑m.phase, V.int ↑m.turn, V.int ↑m.due, V.int (m.bag.map (fun (k : Nat) => (k : Int))).sum]) hp)
    rw [fl_points T hg2]
    refine ⟨p, A'.points, _, _, rfl, rfl, upd_same, hg2.l_points, by simp; exact sz (by omega), fun p2 hp2 => ?_⟩
    refine kk _ p2 (Same.upd (Same.new hp) hp2) ((Same.new hp).free hp2) ?_
    rw [upd_same]
    unfold standing
    rw [sum_cast]
    rfl
def sp_await_play (Z : ZA) : Sp := fun vs H Q _ => ∃ (A : GA) (m : G), vs = [.ref A.g] ∧ GameAt Z.C H A m ∧ GivesA Z.C H A { m with phase := 1, due := 0 } Q .non
theorem h_await_play (T : Txt K mg Z) (F : FunAt K mg "await_play" s_await_play P_await_play) : Has P w K mg base "await_play" 1 P_await_play (sp_await_play Z) := by
  refine F.has sc_await_play (fun vs H Q E h => ?_) (fun f cdv A outer s H vs Q E hr h => ?_)
  · obtain ⟨A, m, rfl, _⟩ := h
    rfl
  · obtain ⟨A', m, rfl, hg, kk⟩ := h
    refine ⟨_, (pss_cons (ps_fld (pv 0) (pe_gl T.c_PLAYING rfl) rfl)
      (pss_one (ps_fld (pv 0) pe_int rfl))), ?_⟩
    walk_at "rd"
    refine sf_phase (k := 1) T hg rfl fun H2 hg2 k2 => sf_due (k := 0) T hg2 rfl fun H3 hg3 k3 => kk H3 hg3 (k2.trans' k3)
def sp_follow_first_draw (Z : ZA) : Sp := fun vs H Q _ => ∃ (A : GA) (m : G), vs = [.ref A.g] ∧ GameAt Z.C H A m ∧ GivesA Z.C H A (followFirst m) Q .non
theorem h_follow_first_draw (T : Txt K mg Z) (F : FunAt K mg "follow_first_draw" s_follow_first_draw P_follow_first_draw) (h_await_play : Has P w K mg base "await_play" 1 P_await_play (sp_await_play Z)) : Has P w K mg base "follow_first_draw" 2 P_follow_first_draw (sp_follow_first_draw Z) := by
  refine F.has sc_follow_first_draw (fun vs H Q E h => ?_) (fun f cdv A outer s H vs Q E hr h => ?_)
  · obtain ⟨A, m, rfl, _⟩ := h
    rfl
  · obtain ⟨A', m, rfl, hg, kk⟩ := h
    refine ⟨_, (pss_cons (ps_if (pt_cmpR op_lt (pe_op op_add (pe_fldK (K := K) rfl (pv 0) rfl) pe_int) (pe_fldK (K := K) rfl (pv 0) rfl) (nomark _)) (pss_cons (ps_fldaug (pv 0) pe_int in_add)
      (pss_one ps_retN)) pss_nil)
      (pss_cons (ps_fld (pv 0) pe_int rfl)
      (pss_one (ps_expr (pe_own h_await_play (hr.mono (by decide)) rfl (pa_cons (pv 0) pa_nil)))))), ?_⟩
    walk_at "rd"
    simp only [fl_rows T hg, fl_players T hg, fl_worths T hg, fl_bag T hg, fl_squares T hg, fl_board T hg, fl_hands T hg, fl_points T hg, fl_lost T hg, fl_words T hg, fl_phase T hg, fl_turn T hg, fl_due T hg, fl_aside T hg, fl_laid T hg, fl_down T hg, fl_counted T hg, fl_idle T hg]
    walk_at "rd"
    unfold followFirst at kk
    by_cases h : m.turn + 1 < m.players
    · rw [if_pos (by omega)]
      rw [if_pos h] at kk
      exact af_turn (j := 1) T hg fun H2 hg2 k2 => kk H2 hg2 k2
    · rw [if_neg (by omega)]
      rw [if_neg h] at kk
      refine sf_turn (k := 0) T hg rfl fun H2 hg2 k2 => ?_
      exact ⟨A', _, rfl, hg2, fun H3 hg3 k3 => kk H3 hg3 (k2.trans' k3)⟩
theorem rows_zip {H : Hp} : ∀ (l : List Addr) (ws : List (List Nat)), l.length = ws.length → (∀ p ∈ l.zip (ws.map fun h => HO.lst (vN h)), H p.1 = some p.2) → Rows H l ws
  | [], [], _, _ => .nil
  | [], _ :: _, h, _ => by simp at h
  | _ :: _, [], h, _ => by simp at h
  | a :: l, w' :: ws, h, hp => .cons (hp (a, .lst (vN w')) (by simp)) (rows_zip l ws (by simpa using h) fun p hm => hp p (by rw [List.map_cons, List.zip_cons_cons]; exact List.mem_cons_of_mem _ hm))
theorem GameAt.rows {C : Addr} (h : GameAt C H A m) : Rows H A.hs m.hands := rows_zip _ _ h.hl fun p hp => h.at_ p (by
  simp only [cells, List.mem_cons]
  exact .inr (.inr (.inr (.inr (.inr (.inr (.inr (.inr (.inr (.inr (.inr hp)))))))))))
theorem vN_set (l : List Nat) (i k : Nat) : (vN l).set i (.int (k : Int)) = vN (l.set i k) := by
  show (List.map _ l).set i _ = List.map _ (l.set i k)
  rw [List.map_set]
theorem vI_set (l : List Int) (i : Nat) (k : Int) : (vI l).set i (.int k) = vI (l.set i k) := by
  show (List.map _ l).set i _ = List.map _ (l.set i k)
  rw [List.map_set]
section
variable {C : Addr}
theorem GameAt.w_lost (h : GameAt C H A m) (l : List Nat) : GameAt C (upd H A.lost (.lst (vN l))) A { m with lost := l } := h.write (j := 7) (o := .lst (vN m.lost)) rfl (fun xs z => nomatch z) rfl rfl rfl
theorem GameAt.w_points (h : GameAt C H A m) (l : List Int) : GameAt C (upd H A.points (.lst (vI l))) A { m with points := l } := h.write (j := 6) (o := .lst (vI m.points)) rfl (fun xs z => nomatch z) rfl rfl rfl
theorem GameAt.w_bag (h : GameAt C H A m) (l : List Nat) : GameAt C (upd H A.bag (.lst (vN l))) A { m with bag := l } := h.write (j := 2) (o := .lst (vN m.bag)) rfl (fun xs z => nomatch z) rfl rfl rfl
theorem GameAt.w_board (h : GameAt C H A m) (l : List Int) : GameAt C (upd H A.board (.lst (vI l))) A { m with board := l } := h.write (j := 4) (o := .lst (vI m.board)) rfl (fun xs z => nomatch z) rfl rfl rfl
theorem own_lost (A : GA) : A.lost ∈ A.own := by simp [GA.own]
theorem own_points (A : GA) : A.points ∈ A.own := by simp [GA.own]
theorem own_bag (A : GA) : A.bag ∈ A.own := by simp [GA.own]
theorem own_board (A : GA) : A.board ∈ A.own := by simp [GA.own]
end
/-- a game that can go on -/
def sp_is_played_out (K : PySem.W.Frag) (Z : ZA) : Sp := fun vs H Q _ => ∃ (A : GA) (m : G), vs = [.ref A.g] ∧ GameAt Z.C H A m ∧ GOk m ∧ Says H Q (.bl (playedOut m))
theorem h_is_played_out (T : Txt K mg Z) (F : FunAt K mg "is_played_out" s_is_played_out P_is_played_out) : Has P w K mg base "is_played_out" 1 P_is_played_out (sp_is_played_out K Z) := by
  refine F.has sc_is_played_out (fun vs H Q E h => ?_) (fun f cdv A outer s H vs Q E hr h => ?_)
  · obtain ⟨A, m, rfl, _⟩ := h
    rfl
  · obtain ⟨A', m, rfl, hg, ok, kk⟩ := h
    refine ⟨_, (pss_one (ps_ret (pe_and (pe_cmpR op_eq (pe_callB (cr_sumK (K := K) rfl rfl) rfl T.no_sum PyProof.Rows.boot_sum (pa_cons (pe_fldK (K := K) rfl (pv 0) rfl) pa_nil)) pe_int (nomark _)) (pe_one (pe_callB (cr_anyK (K := K) rfl rfl) rfl T.no_any PyProof.Rows.boot_any (pa_cons (pe_lc rfl sc_is_played_out.nd (pi_listK (K := K) rfl (pe_fldK (K := K) rfl (pv 0) rfl)) (show BlkOk N_is_played_out (defScope s_is_played_out) _ [("hand", 1)] from ⟨rfl, by decide +kernel, by decide +kernel, by decide +kernel, by decide +kernel⟩) (fun _ _ _ _ _ => (pg_name (i := 1) sc_is_played_out.nd rfl (Or.inl rfl))) (fun _ _ _ _ _ => pts_nil) (fun _ _ _ _ _ => (pe_cmpR op_eq (pe_callB (call_lenK (K := K) rfl) rfl T.no_len PySem.boot_len (pa_cons (pv 1) pa_nil)) pe_int (nomark _)))) pa_nil)))))), ?_⟩
    walk_at "rd"
    simp only [fl_rows T hg, fl_players T hg, fl_worths T hg, fl_bag T hg, fl_squares T hg, fl_board T hg, fl_hands T hg, fl_points T hg, fl_lost T hg, fl_words T hg, fl_phase T hg, fl_turn T hg, fl_due T hg, fl_aside T hg, fl_laid T hg, fl_down T hg, fl_counted T hg, fl_idle T hg]
    refine ⟨_, rfl, m.bag.map (fun (k : Nat) => (k : Int)), by rw [← vN_vI]; exact SqL.of hg.l_bag, ?_⟩
    rw [sum_cast]
    unfold playedOut at kk
    by_cases hb : m.bag.sum = 0
    · rw [if_pos (by omega)]
      have hR := hg.rows
      have hlen := hR.len
      have e4 := ok.hl
      have e5 := ok.p4
      refine ⟨_, rfl, ⟨_, SqL.of hg.l_hands⟩, lc_L (xs := A'.hs.map V.ref) (fun _ => true) (onRow H fun h => .bl h.isEmpty) (SqL.of hg.l_hands) (by rw [List.length_map]; exact sz (by omega)) (fun i x H2 Ry Rn hx sm2 hy hn2 => ?_) (fun D H2 hD sm2 hH2 => ?_)⟩
      · rw [List.getElem?_map] at hx
        obtain ⟨c, hc, rfl⟩ := Option.map_eq_some_iff.mp hx
        obtain ⟨hd, hdm, hcr⟩ := pair_at hR c (List.mem_of_getElem? hc)
        walk_at "rd"
        refine ⟨_, .inl (SqL.of (sm2 _ _ hcr)), ?_⟩
        have := hy rfl H2 (Same.refl _)
        rw [onRow_at hcr] at this
        have e : decide (((vN hd).length : Int) = 0) = hd.isEmpty := by
          cases hd with
          | nil => rfl
          | cons a l => simp; omega
        rw [e]
        exact this
      · rw [out_rows hR] at hH2
        refine ⟨D, rfl, m.hands.map List.isEmpty, by rw [List.map_map]; exact SqL.of hH2, ?_⟩
        have := kk H2 sm2
        rw [decide_eq_true hb, Bool.true_and] at this
        rw [List.any_map]
        exact this
    · rw [if_neg (by omega)]
      have := kk H (Same.refl _)
      rw [decide_eq_false hb, Bool.false_and] at this
      exact this
def sp_end_game (Z : ZA) : Sp := fun vs H Q _ => ∃ (A : GA) (m : G), vs = [.ref A.g] ∧ GameAt Z.C H A m ∧ GOk m ∧ GivesA Z.C H A (endGame m) Q .non
theorem h_end_game (T : Txt K mg Z) (F : FunAt K mg "end_game" s_end_game P_end_game) : Has P w K mg base "end_game" 1 P_end_game (sp_end_game Z) := by
  refine F.has sc_end_game (fun vs H Q E h => ?_) (fun f cdv A outer s H vs Q E hr h => ?_)
  · obtain ⟨A, m, rfl, _⟩ := h
    rfl
  · obtain ⟨A', m, rfl, hg, ok, kk⟩ := h
    refine ⟨_, (pss_cons (ps_setLc (i := 1) rfl sc_end_game.nd rfl rfl (sw_true rfl rfl rfl rfl) (pi_listK (K := K) rfl (pe_fldK (K := K) rfl (pv 0) rfl)) (show BlkOk N_end_game (defScope s_end_game) _ [("hand", 3)] from ⟨rfl, by decide +kernel, by decide +kernel, by decide +kernel, by decide +kernel⟩) (fun _ _ _ _ _ => (pg_name (i := 3) sc_end_game.nd rfl (Or.inl rfl))) (fun _ _ _ _ _ => pts_nil) (fun _ _ _ _ _ => (pe_callB (cr_sumK (K := K) rfl rfl) rfl T.no_sum PyProof.Rows.boot_sum (pa_cons (pe_lc rfl sc_end_game.nd (pi_listK (K := K) rfl (pv 3)) (show BlkOk N_end_game (relS _ (defScope s_end_game)) _ [("tile", 2)] from ⟨rfl, by decide +kernel, by decide +kernel, by decide +kernel, by decide +kernel⟩) (fun _ _ _ _ _ => (pg_name (i := 2) sc_end_game.nd rfl (Or.inl rfl))) (fun _ _ _ _ _ => pts_nil) (fun _ _ _ _ _ => (pe_ix (ix_listK (K := K) rfl) (pe_fldK (K := K) rfl (pv 0) rfl) (pv 2) (fun _ _ => rfl)))) pa_nil))))
      (pss_cons (ps_for PassesOwn.never rfl (pi_range1 rfl T.no_range (pa_cons (pe_fldK (K := K) rfl (pv 0) rfl) pa_nil)) (pg_name (i := 4) sc_end_game.nd rfl (Or.inl rfl)) (pss_one (ps_if (pt_cmpR op_eq (pe_callB (call_lenK (K := K) rfl) rfl T.no_len PySem.boot_len (pa_cons (pe_ix (ix_listK (K := K) rfl) (pe_fldK (K := K) rfl (pv 0) rfl) (pv 4) (fun _ _ => rfl)) pa_nil)) pe_int (nomark _)) (pss_one (ps_augS (pe_fldK (K := K) rfl (pv 0) rfl) (pv 4) (get_listK (K := K) rfl) (pe_callB (cr_sumK (K := K) rfl rfl) rfl T.no_sum PyProof.Rows.boot_sum (pa_cons (pv 1) pa_nil)) ip_add set_list)) (pss_one (ps_augS (pe_fldK (K := K) rfl (pv 0) rfl) (pv 4) (get_listK (K := K) rfl) (pe_ix (ix_listK (K := K) rfl) (pv 1) (pv 4) (fun _ _ => rfl)) ip_sub set_list)))))
      (pss_cons (ps_fld (pv 0) (pe_gl T.c_OVER rfl) rfl)
      (pss_cons (ps_fld (pv 0) pe_int rfl)
      (pss_one (ps_fld (pv 0) pe_int rfl)))))), ?_⟩
    walk_at "rd"
    simp only [fl_rows T hg, fl_players T hg, fl_worths T hg, fl_bag T hg, fl_squares T hg, fl_board T hg, fl_hands T hg, fl_points T hg, fl_lost T hg, fl_words T hg, fl_phase T hg, fl_turn T hg, fl_due T hg, fl_aside T hg, fl_laid T hg, fl_down T hg, fl_counted T hg, fl_idle T hg]
    have hR := hg.rows
    have hlen := hR.len
    have e4 := ok.hl
    have e5 := ok.p4
    have e6 := ok.pl
    refine ⟨_, rfl, ⟨_, SqL.of hg.l_hands⟩, lc_L (xs := A'.hs.map V.ref) (fun _ => true) (onRow H fun h => .int (hw m.worths h : Nat)) (SqL.of hg.l_hands) (by rw [List.length_map]; exact sz (by omega)) (fun i x H2 Ry Rn hx sm2 hy hn2 => ?_) (fun D H2 hD sm2 hH2 => ?_)⟩
    · rw [List.getElem?_map] at hx
      obtain ⟨c, hc, rfl⟩ := Option.map_eq_some_iff.mp hx
      obtain ⟨hd, hdm, hcr⟩ := pair_at hR c (List.mem_of_getElem? hc)
      have hdo := ok.hd hd hdm
      walk_at "rd"
      refine ⟨⟨_, SqL.of (sm2 _ _ hcr)⟩, lc_L (xs := vN hd) (fun _ => true) (onN fun x => .int (m.worths.getD x 0 : Nat)) (SqL.of (sm2 _ _ hcr)) (by simp; exact sz (by omega)) (fun i' x' H3 Ry' Rn' hx' sm3 hy' hn3 => ?_) (fun D' H3 hD' sm3 hH3 => ?_)⟩
      · obtain ⟨k, hk, rfl, hkm⟩ := vN_item hx'
        have hg3 := hg.same (sm2.trans sm3)
        walk_at "rd"
        rw [fl_worths T hg3]
        refine ixl_of (SqL.of hg3.l_worths) rfl (vN_at (by have := hdo.2 k hkm; have := ok.wl; omega)) ?_
        exact hy' rfl H3 (Same.refl _)
      · rw [out_N] at hH3
        refine ⟨D', rfl, hd.map (fun x => ((m.worths.getD x 0 : Nat) : Int)), by rw [List.map_map]; exact SqL.of hH3, ?_⟩
        have := hy rfl H3 sm3
        rw [onRow_at hcr] at this
        rw [cast_sum]
        exact this
    · rw [out_rows hR] at hH2
      have hg2 := hg.same sm2
      have hDo : ∀ b ∈ A'.own, b ≠ D := fun b hb e => by
        subst e
        rw [← cells_own (C := Z.C) hg.hl] at hb
        obtain ⟨p, hp, rfl⟩ := List.mem_map.mp hb
        rw [hg.at_ p hp] at hD
        cases hD
      have hDn : D ∉ A'.own := fun z => hDo D z rfl
      rw [fl_players T hg2]
      let new : List Int := List.zipWith (fun p (h : List Nat) => if h = [] then p + (((m.hands.map (hw m.worths)).sum : Nat) : Int) else p - ((hw m.worths h : Nat) : Int)) m.points m.hands
      have hnl : new.length = m.players := by simp [new, e6, e4]
      refine ⟨_, rfl, by omega, by omega, fr_R' (fun i σ H' => ∃ v4 : Option V, σ = [some (V.ref A'.g), some (V.ref D), none, none, v4] ∧ H' D = some (.lst (m.hands.map fun h => .int (hw m.worths h : Nat))) ∧ Keep H H' A'.own ∧ GameAt Z.C H' A' { m with points := new.take i ++ m.points.drop i })
        ⟨none, rfl, hH2, same_keep sm2 _, hg2⟩ ?_ ?_⟩
      · rintro i σ H' hi ⟨v4, rfl, hHD, kH, hgi⟩ N hN
        have hi' : i < m.players := by simpa using hi
        obtain ⟨hd, ehd⟩ : ∃ hd, m.hands[i]? = some hd := ⟨m.hands[i]'(by omega), List.getElem?_eq_getElem (by omega)⟩
        obtain ⟨c, hc, hcr⟩ := hgi.l_hand ehd
        have epi : m.points[i]? = some (m.points.getD i 0) := by rw [List.getD_eq_getElem?_getD, List.getElem?_eq_getElem (by omega)]; rfl
        have eni : new[i]? = some (if hd = [] then m.points.getD i 0 + (((m.hands.map (hw m.worths)).sum : Nat) : Int) else m.points.getD i 0 - ((hw m.worths hd : Nat) : Int)) := by
          simp only [new]
          rw [List.getElem?_zipWith, epi, ehd]
        have elen : (new.take i).length = i := by rw [List.length_take]; omega
        have eat : (new.take i ++ m.points.drop i)[i]? = some (m.points.getD i 0) := by
          rw [List.getElem?_append_right (by omega), elen, Nat.sub_self, List.getElem?_drop, Nat.add_zero, epi]
        have estep : ∀ z, new[i]? = some z → (new.take i ++ m.points.drop i).set i z = new.take (i + 1) ++ m.points.drop (i + 1) := fun z hz => by
          rw [List.set_append_right _ _ (by omega), elen, Nat.sub_self, take_succ_of hz, List.append_assoc]
          congr 1
          have e7 : m.points.drop i = m.points.getD i 0 :: m.points.drop (i + 1) := by
            rw [List.drop_eq_getElem_cons (by omega), List.getD_eq_getElem?_getD, List.getElem?_eq_getElem (by omega)]; rfl
          rw [e7]; rfl
        have ez : ((0 : Int) + (i : Int)).toNat = i := by omega
        have store : ∀ z : Int, new[i]? = some z → rSetL (V.ref A'.points) (V.int (0 + (i : Int))) (V.int z) H' (fun H6 => N [some (V.ref A'.g), some (V.ref D), none, none, some (V.int (0 + (i : Int)))] H6) := fun z hz => by
          have e8 : (0 + (i : Int)) = (i : Int) := by omega
          rw [e8]
          refine setl_of (k := i) hgi.l_points (by simp [elen]; omega) ?_
          rw [vI_set, estep z hz]
          refine hN _ _ ⟨_, rfl, ?_, kH.trans' (Keep.upd (own_points A')), hgi.w_points _⟩
          rw [upd_ne (fun e => hDo _ (own_points A') e.symm)]; exact hHD
        have getp : ∀ Q' : VK, Q' (.int (m.points.getD i 0)) H' → rGetL K (V.ref A'.points) (V.int (0 + (i : Int))) H' Q' := fun Q' q => ⟨_, _, _, _, rfl, rfl, SqL.of hgi.l_points, by omega, by rw [ez]; exact vI_get eat, q⟩
        walk_at "rd"
        simp only [fl_rows T hgi, fl_players T hgi, fl_worths T hgi, fl_bag T hgi, fl_squares T hgi, fl_board T hgi, fl_hands T hgi, fl_points T hgi, fl_lost T hgi, fl_words T hgi, fl_phase T hgi, fl_turn T hgi, fl_due T hgi, fl_aside T hgi, fl_laid T hgi, fl_down T hgi, fl_counted T hgi, fl_idle T hgi]
        refine ixl_of (k := i) (SqL.of hgi.l_hands) (by omega) (by rw [List.getElem?_map, hc]; rfl) ?_
        walk_at "rd"
        refine ⟨_, .inl (SqL.of hcr), ?_⟩
        simp only [fl_rows T hgi, fl_players T hgi, fl_worths T hgi, fl_bag T hgi, fl_squares T hgi, fl_board T hgi, fl_hands T hgi, fl_points T hgi, fl_lost T hgi, fl_words T hgi, fl_phase T hgi, fl_turn T hgi, fl_due T hgi, fl_aside T hgi, fl_laid T hgi, fl_down T hgi, fl_counted T hgi, fl_idle T hgi]
        by_cases he : hd = []
        · rw [if_pos (by subst he; rfl)]
          rw [if_pos he] at eni
          refine getp _ ⟨m.hands.map (fun h => ((hw m.worths h : Nat) : Int)), by rw [List.map_map]; exact SqL.of hHD, _, rfl, ?_⟩
          rw [cast_sum]
          exact store _ eni
        · rw [if_neg (by cases hd with | nil => exact absurd rfl he | cons a l => simp; omega)]
          rw [if_neg he] at eni
          refine getp _ (ixl_of (k := i) (SqL.of hHD) (by omega) (by rw [List.getElem?_map, ehd]; rfl) ?_)
          walk_at "rd"
          exact store _ eni
      · rintro σ H' ⟨v4, rfl, hHD, kH, hgi⟩
        have e9 : (m.players : Int).toNat = m.players := by omega
        have e10 : new.take m.players ++ m.points.drop m.players = new := by
          rw [List.take_of_length_le (by omega), List.drop_of_length_le (by omega), List.append_nil]
        rw [e9, e10] at hgi
        walk_at "rd"
        exact sf_phase (k := 3) T hgi rfl fun H3 hg3 k3 => sf_turn (k := 0) T hg3 rfl fun H4 hg4 k4 => sf_due (k := 0) T hg4 rfl fun H5 hg5 k5 => kk H5 hg5 (((kH.trans' k3).trans' k4).trans' k5)
def sp_go_to_next (Z : ZA) : Sp := fun vs H Q _ => ∃ (A : GA) (m : G), vs = [.ref A.g] ∧ GameAt Z.C H A m ∧ GOk m ∧ m.idle < 6 ∧ GivesA Z.C H A (goNext m) Q .non
theorem h_go_to_next (T : Txt K mg Z) (F : FunAt K mg "go_to_next" s_go_to_next P_go_to_next) (h_end_game : Has P w K mg base "end_game" 1 P_end_game (sp_end_game Z)) (h_await_play : Has P w K mg base "await_play" 1 P_await_play (sp_await_play Z)) : Has P w K mg base "go_to_next" 2 P_go_to_next (sp_go_to_next Z) := by
  refine F.has sc_go_to_next (fun vs H Q E h => ?_) (fun f cdv A outer s H vs Q E hr h => ?_)
  · obtain ⟨A, m, rfl, _⟩ := h
    rfl
  · obtain ⟨A', m, rfl, hg, ok, hi, kk⟩ := h
    refine ⟨_, (pss_cons (ps_fld (pv 0) (pe_op op_mod (pe_op op_add (pe_fldK (K := K) rfl (pv 0) rfl) pe_int) (pe_fldK (K := K) rfl (pv 0) rfl)) rfl)
      (pss_cons (ps_while PassesOwn.never (pt_cmpR op_eq (pe_ix (ix_listK (K := K) rfl) (pe_fldK (K := K) rfl (pv 0) rfl) (pe_fldK (K := K) rfl (pv 0) rfl) (fun _ _ => rfl)) pe_int (nomark _)) (pss_cons (ps_asg pe_int (pg_sub (pe_fldK (K := K) rfl (pv 0) rfl) (pe_fldK (K := K) rfl (pv 0) rfl) set_list))
      (pss_cons (ps_fldaug (pv 0) pe_int in_add)
      (pss_cons (ps_if (pt_cmpR op_ge (pe_fldK (K := K) rfl (pv 0) rfl) (pe_gl T.c_IDLE_LIMIT rfl) (nomark _)) (pss_cons (ps_expr (pe_own h_end_game (hr.mono (by decide)) rfl (pa_cons (pv 0) pa_nil)))
      (pss_one ps_retN)) pss_nil)
      (pss_one (ps_fld (pv 0) (pe_op op_mod (pe_op op_add (pe_fldK (K := K) rfl (pv 0) rfl) pe_int) (pe_fldK (K := K) rfl (pv 0) rfl)) rfl))))))
      (pss_one (ps_expr (pe_own h_await_play (hr.mono (by decide)) rfl (pa_cons (pv 0) pa_nil)))))), ?_⟩
    walk_at "rd"
    simp only [fl_rows T hg, fl_players T hg, fl_worths T hg, fl_bag T hg, fl_squares T hg, fl_board T hg, fl_hands T hg, fl_points T hg, fl_lost T hg, fl_words T hg, fl_phase T hg, fl_turn T hg, fl_due T hg, fl_aside T hg, fl_laid T hg, fl_down T hg, fl_counted T hg, fl_idle T hg]
    have htn := ok.turn
    have nxt : ∀ t : Nat, (((t : Int) + 1) % (m.players : Int)) = (((t + 1) % m.players : Nat) : Int) := fun t => by simp
    refine ⟨_, rfl, _, rfl, by omega, sf_turn (k := (m.turn + 1) % m.players) T hg (nxt _) fun H3 hg3 k3 => ?_⟩
    refine wh_of (fun fuel σ H' => ∃ (mm : G) (f' : Nat), σ = [some (V.ref A'.g)] ∧ GameAt Z.C H' A' mm ∧ Keep H H' A'.own ∧ GOk mm ∧ mm.players = m.players ∧ fuel = 6 - mm.idle ∧ mm.idle < 6 ∧ 6 ≤ f' + mm.idle ∧ goLoop f' mm = goNext m) (6 - m.idle)
      ⟨_, 6, rfl, hg3, k3, ⟨ok.wl, ok.hd, ok.hl, ok.pl, ok.ll, Nat.mod_lt _ (by omega), ok.p4⟩, rfl, rfl, hi, by show 6 ≤ 6 + m.idle; omega, rfl⟩ ?_
    rintro fuel σ H' ⟨mm, f', rfl, hgm, km, okm, hpm, rfl, him, hf, hgo⟩ Pv' hP
    obtain ⟨f'', rfl⟩ : ∃ f'', f' = f'' + 1 := ⟨f' - 1, by omega⟩
    have htm := okm.turn
    have hll := okm.ll
    walk_at "rd"
    simp only [fl_rows T hgm, fl_players T hgm, fl_worths T hgm, fl_bag T hgm, fl_squares T hgm, fl_board T hgm, fl_hands T hgm, fl_points T hgm, fl_lost T hgm, fl_words T hgm, fl_phase T hgm, fl_turn T hgm, fl_due T hgm, fl_aside T hgm, fl_laid T hgm, fl_down T hgm, fl_counted T hgm, fl_idle T hgm]
    refine ixl_of (SqL.of hgm.l_lost) rfl (vN_at (by omega)) ?_
    walk_at "rd"
    unfold goLoop at hgo
    by_cases hl1 : mm.lost.getD mm.turn 0 = 1
    · rw [if_pos (by omega)]
      rw [if_pos hl1] at hgo
      refine ⟨fun σ' H4 => ∃ m', m' < 6 - mm.idle ∧ Pv' m' σ' H4, fun _ _ q => q, ?_⟩
      simp only [fl_rows T hgm, fl_players T hgm, fl_worths T hgm, fl_bag T hgm, fl_squares T hgm, fl_board T hgm, fl_hands T hgm, fl_points T hgm, fl_lost T hgm, fl_words T hgm, fl_phase T hgm, fl_turn T hgm, fl_due T hgm, fl_aside T hgm, fl_laid T hgm, fl_down T hgm, fl_counted T hgm, fl_idle T hgm]
      refine setl_of (k := mm.turn) hgm.l_lost (by simp; omega) ?_
      have e0 : (vN mm.lost).set mm.turn (V.int 0) = vN (mm.lost.set mm.turn 0) := vN_set mm.lost mm.turn 0
      rw [e0]
      have hg4 := hgm.w_lost (mm.lost.set mm.turn 0)
      have k4 : Keep H (upd H' A'.lost (.lst (vN (mm.lost.set mm.turn 0)))) A'.own := km.trans' (Keep.upd (own_lost A'))
      refine af_idle (j := 1) T hg4 fun H5 hg5 k5 => ?_
      have k6 := k4.trans' k5
      have ok5 : GOk { mm with lost := mm.lost.set mm.turn 0, idle := mm.idle + 1 } := ⟨okm.wl, okm.hd, okm.hl, okm.pl, by show (mm.lost.set mm.turn 0).length = _; rw [List.length_set]; exact okm.ll, okm.turn, okm.p4⟩
      walk_at "rd"
      simp only [fl_rows T hg5, fl_players T hg5, fl_worths T hg5, fl_bag T hg5, fl_squares T hg5, fl_board T hg5, fl_hands T hg5, fl_points T hg5, fl_lost T hg5, fl_words T hg5, fl_phase T hg5, fl_turn T hg5, fl_due T hg5, fl_aside T hg5, fl_laid T hg5, fl_down T hg5, fl_counted T hg5, fl_idle T hg5]
      walk_at "rd"
      by_cases h6 : 6 ≤ mm.idle + 1
      · rw [if_pos (by simp; omega)]
        rw [if_pos h6] at hgo
        refine ⟨A', _, rfl, hg5, ok5, fun H6 hg6 k7 => ?_⟩
        rw [← hgo] at kk
        exact kk H6 hg6 (k6.trans' k7)
      · rw [if_neg (by simp; omega)]
        rw [if_neg h6] at hgo
        refine ⟨by show (0 : Int) < (mm.players : Int); omega, sf_turn (k := (mm.turn + 1) % mm.players) T hg5 (by simp) fun H6 hg6 k7 => ?_⟩
        exact ⟨6 - (mm.idle + 1), by omega, hP _ _ _ ⟨_, f'', rfl, hg6, k6.trans' k7, ⟨ok5.wl, ok5.hd, ok5.hl, ok5.pl, ok5.ll, Nat.mod_lt _ (by omega), ok5.p4⟩, hpm, rfl, by show mm.idle + 1 < 6; omega, by show 6 ≤ f'' + (mm.idle + 1); omega, hgo⟩⟩
    · rw [if_neg (by omega)]
      rw [if_neg hl1] at hgo
      refine ⟨A', _, rfl, hgm, fun H4 hg4 k4 => ?_⟩
      rw [← hgo] at kk
      exact kk H4 hg4 (km.trans' k4)
def sp_end_turn (Z : ZA) : Sp := fun vs H Q _ => ∃ (A : GA) (m : G) (c : Nat), vs = [.ref A.g, .int (c : Int)] ∧ GameAt Z.C H A m ∧ GOk m ∧ GivesA Z.C H A (endTurn m c) Q .non
theorem h_end_turn (T : Txt K mg Z) (F : FunAt K mg "end_turn" s_end_turn P_end_turn) (h_end_game : Has P w K mg base "end_game" 1 P_end_game (sp_end_game Z)) (h_go_to_next : Has P w K mg base "go_to_next" 2 P_go_to_next (sp_go_to_next Z)) (h_is_played_out : Has P w K mg base "is_played_out" 1 P_is_played_out (sp_is_played_out K Z)) : Has P w K mg base "end_turn" 3 P_end_turn (sp_end_turn Z) := by
  refine F.has sc_end_turn (fun vs H Q E h => ?_) (fun f cdv A outer s H vs Q E hr h => ?_)
  · obtain ⟨A, m, c, rfl, _⟩ := h
    rfl
  · obtain ⟨A', m, c, rfl, hg, ok, kk⟩ := h
    refine ⟨_, (pss_cons (ps_fld (pv 0) (pe_ifExp (pt_cmpR op_gt (pv 1) pe_int (nomark _)) pe_int (pe_op op_add (pe_fldK (K := K) rfl (pv 0) rfl) pe_int)) rfl)
      (pss_cons (ps_if (PW.pt (pw_or (pt_cmpR op_ge (pe_fldK (K := K) rfl (pv 0) rfl) (pe_gl T.c_IDLE_LIMIT rfl) (nomark _)) (pw_or1 (pt_val (pe_own h_is_played_out (hr.mono (by decide)) rfl (pa_cons (pv 0) pa_nil)))))) (pss_cons (ps_expr (pe_own h_end_game (hr.mono (by decide)) rfl (pa_cons (pv 0) pa_nil)))
      (pss_one ps_retN)) pss_nil)
      (pss_one (ps_expr (pe_own h_go_to_next (hr.mono (by decide)) rfl (pa_cons (pv 0) pa_nil)))))), ?_⟩
    walk_at "rd"
    simp only [fl_rows T hg, fl_players T hg, fl_worths T hg, fl_bag T hg, fl_squares T hg, fl_board T hg, fl_hands T hg, fl_points T hg, fl_lost T hg, fl_words T hg, fl_phase T hg, fl_turn T hg, fl_due T hg, fl_aside T hg, fl_laid T hg, fl_down T hg, fl_counted T hg, fl_idle T hg]
    have fin : ∀ (i' : Nat) (H3 : Hp), GameAt Z.C H3 A' { m with idle := i' } → Keep H H3 A'.own → GivesA Z.C H A' (endT { m with idle := i' }) Q .non →
        (if 6 ≤ (i' : Int) then sp_end_game Z [V.ref A'.g] H3 (fun x H1 => Q V.non H1) E0
          else sp_is_played_out K Z [V.ref A'.g] H3 (fun x H1 => ∃ c, x = V.bl c ∧ if c = true then sp_end_game Z [V.ref A'.g] H1 (fun x H1 => Q V.non H1) E0 else sp_go_to_next Z [V.ref A'.g] H1 (fun x H1 => Q V.non H1) E0) E0) := by
      intro i' H3 hg3 k3 kk
      have ok3 : GOk { m with idle := i' } := ⟨ok.wl, ok.hd, ok.hl, ok.pl, ok.ll, ok.turn, ok.p4⟩
      unfold endT at kk
      by_cases h6 : 6 ≤ i'
      · rw [if_pos (by omega)]
        rw [if_pos (.inl h6)] at kk
        exact ⟨A', _, rfl, hg3, ok3, fun H4 hg4 k4 => kk H4 hg4 (k3.trans' k4)⟩
      · rw [if_neg (by omega)]
        refine ⟨A', _, rfl, hg3, ok3, fun H4 sm4 => ⟨_, rfl, ?_⟩⟩
        have hg4 := hg3.same sm4
        have k4 : Keep H H4 A'.own := k3.trans' (same_keep sm4 _)
        by_cases hp : playedOut { m with idle := i' } = true
        · rw [if_pos hp]
          rw [if_pos (.inr hp)] at kk
          exact ⟨A', _, rfl, hg4, ok3, fun H5 hg5 k5 => kk H5 hg5 (k4.trans' k5)⟩
        · rw [if_neg hp]
          rw [if_neg (fun z => z.elim h6 hp)] at kk
          exact ⟨A', _, rfl, hg4, ok3, (by show i' < 6; omega), fun H5 hg5 k5 => kk H5 hg5 (k4.trans' k5)⟩
    rw [endTurn_eq] at kk
    by_cases hc : 0 < c
    · rw [if_pos (by omega)]
      rw [if_pos hc] at kk
      refine sf_idle (k := 0) T hg rfl fun H3 hg3 k3 => ?_
      rw [fl_idle T hg3]
      exact ⟨_, rfl, fin 0 H3 hg3 k3 kk⟩
    · rw [if_neg (by omega)]
      rw [if_neg hc] at kk
      refine ⟨_, rfl, sf_idle (k := m.idle + 1) T hg (by simp) fun H3 hg3 k3 => ?_⟩
      rw [fl_idle T hg3]
      exact ⟨_, rfl, fin (m.idle + 1) H3 hg3 k3 kk⟩
end
section
variable {P : Program} {w : World} {K : PySem.W.Frag} {mg : Str → Option Value} {base : Heap} {Z : ZA} {H : Hp} {A : GA} {m m' : G} {Q : VK} {R : Hp → Prop}
theorem vI_nats {l : List Int} (h : ∀ z ∈ l, 0 ≤ z) : vI l = vN (Kg82.nats l) := by
  induction l with
  | nil => rfl
  | cons z l ih =>
    have hz := h z (by simp)
    show V.int z :: vI l = V.int (z.toNat : Int) :: vN (Kg82.nats l)
    rw [ih fun y hy => h y (List.mem_cons_of_mem _ hy), show ((z.toNat : Nat) : Int) = z by omega]
theorem count_cast (k : Nat) : ∀ l : List Nat, (l.map fun (k : Nat) => (k : Int)).count (k : Int) = l.count k
  | [] => rfl
  | a :: l => by
    rw [List.map_cons, List.count_cons, List.count_cons, count_cast k l]
    congr 1
    by_cases h : a = k
    · subst h; simp
    · have h1 : ¬ (a : Int) = (k : Int) := by omega
      simp [h, h1]
theorem cnt_of {p : Addr} {l : List Nat} {k : Nat} {z : Int} (h : SqL K H p (vN l)) (hz : z = (k : Int)) (q : Q (.int (l.count k : Nat)) H) : tyV K "list" (.ref p) H ∧ rCount K (.ref p) [.int z] H Q := by
  subst hz
  refine ⟨.inl ⟨rfl, _, h⟩, p, l.map (fun (k : Nat) => (k : Int)), k, rfl, rfl, by rw [← vN_vI]; exact h, ?_⟩
  rw [count_cast]; exact q
def sp_all_within (K : PySem.W.Frag) : Sp := fun vs H Q _ => ∃ (a : Addr) (l : List Int) (lo hi : Int), vs = [.ref a, .int lo, .int hi] ∧ SqL K H a (vI l) ∧ l.length ≤ 1000 ∧ Says H Q (.bl (l.all fun z => Kg82.within z lo hi))
theorem h_all_within (T : Txt K mg Z) (F : FunAt K mg "all_within" s_all_within P_all_within) : Has P w K mg base "all_within" 1 P_all_within (sp_all_within K) := by
  refine F.has sc_all_within (fun vs H Q E h => ?_) (fun f cdv A outer s H vs Q E hr h => ?_)
  · obtain ⟨a, l, lo, hi, rfl, _⟩ := h
    rfl
  · obtain ⟨a, l, lo, hi, rfl, ha, hl, kk⟩ := h
    refine ⟨_, (pss_one (ps_ret (pe_callB (cr_allK (K := K) rfl rfl) rfl T.no_all PyProof.Rows.boot_all (pa_cons (pe_lc rfl sc_all_within.nd (pi_listK (K := K) rfl (pv 0)) (show BlkOk N_all_within (defScope s_all_within) _ [("number", 3)] from ⟨rfl, by decide +kernel, by decide +kernel, by decide +kernel, by decide +kernel⟩) (fun _ _ _ _ _ => (pg_name (i := 3) sc_all_within.nd rfl (Or.inl rfl))) (fun _ _ _ _ _ => pts_nil) (fun _ _ _ _ _ => (pe_chain op_le op_le (pv 1) (pv 3) (pv 2)))) pa_nil)))), ?_⟩
    walk_at "rd"
    refine ⟨⟨_, ha⟩, lc_L (xs := vI l) (fun _ => true) (onI fun z => .bl (Kg82.within z lo hi)) ha (by simp; exact sz hl) (fun i x H2 Ry Rn hx sm2 hy hn2 => ?_) (fun D H2 hD sm2 hH2 => ?_)⟩
    · obtain ⟨z, hz, rfl, hzm⟩ := vI_item hx
      walk_at "rd"
      have := hy rfl H2 (Same.refl _)
      unfold onI Kg82.within at this
      by_cases h1 : lo ≤ z
      · rw [if_pos h1]
        simpa [h1] using this
      · rw [if_neg h1]
        simpa [h1] using this
    · rw [out_I] at hH2
      refine ⟨D, rfl, l.map fun z => Kg82.within z lo hi, by rw [List.map_map]; exact SqL.of hH2, ?_⟩
      have := kk H2 sm2
      rw [List.all_map]
      exact this
def sp_is_in_hand (K : PySem.W.Frag) : Sp := fun vs H Q _ => ∃ (a t : Addr) (hand l : List Nat), vs = [.ref a, .ref t] ∧ SqL K H a (vN hand) ∧ SqL K H t (vN l) ∧ l.length ≤ 1000 ∧ Says H Q (.bl (inHandAll hand l))
theorem h_is_in_hand (T : Txt K mg Z) (F : FunAt K mg "is_in_hand" s_is_in_hand P_is_in_hand) : Has P w K mg base "is_in_hand" 1 P_is_in_hand (sp_is_in_hand K) := by
  refine F.has sc_is_in_hand (fun vs H Q E h => ?_) (fun f cdv A outer s H vs Q E hr h => ?_)
  · obtain ⟨a, t, hand, l, rfl, _⟩ := h
    rfl
  · obtain ⟨a, t, hand, l, rfl, ha, ht, hl, kk⟩ := h
    refine ⟨_, (pss_one (ps_ret (pe_callB (cr_allK (K := K) rfl rfl) rfl T.no_all PyProof.Rows.boot_all (pa_cons (pe_lc rfl sc_is_in_hand.nd (pi_listK (K := K) rfl (pv 1)) (show BlkOk N_is_in_hand (defScope s_is_in_hand) _ [("tile", 2)] from ⟨rfl, by decide +kernel, by decide +kernel, by decide +kernel, by decide +kernel⟩) (fun _ _ _ _ _ => (pg_name (i := 2) sc_is_in_hand.nd rfl (Or.inl rfl))) (fun _ _ _ _ _ => pts_nil) (fun _ _ _ _ _ => (pe_cmpR op_le (pe_bmK (K := K) rfl PySem.F.plainAttrs_list PySem.F.slot_list_count PySem.F.type_list_count (mt_countK (K := K) rfl) (pv 1) (pa_cons (pv 2) pa_nil)) (pe_bmK (K := K) rfl PySem.F.plainAttrs_list PySem.F.slot_list_count PySem.F.type_list_count (mt_countK (K := K) rfl) (pv 0) (pa_cons (pv 2) pa_nil)) (nomark _)))) pa_nil)))), ?_⟩
    walk_at "rd"
    refine ⟨⟨_, ht⟩, lc_L (xs := vN l) (fun _ => true) (onN fun x => .bl (decide (l.count x ≤ hand.count x))) ht (by simp; exact sz hl) (fun i x H2 Ry Rn hx sm2 hy hn2 => ?_) (fun D H2 hD sm2 hH2 => ?_)⟩
    · obtain ⟨k, hk, rfl, hkm⟩ := vN_item hx
      simp only [gName, tYes, tBM, tOp, tCons, tNil, tVar, wipe, if_true, List.getElem?_cons_zero, List.getElem?_cons_succ, List.set_cons_zero, List.set_cons_succ, Option.some.injEq, exists_eq_left', true_and]
      refine cnt_of (SqL.same sm2 ht) rfl (cnt_of (SqL.same sm2 ha) rfl ?_)
      walk_at "rd"
      have := hy rfl H2 (Same.refl _)
      have e : decide (((l.count k : Nat) : Int) ≤ ((hand.count k : Nat) : Int)) = decide (l.count k ≤ hand.count k) := by
        apply decide_eq_decide.mpr
        omega
      rw [e]
      exact this
    · rw [out_N] at hH2
      refine ⟨D, rfl, l.map fun x => decide (l.count x ≤ hand.count x), by rw [List.map_map]; exact SqL.of hH2, ?_⟩
      have := kk H2 sm2
      unfold inHandAll at this
      rw [List.all_map]
      exact this
def sp_is_in_bag (K : PySem.W.Frag) : Sp := fun vs H Q _ => ∃ (a t : Addr) (bag l : List Nat), vs = [.ref a, .ref t] ∧ SqL K H a (vN bag) ∧ SqL K H t (vN l) ∧ l.length ≤ 1000 ∧ (∀ x ∈ l, x < bag.length) ∧ Says H Q (.bl (inBagAll bag l))
theorem h_is_in_bag (T : Txt K mg Z) (F : FunAt K mg "is_in_bag" s_is_in_bag P_is_in_bag) : Has P w K mg base "is_in_bag" 1 P_is_in_bag (sp_is_in_bag K) := by
  refine F.has sc_is_in_bag (fun vs H Q E h => ?_) (fun f cdv A outer s H vs Q E hr h => ?_)
  · obtain ⟨a, t, bag, l, rfl, _⟩ := h
    rfl
  · obtain ⟨a, t, bag, l, rfl, ha, ht, hl, hb, kk⟩ := h
    refine ⟨_, (pss_one (ps_ret (pe_callB (cr_allK (K := K) rfl rfl) rfl T.no_all PyProof.Rows.boot_all (pa_cons (pe_lc rfl sc_is_in_bag.nd (pi_listK (K := K) rfl (pv 1)) (show BlkOk N_is_in_bag (defScope s_is_in_bag) _ [("tile", 2)] from ⟨rfl, by decide +kernel, by decide +kernel, by decide +kernel, by decide +kernel⟩) (fun _ _ _ _ _ => (pg_name (i := 2) sc_is_in_bag.nd rfl (Or.inl rfl))) (fun _ _ _ _ _ => pts_nil) (fun _ _ _ _ _ => (pe_cmpR op_le (pe_bmK (K := K) rfl PySem.F.plainAttrs_list PySem.F.slot_list_count PySem.F.type_list_count (mt_countK (K := K) rfl) (pv 1) (pa_cons (pv 2) pa_nil)) (pe_ix (ix_listK (K := K) rfl) (pv 0) (pv 2) (fun _ _ => rfl)) (nomark _)))) pa_nil)))), ?_⟩
    walk_at "rd"
    refine ⟨⟨_, ht⟩, lc_L (xs := vN l) (fun _ => true) (onN fun x => .bl (decide (l.count x ≤ bag.getD x 0))) ht (by simp; exact sz hl) (fun i x H2 Ry Rn hx sm2 hy hn2 => ?_) (fun D H2 hD sm2 hH2 => ?_)⟩
    · obtain ⟨k, hk, rfl, hkm⟩ := vN_item hx
      simp only [gName, tYes, tBM, tOp, tCons, tNil, tVar, wipe, if_true, List.getElem?_cons_zero, List.getElem?_cons_succ, List.set_cons_zero, List.set_cons_succ, Option.some.injEq, exists_eq_left', true_and]
      refine cnt_of (SqL.same sm2 ht) rfl (ixl_of (SqL.same sm2 ha) rfl (vN_at (hb k hkm)) ?_)
      walk_at "rd"
      have := hy rfl H2 (Same.refl _)
      have e : decide (((l.count k : Nat) : Int) ≤ ((bag.getD k 0 : Nat) : Int)) = decide (l.count k ≤ bag.getD k 0) := by
        apply decide_eq_decide.mpr
        omega
      rw [e]
      exact this
    · rw [out_N] at hH2
      refine ⟨D, rfl, l.map fun x => decide (l.count x ≤ bag.getD x 0), by rw [List.map_map]; exact SqL.of hH2, ?_⟩
      have := kk H2 sm2
      unfold inBagAll at this
      rw [List.all_map]
      exact this
def sp_is_game (K : PySem.W.Frag) : Sp := fun vs H Q _ => ∃ (n p : Int) (aw ab ae : Addr) (lw lb le : List Int), vs = [.int n, .int p, .ref aw, .ref ab, .ref ae] ∧ SqL K H aw (vI lw) ∧ SqL K H ab (vI lb) ∧ SqL K H ae (vI le) ∧ lw.length ≤ 1000 ∧ lb.length ≤ 1000 ∧ le.length ≤ 1000 ∧ Says H Q (.bl (isGame n p lw lb le))
theorem h_is_game (T : Txt K mg Z) (F : FunAt K mg "is_game" s_is_game P_is_game) (h_all_within : Has P w K mg base "all_within" 1 P_all_within (sp_all_within K)) : Has P w K mg base "is_game" 2 P_is_game (sp_is_game K) := by
  refine F.has sc_is_game (fun vs H Q E h => ?_) (fun f cdv A outer s H vs Q E hr h => ?_)
  · obtain ⟨n, p, aw, ab, ae, lw, lb, le, rfl, _⟩ := h
    rfl
  · obtain ⟨n, p, aw, ab, ae, lw, lb, le, rfl, haw, hab, hae, hlw, hlb, hle, kk⟩ := h
    refine ⟨_, (pss_cons (ps_if (PW.pt (pw_or (pt_not (pt_chain op_le op_le pe_int (pv 0) pe_int)) (pw_or (pt_cmpR op_eq (pe_op op_mod (pv 0) pe_int) pe_int (nomark _)) (pw_or1 (pt_not (pt_chain op_le op_le pe_int (pv 1) pe_int)))))) (pss_one (ps_ret pe_bl)) pss_nil)
      (pss_cons (ps_if (PW.pt (pw_or (pt_cmpR op_ne (pe_callB (call_lenK (K := K) rfl) rfl T.no_len PySem.boot_len (pa_cons (pv 2) pa_nil)) (pe_gl T.c_SORTS rfl) (nomark _)) (pw_or (pt_not (pt_val (pe_own h_all_within (hr.mono (by decide)) rfl (pa_cons (pv 2) (pa_cons pe_int (pa_cons pe_int pa_nil)))))) (pw_or1 (pt_cmpR op_ne (pe_ix (ix_listK (K := K) rfl) (pv 2) pe_int (fun _ _ => rfl)) pe_int (nomark _)))))) (pss_one (ps_ret pe_bl)) pss_nil)
      (pss_cons (ps_if (PW.pt (pw_or (pt_cmpR op_ne (pe_callB (call_lenK (K := K) rfl) rfl T.no_len PySem.boot_len (pa_cons (pv 3) pa_nil)) (pe_gl T.c_SORTS rfl) (nomark _)) (pw_or1 (pt_not (pt_val (pe_own h_all_within (hr.mono (by decide)) rfl (pa_cons (pv 3) (pa_cons pe_int (pa_cons pe_int pa_nil))))))))) (pss_one (ps_ret pe_bl)) pss_nil)
      (pss_one (ps_ret (pe_and (pe_cmpR op_eq (pe_callB (call_lenK (K := K) rfl) rfl T.no_len PySem.boot_len (pa_cons (pv 4) pa_nil)) (pe_op op_mul (pv 0) (pv 0)) (nomark _)) (pe_one (pe_own h_all_within (hr.mono (by decide)) rfl (pa_cons (pv 4) (pa_cons pe_int (pa_cons pe_int pa_nil))))))))))), ?_⟩
    walk_at "rd"
    have e27w : ((vI lw).length : Int) = lw.length := by simp
    have e27b : ((vI lb).length : Int) = lb.length := by simp
    have e27e : ((vI le).length : Int) = le.length := by simp
    have no : isGame n p lw lb le = false → ∀ H', Same H H' → Q (.bl false) H' := fun e H' sm => by
      rw [e] at kk
      exact kk H' sm
    unfold isGame at no kk
    by_cases c1 : 3 ≤ n
    · rw [if_pos c1]
      by_cases c2 : n ≤ 11
      · rw [if_neg (fun z => z c2)]
        refine ⟨by decide, ?_⟩
        by_cases c3 : n % 2 = 0
        · rw [if_pos c3]
          exact no (by have : ¬ n % 2 = 1 := by omega
                       simp [this]) H (Same.refl _)
        · rw [if_neg c3]
          have c3' : n % 2 = 1 := by omega
          by_cases c4 : 2 ≤ p
          · rw [if_pos c4]
            by_cases c5 : p ≤ 4
            · rw [if_neg (fun z => z c5)]
              refine ⟨vI lw, .inl haw, ?_⟩
              rw [e27w]
              by_cases c6 : lw.length = 27
              · rw [if_neg (by omega)]
                refine ⟨aw, lw, 0, 20, rfl, haw, hlw, fun H1 sm1 => ⟨_, rfl, ?_⟩⟩
                by_cases c7 : (lw.all fun z => Kg82.within z 0 20) = true
                · rw [if_neg (by simp [c7])]
                  refine ixl_of (k := 0) (SqL.same sm1 haw) rfl (vI_at (by omega)) ?_
                  walk_at "rd"
                  have eh : lw.getD 0 0 = lw.headD 0 := by cases lw <;> rfl
                  rw [eh]
                  by_cases c8 : lw.headD 0 = 0
                  · rw [if_neg (fun z => z c8)]
                    refine ⟨vI lb, .inl (SqL.same sm1 hab), ?_⟩
                    rw [e27b]
                    by_cases c9 : lb.length = 27
                    · rw [if_neg (by omega)]
                      refine ⟨ab, lb, 0, 30, rfl, SqL.same sm1 hab, hlb, fun H2 sm2 => ⟨_, rfl, ?_⟩⟩
                      by_cases c10 : (lb.all fun z => Kg82.within z 0 30) = true
                      · rw [if_neg (by simp [c10])]
                        refine ⟨vI le, .inl (SqL.same (sm1.trans sm2) hae), .inl ⟨by omega, by omega⟩, ?_⟩
                        rw [e27e]
                        by_cases c11 : (le.length : Int) = n * n
                        · rw [if_pos c11]
                          refine ⟨ae, le, 0, 4, rfl, SqL.same (sm1.trans sm2) hae, hle, fun H3 sm3 => ?_⟩
                          have := kk H3 ((sm1.trans sm2).trans sm3)
                          have c8' : lw.head?.getD 0 = 0 := by simpa using c8
                          simpa [c1, c2, c3', c4, c5, c6, c7, c8', c9, c10, c11] using this
                        · rw [if_neg c11]
                          exact no (by simp [c11]) H2 (sm1.trans sm2)
                      · rw [if_pos (by simpa using c10)]
                        exact no (by rw [show (lb.all fun z => Kg82.within z 0 30) = false by simpa using c10]; simp) H2 (sm1.trans sm2)
                    · rw [if_pos (by omega)]
                      exact no (by simp [c9]) H1 sm1
                  · rw [if_pos c8]
                    have c8' : ¬ lw.head?.getD 0 = 0 := by simpa using c8
                    exact no (by simp [c8']) H1 sm1
                · rw [if_pos (by simpa using c7)]
                  exact no (by rw [show (lw.all fun z => Kg82.within z 0 20) = false by simpa using c7]; simp) H1 sm1
              · rw [if_pos (by omega)]
                exact no (by simp [c6]) H (Same.refl _)
            · rw [if_pos c5]
              exact no (by simp [c5]) H (Same.refl _)
          · rw [if_neg c4]
            exact no (by simp [c4]) H (Same.refl _)
      · rw [if_pos c2]
        exact no (by simp [c2]) H (Same.refl _)
    · rw [if_neg c1]
      exact no (by simp [c1]) H (Same.refl _)
end
/-! ### a game that moves on -/
/-- nothing is forgotten -/
def Dom (H H' : Hp) : Prop := ∀ b o, H b = some o → ∃ o', H' b = some o'
theorem Dom.trans {H H1 H2 : Hp} (a : Dom H H1) (b : Dom H1 H2) : Dom H H2 := fun c o h => let ⟨o1, h1⟩ := a c o h; b c o1 h1
theorem same_dom {H H' : Hp} (s : Same H H') : Dom H H' := fun b o h => ⟨o, s b o h⟩
theorem dom_upd {H : Hp} {a : Addr} {u : HO} : Dom H (upd H a u) := fun b o h => by
  by_cases e : b = a
  · subst e; exact ⟨u, upd_same⟩
  · exact ⟨o, by rw [upd_ne e]; exact h⟩
theorem Dom.new {H H' : Hp} (d : Dom H H') {p : Addr} (hp : H' p = none) : H p = none := by
  cases e : H p with
  | none => rfl
  | some o =>
    obtain ⟨o', h⟩ := d p o e
    rw [h] at hp; cases hp
structure Moved (C : Addr) (H H' : Hp) (A A' : GA) (m' : G) : Prop where
  at_ : GameAt C H' A' m'
  g : A'.g = A.g
  keep : Keep H H' A.own
  own : ∀ b ∈ A'.own, b ∈ A.own ∨ H b = none
  dom : Dom H H'
def GivesL (C : Addr) (H : Hp) (A : GA) (m' : G) (Q : VK) (xs : List V) : Prop := ∀ H' A' p, Moved C H H' A A' m' → H p = none → p ∉ A'.own → H' p = some (.lst xs) → Q (.ref p) H'
def GivesM (C : Addr) (H : Hp) (A : GA) (m' : G) (Q : VK) (v : V) : Prop := ∀ H' A', Moved C H H' A A' m' → Q v H'
section
variable {P : Program} {w : World} {K : PySem.W.Frag} {mg : Str → Option Value} {base : Heap} {Z : ZA} {C : Addr} {H H1 H2 : Hp} {A A1 A2 : GA} {m m' m1 m2 : G} {Q : VK} {R : Hp → Prop}
theorem GameAt.some_own (h : GameAt C H A m) {b : Addr} (hb : b ∈ A.own) : ∃ o, H b = some o ∧ ∀ xs, o ≠ .tup xs := by
  rw [← cells_own (C := C) h.hl] at hb
  obtain ⟨p, hp, rfl⟩ := List.mem_map.mp hb
  refine ⟨p.2, h.at_ p hp, fun xs e => ?_⟩
  simp only [cells, List.mem_cons] at hp
  rcases hp with rfl | rfl | rfl | rfl | rfl | rfl | rfl | rfl | rfl | rfl | rfl | hp
  all_goals first
    | cases e
    | (have := (List.of_mem_zip hp).2
       obtain ⟨q, _, hq⟩ := List.mem_map.mp this
       rw [← hq] at e
       cases e)
theorem GameAt.new (h : GameAt C H A m) {p : Addr} (hp : H p = none) : p ∉ A.own := fun z => by
  obtain ⟨o, e, _⟩ := h.some_own z
  rw [e] at hp; cases hp
theorem Moved.same (h : GameAt C H A m) (s : Same H H1) : Moved C H H1 A A m := ⟨h.same s, rfl, same_keep s _, fun b hb => .inl hb, same_dom s⟩
theorem Moved.inA (h : GameAt C H1 A m1) (k : Keep H H1 A.own) : Moved C H H1 A A m1 := ⟨h, rfl, k, fun b hb => .inl hb, fun b o e => by
  by_cases hm : b ∈ A.own
  · obtain ⟨o', e', _⟩ := h.some_own hm
    exact ⟨o', e'⟩
  · exact ⟨o, k b o e hm⟩⟩
theorem Moved.trans (a : Moved C H H1 A A1 m1) (b : Moved C H1 H2 A1 A2 m2) : Moved C H H2 A A2 m2 := by
  have back : ∀ x, H1 x = none → x ∈ A.own ∨ H x = none := fun x hx => by
    by_cases hm : x ∈ A.own
    · exact .inl hm
    · cases e : H x with
      | none => exact .inr rfl
      | some o => rw [a.keep x o e hm] at hx; cases hx
  refine ⟨b.at_, b.g.trans a.g, a.keep.trans b.keep a.own, fun x hx => ?_, a.dom.trans b.dom⟩
  rcases b.own x hx with z | z
  · exact a.own x z
  · exact back x z
theorem Moved.then (a : Moved C H H1 A A1 m1) (s : Same H1 H2) : Moved C H H2 A A1 m1 := a.trans (Moved.same a.at_ s)
theorem sq_keep {F : List Addr} (k : Keep H H1 F) {t : Addr} {xs : List V} (h : SqL K H t xs) (ht : t ∉ F) : SqL K H1 t xs := by
  rcases h with (h | ⟨o, h⟩) | h
  · exact .inl (.inl (k _ _ h ht))
  · exact .inl (.inr ⟨o, k _ _ h ht⟩)
  · exact .inr h
/-- a refusal -/
theorem ref_of {z : Int} (h : GameAt C H A m) (kk : GivesL C H A m Q [.int z]) (s : Same H H1) : 0 + 1 ≤ sizeLine ∧ ∀ p, H1 p = none → Q (V.ref p) (upd H1 p (HO.lst [V.int z])) :=
  ⟨by decide, fun p hp => kk _ A p (Moved.same h (Same.upd s hp)) (s.free hp) (h.new (s.free hp)) upd_same⟩
theorem nd_set {α : Type} : ∀ {l : List α} {j : Nat} {q : α}, l.Nodup → q ∉ l → (l.set j q).Nodup
  | [], _, _, h, _ => h
  | a :: l, 0, q, h, hq => by
    rw [List.mem_cons, not_or] at hq
    exact List.nodup_cons.mpr ⟨hq.2, (List.nodup_cons.mp h).2⟩
  | a :: l, j + 1, q, h, hq => by
    rw [List.mem_cons, not_or] at hq
    obtain ⟨h1, h2⟩ := List.nodup_cons.mp h
    refine List.nodup_cons.mpr ⟨fun hm => ?_, nd_set h2 hq.2⟩
    rcases List.mem_or_eq_of_mem_set hm with z | z
    · exact h1 z
    · exact hq.1 z.symm
theorem GameAt.relink (h : GameAt C H A m) {j : Nat} {q : Addr} {o' : HO} (hq : H q = some o') (hn : q ∉ A.own) (e : cells C m' A2 = ((cells C m A).set 0 (A.g, .ins C A.dx (gfs m' A2))).set (j + 1) (q, o')) (eo : A2.own = A.own.set (j + 1) q) (hs : A2.hs.length = m'.hands.length) (ews : A2.ws = A.ws) (ew : m'.words = m.words) :
    GameAt C (upd H A.g (.ins C A.dx (gfs m' A2))) A2 m' := by
  have own := cells_own (C := C) h.hl
  have hqg : q ≠ A.g := fun z => hn (by rw [z]; exact own_g A)
  refine ⟨fun p hp => ?_, by rw [eo]; exact nd_set h.nd hn, hs, ?_⟩
  · rw [e] at hp
    obtain ⟨i, hi, ei⟩ := List.getElem_of_mem hp
    have hi' : i < (cells C m A).length := by simpa using hi
    by_cases q1 : j + 1 = i
    · subst q1
      rw [List.getElem_set_self] at ei
      subst ei
      rw [upd_ne hqg]; exact hq
    · rw [List.getElem_set_ne q1] at ei
      cases i with
      | zero =>
        rw [List.getElem_set_self] at ei
        subst ei
        exact upd_same
      | succ i =>
        rw [List.getElem_set_ne (by omega)] at ei
        have hi2 : (cells C m A)[i + 1]? = some p := by rw [List.getElem?_eq_getElem hi', ei]
        have hia : A.own[i + 1]? = some p.1 := by rw [← own, List.getElem?_map, hi2]; rfl
        have ne : p.1 ≠ A.g := fun z => by
          have := nd_get h.nd hia (show A.own[0]? = some p.1 by rw [z]; rfl)
          omega
        rw [upd_ne ne]
        exact h.at_ p (List.mem_of_getElem? hi2)
  · rw [ews, ew]
    exact Paired.mapP h.ws fun p w hp => by
      rw [upd_ne (ne_of hp h.obj (fun z => nomatch z))]; exact hp
theorem own_set {j : Nat} {q : Addr} (eo : A2.own = A.own.set (j + 1) q) (hq : H q = none) : ∀ b ∈ A2.own, b ∈ A.own ∨ H b = none := fun b hb => by
  rw [eo] at hb
  rcases List.mem_or_eq_of_mem_set hb with z | z
  · exact .inl z
  · exact .inr (by rw [z]; exact hq)
/-- game.aside = a list that lies at q -/
theorem sf_aside {l : List Nat} {q : Addr} (T : Txt K mg Z) (h : GameAt Z.C H A m) (hq : H q = some (.lst (vN l))) (hn : q ∉ A.own)
    (k : ∀ H2, GameAt Z.C H2 { A with aside := q } { m with aside := l } → Keep H H2 A.own → Dom H H2 → R H2) : SF K "aside" (.ref q) (.ref A.g) H R :=
  ⟨A.g, Z.C, A.dx, _, rfl, h.obj, T.cl, T.na "aside" (by decide +kernel), (by show 18 < 1000; decide), k _ (h.relink (j := 8) (A2 := { A with aside := q }) (m' := { m with aside := l }) hq hn rfl rfl h.hl rfl rfl) (Keep.upd (own_g A)) dom_upd⟩
theorem sf_laid {l : List Nat} {q : Addr} (T : Txt K mg Z) (h : GameAt Z.C H A m) (hq : H q = some (.lst (vN l))) (hn : q ∉ A.own)
    (k : ∀ H2, GameAt Z.C H2 { A with laid := q } { m with laid := l } → Keep H H2 A.own → Dom H H2 → R H2) : SF K "laid" (.ref q) (.ref A.g) H R :=
  ⟨A.g, Z.C, A.dx, _, rfl, h.obj, T.cl, T.na "laid" (by decide +kernel), (by show 18 < 1000; decide), k _ (h.relink (j := 9) (A2 := { A with laid := q }) (m' := { m with laid := l }) hq hn rfl rfl h.hl rfl rfl) (Keep.upd (own_g A)) dom_upd⟩
theorem sf_board {l : List Int} {q : Addr} (T : Txt K mg Z) (h : GameAt Z.C H A m) (hq : H q = some (.lst (vI l))) (hn : q ∉ A.own)
    (k : ∀ H2, GameAt Z.C H2 { A with board := q } { m with board := l } → Keep H H2 A.own → Dom H H2 → R H2) : SF K "board" (.ref q) (.ref A.g) H R :=
  ⟨A.g, Z.C, A.dx, _, rfl, h.obj, T.cl, T.na "board" (by decide +kernel), (by show 18 < 1000; decide), k _ (h.relink (j := 3) (A2 := { A with board := q }) (m' := { m with board := l }) hq hn rfl rfl h.hl rfl rfl) (Keep.upd (own_g A)) dom_upd⟩
theorem sf_down {d : Bool} (T : Txt K mg Z) (h : GameAt Z.C H A m) (q : ∀ H2, GameAt Z.C H2 A { m with down := d } → Keep H H2 A.own → R H2) : SF K "down" (.int (bI d)) (.ref A.g) H R :=
  sf_scal (m' := { m with down := d }) T h (by decide +kernel) rfl rfl rfl rfl q
/-- the answer behind a move -/
theorem ret_standing {z : Int} (M : Moved Z.C H H1 A A1 m1) (hp4 : m1.points.length ≤ 4) (kk : GivesL Z.C H A m1 Q (vI (z :: standing m1))) :
    0 + 1 ≤ sizeLine ∧ ∀ p, H1 p = none → sp_standing K Z [V.ref A.g] (upd H1 p (HO.lst [V.int z])) (fun y H2 => rCat (V.ref p) y H2 Q) E0 := by
  refine ⟨by decide, fun p hp => ⟨A1, m1, by rw [M.g], (M.then (Same.new hp)).at_, hp4, fun H3 q sm3 hq hH3 => ?_⟩⟩
  refine ⟨p, q, _, _, rfl, rfl, sm3 _ _ upd_same, hH3, by simp [standing]; exact sz (by omega), fun r hr => ?_⟩
  have M2 := (M.then (Same.new (o := .lst [V.int z]) hp)).then (sm3.trans (Same.new (o := .lst ([V.int z] ++ vI (standing m1))) hr))
  have hr1 : H1 r = none := (Same.new (o := .lst [V.int z]) hp).free (sm3.free hr)
  exact kk _ A1 r M2 (M.dom.new hr1) (M.at_.new hr1) upd_same
end
section
variable {P : Program} {w : World} {K : PySem.W.Frag} {mg : Str → Option Value} {base : Heap} {Z : ZA} {C : Addr} {H H1 H2 : Hp} {A A1 A2 : GA} {m m' m1 m2 : G} {Q : VK} {R : Hp → Prop}
/-- a word more -/
theorem GameAt.app_word (h : GameAt C H A m) {q : Addr} {l : List Nat} (hq : H q = some (.tup (vN l))) : GameAt C (upd H A.words (.lst ((A.ws ++ [q]).map V.ref))) { A with ws := A.ws ++ [q] } { m with words := m.words ++ [l] } := by
  have hw := h.l_words
  refine ⟨fun p hp => ?_, h.nd, h.hl, ?_⟩
  · have e : cells C { m with words := m.words ++ [l] } { A with ws := A.ws ++ [q] } = (cells C m A).set 8 (A.words, .lst ((A.ws ++ [q]).map V.ref)) := rfl
    rw [e] at hp
    have own := cells_own (C := C) h.hl
    obtain ⟨i, hi, ei⟩ := List.getElem_of_mem hp
    have hi' : i < (cells C m A).length := by simpa using hi
    by_cases q1 : 8 = i
    · subst q1
      rw [List.getElem_set_self] at ei
      subst ei
      exact upd_same
    · rw [List.getElem_set_ne q1] at ei
      have hi2 : (cells C m A)[i]? = some p := by rw [List.getElem?_eq_getElem hi', ei]
      have hia : A.own[i]? = some p.1 := by rw [← own, List.getElem?_map, hi2]; rfl
      have ne : p.1 ≠ A.words := fun z => q1 (nd_get h.nd (show A.own[8]? = some p.1 by rw [z]; rfl) hia)
      rw [upd_ne ne]
      exact h.at_ p (List.mem_of_getElem? hi2)
  · refine Paired.snoc (Paired.mapP h.ws fun p w hp => ?_) ?_
    · rw [upd_ne (ne_of hp hw (fun z => nomatch z))]; exact hp
    · rw [upd_ne (ne_of hq hw (fun z => nomatch z))]; exact hq
theorem own_words (A : GA) : A.words ∈ A.own := by simp [GA.own]
def sp_word (K : PySem.W.Frag) (Z : ZA) : Sp := fun vs H Q _ => ∃ (A : GA) (m : G) (a : Addr) (l : List Int), vs = [.ref A.g, .ref a] ∧ GameAt Z.C H A m ∧ SqL K H a (vI l) ∧ l.length ≤ 1000 ∧ GivesL Z.C H A (wordG m l).1 Q (vI (wordG m l).2)
theorem h_word (T : Txt K mg Z) (F : FunAt K mg "word" s_word P_word) (h_all_within : Has P w K mg base "all_within" 1 P_all_within (sp_all_within K)) : Has P w K mg base "word" 2 P_word (sp_word K Z) := by
  refine F.has sc_word (fun vs H Q E h => ?_) (fun f cdv A outer s H vs Q E hr h => ?_)
  · obtain ⟨A, m, a, l, rfl, _⟩ := h
    rfl
  · obtain ⟨A', m, a, l, rfl, hg, ha, hl, kk⟩ := h
    refine ⟨_, (pss_cons (ps_if (PW.pt (pw_or (pt_not (pt_chain op_le op_le pe_int (pe_callB (call_lenK (K := K) rfl) rfl T.no_len PySem.boot_len (pa_cons (pv 1) pa_nil)) pe_int)) (pw_or1 (pt_not (pt_val (pe_own h_all_within (hr.mono (by decide)) rfl (pa_cons (pv 1) (pa_cons pe_int (pa_cons (pe_gl T.c_LETTERS rfl) pa_nil))))))))) (pss_one (ps_ret (pe_lst (pa_cons (pe_un un_neg pe_int) pa_nil)))) pss_nil)
      (pss_cons (ps_if (pt_cmpR op_eq (pe_fldK (K := K) rfl (pv 0) rfl) pe_int (nomark _)) (pss_one (ps_ret (pe_lst (pa_cons (pe_un un_neg pe_int) pa_nil)))) pss_nil)
      (pss_cons (ps_if (pt_cmpR op_ge (pe_callB (call_lenK (K := K) rfl) rfl T.no_len PySem.boot_len (pa_cons (pe_fldK (K := K) rfl (pv 0) rfl) pa_nil)) (pe_gl T.c_MOST_WORDS rfl) (nomark _)) (pss_one (ps_ret (pe_lst (pa_cons (pe_un un_neg pe_int) pa_nil)))) pss_nil)
      (pss_cons (ps_expr (pe_bmK (K := K) rfl PySem.F.plainAttrs_list PySem.F.slot_list_append PySem.F.type_list_append mt_append (pe_fldK (K := K) rfl (pv 0) rfl) (pa_cons (pe_callTy (call_tupleK (K := K) rfl) rfl T.no_tuple PyProof.Rows.boot_tuple (pa_cons (pv 1) pa_nil)) pa_nil)))
      (pss_one (ps_ret (pe_lst (pa_cons (pe_callB (call_lenK (K := K) rfl) rfl T.no_len PySem.boot_len (pa_cons (pe_fldK (K := K) rfl (pv 0) rfl) pa_nil)) pa_nil)))))))), ?_⟩
    walk_at "rd"
    have el : ((vI l).length : Int) = l.length := by simp
    refine ⟨vI l, .inl ha, ?_⟩
    rw [el]
    unfold wordG at kk
    have no1 : (decide (2 ≤ l.length) && decide (l.length ≤ 11) && l.all (fun z => Kg82.within z 1 26)) = false → ∀ H1, Same H H1 → 0 + 1 ≤ sizeLine ∧ ∀ p, H1 p = none → Q (V.ref p) (upd H1 p (HO.lst [V.int (-1)])) := fun e H1 s1 => by
      rw [if_pos e] at kk
      exact ref_of hg kk s1
    by_cases c1 : 2 ≤ l.length
    · rw [if_pos (by omega)]
      by_cases c2 : l.length ≤ 11
      · rw [if_neg (by omega)]
        refine ⟨a, l, 1, 26, rfl, ha, hl, fun H1 s1 => ⟨_, rfl, ?_⟩⟩
        by_cases c3 : (l.all fun z => Kg82.within z 1 26) = true
        · rw [if_neg (by simp [c3])]
          have hg1 := hg.same s1
          simp only [fl_rows T hg1, fl_players T hg1, fl_worths T hg1, fl_bag T hg1, fl_squares T hg1, fl_board T hg1, fl_hands T hg1, fl_points T hg1, fl_lost T hg1, fl_words T hg1, fl_phase T hg1, fl_turn T hg1, fl_due T hg1, fl_aside T hg1, fl_laid T hg1, fl_down T hg1, fl_counted T hg1, fl_idle T hg1]
          walk_at "rd"
          rw [if_neg (by simp [c1, c2, c3])] at kk
          by_cases c4 : m.players = 0
          · rw [if_pos (by omega)]
            rw [if_pos c4] at kk
            exact ref_of hg kk s1
          · rw [if_neg (by omega)]
            rw [if_neg c4] at kk
            refine ⟨_, .inl (SqL.of hg1.l_words), ?_⟩
            have hwl := Paired.length hg1.ws
            have ewl : ((A'.ws.map V.ref).length : Int) = m.words.length := by rw [List.length_map, hwl]
            rw [ewl]
            by_cases c5 : 300 ≤ m.words.length
            · rw [if_pos (by omega)]
              rw [if_pos c5] at kk
              exact ref_of hg kk s1
            · rw [if_neg (by omega)]
              rw [if_neg c5] at kk
              refine ⟨.inl ⟨rfl, _, SqL.of hg1.l_words⟩, vI l, .inl ⟨SqL.same s1 ha, fun q hq => ?_⟩⟩
              have hnn : ∀ z ∈ l, 0 ≤ z := fun z hz => by
                have := List.all_eq_true.mp c3 z hz
                unfold Kg82.within at this
                simp only [Bool.and_eq_true, decide_eq_true_eq] at this
                omega
              rw [vI_nats hnn]
              have hg2 := hg1.same (Same.new (o := .tup (vN (Kg82.nats l))) hq)
              refine ⟨_, _, _, rfl, rfl, hg2.l_words, by rw [List.length_map, hwl]; exact szl (by omega), ?_⟩
              have hg3 := hg2.app_word (q := q) (l := Kg82.nats l) upd_same
              have e8 : (A'.ws ++ [q]).map V.ref = A'.ws.map V.ref ++ [V.ref q] := by rw [List.map_append]; rfl
              rw [e8] at hg3
              have M3 : Moved Z.C H (upd (upd H1 q (.tup (vN (Kg82.nats l)))) A'.words (.lst (A'.ws.map V.ref ++ [V.ref q]))) A' { A' with ws := A'.ws ++ [q] } { m with words := m.words ++ [Kg82.nats l] } :=
                ⟨hg3, rfl, (same_keep (Same.upd s1 hq) _).trans' (Keep.upd (own_words A')), fun b hb => .inl hb, (same_dom (Same.upd s1 hq)).trans dom_upd⟩
              refine Eq.mpr (fl_words (A := { A' with ws := A'.ws ++ [q] }) T hg3) ?_
              refine ⟨_, rfl, _, .inl (SqL.of hg3.l_words), by decide, fun p hp => ?_⟩
              have e6 : ((({ A' with ws := A'.ws ++ [q] } : GA).ws.map V.ref).length : Int) = ((m.words.length + 1 : Nat) : Int) := by
                show (((A'.ws ++ [q]).map V.ref).length : Int) = _
                rw [List.length_map, List.length_append, hwl]; rfl
              rw [e6]
              exact kk _ _ p (M3.then (Same.new hp)) (M3.dom.new hp) (hg3.new hp) upd_same
        · rw [if_pos (by simpa using c3)]
          exact no1 (by simp [c3]) H1 s1
      · rw [if_pos (by omega)]
        exact no1 (by simp [c2]) H (Same.refl _)
    · rw [if_neg (by omega)]
      exact no1 (by simp [c1]) H (Same.refl _)
def sp_is_play (K : PySem.W.Frag) (Z : ZA) : Sp := fun vs H Q _ => ∃ (A : GA) (m : G) (r c d : Int) (a : Addr) (l : List Int), vs = [.ref A.g, .int r, .int c, .int d, .ref a] ∧ GameAt Z.C H A m ∧ SqL K H a (vI l) ∧ l.length ≤ 1000 ∧ Says H Q (.bl (okPlayG m r c d l))
theorem h_is_play (T : Txt K mg Z) (F : FunAt K mg "is_play" s_is_play P_is_play) (h_all_within : Has P w K mg base "all_within" 1 P_all_within (sp_all_within K)) : Has P w K mg base "is_play" 2 P_is_play (sp_is_play K Z) := by
  refine F.has sc_is_play (fun vs H Q E h => ?_) (fun f cdv A outer s H vs Q E hr h => ?_)
  · obtain ⟨A, m, r, c, d, a, l, rfl, _⟩ := h
    rfl
  · obtain ⟨A', m, r, c, d, a, l, rfl, hg, ha, hl, kk⟩ := h
    refine ⟨_, (pss_cons (ps_if (PW.pt (pw_or (pt_not (pt_chain op_le op_lt pe_int (pv 1) (pe_fldK (K := K) rfl (pv 0) rfl))) (pw_or1 (pt_not (pt_chain op_le op_lt pe_int (pv 2) (pe_fldK (K := K) rfl (pv 0) rfl)))))) (pss_one (ps_ret pe_bl)) pss_nil)
      (pss_one (ps_ret (pe_and (pe_chain op_le op_le pe_int (pv 3) pe_int) (pe_and (pe_chain op_le op_le pe_int (pe_callB (call_lenK (K := K) rfl) rfl T.no_len PySem.boot_len (pa_cons (pv 4) pa_nil)) (pe_gl T.c_HAND_SIZE rfl)) (pe_one (pe_own h_all_within (hr.mono (by decide)) rfl (pa_cons (pv 4) (pa_cons pe_int (pa_cons (pe_op op_mul pe_int (pe_gl T.c_LETTERS rfl)) pa_nil)))))))))), ?_⟩
    walk_at "rd"
    simp only [fl_rows T hg, fl_players T hg, fl_worths T hg, fl_bag T hg, fl_squares T hg, fl_board T hg, fl_hands T hg, fl_points T hg, fl_lost T hg, fl_words T hg, fl_phase T hg, fl_turn T hg, fl_due T hg, fl_aside T hg, fl_laid T hg, fl_down T hg, fl_counted T hg, fl_idle T hg]
    walk_at "rd"
    have el : ((vI l).length : Int) = l.length := by simp
    have no : okPlayG m r c d l = false → Q (.bl false) H := fun e => by
      rw [e] at kk
      exact kk H (Same.refl _)
    unfold okPlayG at no kk
    by_cases c1 : 0 ≤ r
    · rw [if_pos c1]
      by_cases c2 : r < m.rows
      · rw [if_neg (fun z => z c2)]
        by_cases c3 : 0 ≤ c
        · rw [if_pos c3]
          by_cases c4 : c < m.rows
          · rw [if_neg (fun z => z c4)]
            by_cases c5 : 0 ≤ d
            · rw [if_pos c5]
              by_cases c6 : d ≤ 1
              · rw [if_pos c6]
                refine ⟨vI l, .inl ha, ?_⟩
                rw [el]
                by_cases c7 : 1 ≤ l.length
                · rw [if_pos (by omega)]
                  by_cases c8 : l.length ≤ 7
                  · rw [if_pos (by omega)]
                    refine ⟨.inl ⟨by decide, by decide⟩, a, l, 1, 52, rfl, ha, hl, ?_⟩
                    simpa [c1, c2, c3, c4, c5, c6, c7, c8] using kk
                  · rw [if_neg (by omega)]
                    exact no (by simp [c8])
                · rw [if_neg (by omega)]
                  exact no (by simp [c7])
              · rw [if_neg c6]
                exact no (by simp [c6])
            · rw [if_neg c5]
              exact no (by simp [c5])
          · rw [if_pos c4]
            exact no (by simp [c4])
        · rw [if_neg c3]
          exact no (by simp [c3])
      · rw [if_pos c2]
        exact no (by simp [c2])
    · rw [if_neg c1]
      exact no (by simp [c1])
end
section
variable {P : Program} {w : World} {K : PySem.W.Frag} {mg : Str → Option Value} {base : Heap} {Z : ZA} {C : Addr} {H H1 H2 : Hp} {A A1 A2 : GA} {m m' m1 m2 : G} {Q : VK} {R : Hp → Prop}
theorem zip_set {α β γ : Type} (f : β → γ) : ∀ (l : List α) (ws : List β) (i : Nat) (p : α) (x : β), l[i]? = some p → l.zip ((ws.set i x).map f) = (l.zip (ws.map f)).set i (p, f x)
  | [], _, _, _, _, h => by simp at h
  | _ :: _, [], _, _, _, _ => by simp
  | a :: l, w' :: ws, 0, p, x, h => by
    have e : a = p := Option.some.inj h
    subst e; rfl
  | a :: l, w' :: ws, i + 1, p, x, h => by
    have ih := zip_set f l ws i p x h
    show (a, f w') :: l.zip ((ws.set i x).map f) = (a, f w') :: (l.zip (ws.map f)).set i (p, f x)
    rw [ih]
theorem GameAt.w_hand (h : GameAt C H A m) {i : Nat} {p : Addr} {hd : List Nat} (hp : A.hs[i]? = some p) (hh : m.hands[i]? = some hd) (l : List Nat) : GameAt C (upd H p (.lst (vN l))) A { m with hands := m.hands.set i l } := by
  refine h.write (j := i + 11) (o := .lst (vN hd)) ?_ (fun xs z => nomatch z) ?_ (by show (m.hands.set i l).length = _; rw [List.length_set]) rfl
  · show (A.hs.zip (m.hands.map fun h => HO.lst (vN h)))[i]? = some (p, HO.lst (vN hd))
    rw [List.getElem?_zip_eq_some]
    exact ⟨hp, by rw [List.getElem?_map, hh]; rfl⟩
  · have e := zip_set (fun h => HO.lst (vN h)) A.hs m.hands i p l hp
    unfold cells
    rw [e]
    rfl
theorem own_hand {i : Nat} {p : Addr} (hp : A.hs[i]? = some p) : p ∈ A.own := by
  have := List.mem_of_getElem? hp
  simp [GA.own, this]
theorem get_of {p : Addr} {l : List Nat} {k : Nat} {z : Int} (h : SqL K H p (vN l)) (hk : k < l.length) (hz : z = (k : Int)) (q : Q (.int (l.getD k 0 : Nat)) H) : rGetL K (.ref p) (.int z) H Q := by
  subst hz
  exact ⟨p, _, _, _, rfl, rfl, h, by omega, by simpa using vN_at hk, q⟩
theorem getI_of {p : Addr} {l : List Int} {k : Nat} {z : Int} (h : SqL K H p (vI l)) (hk : k < l.length) (hz : z = (k : Int)) (q : Q (.int (l.getD k 0)) H) : rGetL K (.ref p) (.int z) H Q := by
  subst hz
  exact ⟨p, _, _, _, rfl, rfl, h, by omega, by simpa using vI_at hk, q⟩
theorem toBag_snoc (bag : List Nat) (l : List Nat) (k : Nat) : Kg82.toBag bag (l ++ [k]) = (Kg82.toBag bag l).set k ((Kg82.toBag bag l).getD k 0 + 1) := by
  unfold Kg82.toBag
  rw [List.foldl_append]; rfl
theorem drawn_snoc (bag : List Nat) (l : List Nat) (k : Nat) : drawn bag (l ++ [k]) = (drawn bag l).set k ((drawn bag l).getD k 0 - 1) := by
  unfold drawn
  rw [List.foldl_append]; rfl
def sp_follow_draw (Z : ZA) : Sp := fun vs H Q _ => ∃ (A : GA) (m : G), vs = [.ref A.g] ∧ GameAt Z.C H A m ∧ GFull m ∧ GivesM Z.C H A (followDraw m) Q .non
theorem h_follow_draw (T : Txt K mg Z) (F : FunAt K mg "follow_draw" s_follow_draw P_follow_draw) (h_end_turn : Has P w K mg base "end_turn" 3 P_end_turn (sp_end_turn Z)) (h_follow_first_draw : Has P w K mg base "follow_first_draw" 2 P_follow_first_draw (sp_follow_first_draw Z)) : Has P w K mg base "follow_draw" 4 P_follow_draw (sp_follow_draw Z) := by
  refine F.has sc_follow_draw (fun vs H Q E h => ?_) (fun f cdv A outer s H vs Q E hr h => ?_)
  · obtain ⟨A, m, rfl, _⟩ := h
    rfl
  · obtain ⟨A', m, rfl, hg, fl, kk⟩ := h
    refine ⟨_, (pss_one (ps_if (pt_cmpR op_eq (pe_fldK (K := K) rfl (pv 0) rfl) (pe_gl T.c_CHALLENGING rfl) (nomark _)) (pss_one (ps_expr (pe_own h_end_turn (hr.mono (by decide)) rfl (pa_cons (pv 0) (pa_cons (pe_fldK (K := K) rfl (pv 0) rfl) pa_nil))))) (pss_one (ps_if (pt_cmpR op_gt (pe_callB (call_lenK (K := K) rfl) rfl T.no_len PySem.boot_len (pa_cons (pe_fldK (K := K) rfl (pv 0) rfl) pa_nil)) pe_int (nomark _)) (pss_cons (ps_for PassesOwn.never rfl (pi_listK (K := K) rfl (pe_fldK (K := K) rfl (pv 0) rfl)) (pg_name (i := 1) sc_follow_draw.nd rfl (Or.inl rfl)) (pss_one (ps_augS (pe_fldK (K := K) rfl (pv 0) rfl) (pv 1) (get_listK (K := K) rfl) pe_int ip_add set_list)))
      (pss_cons (ps_fld (pv 0) (pe_lst pa_nil) rfl)
      (pss_one (ps_expr (pe_own h_end_turn (hr.mono (by decide)) rfl (pa_cons (pv 0) (pa_cons pe_int pa_nil))))))) (pss_one (ps_expr (pe_own h_follow_first_draw (hr.mono (by decide)) rfl (pa_cons (pv 0) pa_nil)))))))), ?_⟩
    walk_at "rd"
    simp only [fl_rows T hg, fl_players T hg, fl_worths T hg, fl_bag T hg, fl_squares T hg, fl_board T hg, fl_hands T hg, fl_points T hg, fl_lost T hg, fl_words T hg, fl_phase T hg, fl_turn T hg, fl_due T hg, fl_aside T hg, fl_laid T hg, fl_down T hg, fl_counted T hg, fl_idle T hg]
    walk_at "rd"
    unfold followDraw at kk
    by_cases c1 : m.phase = 2
    · rw [if_pos (by omega)]
      rw [if_pos c1] at kk
      exact ⟨A', m, m.counted, rfl, hg, fl.ok, fun H3 hg3 k3 => kk H3 A' (Moved.inA hg3 k3)⟩
    · rw [if_neg (by omega)]
      rw [if_neg c1] at kk
      refine ⟨vN m.aside, .inl (SqL.of hg.l_aside), ?_⟩
      have el : ((vN m.aside).length : Int) = m.aside.length := by simp
      rw [el]
      by_cases c2 : m.aside = []
      · rw [if_neg (by rw [c2]; simp)]
        rw [if_neg (by simp [c2])] at kk
        exact ⟨A', m, rfl, hg, fun H3 hg3 k3 => kk H3 A' (Moved.inA hg3 k3)⟩
      · have hlp : 0 < m.aside.length := List.length_pos_iff.mpr c2
        rw [if_pos (by omega)]
        rw [if_pos c2] at kk
        refine ⟨⟨_, SqL.of hg.l_aside⟩, fr_L' (xs := vN m.aside) (fun i σ H' => ∃ v1 : Option V, σ = [some (V.ref A'.g), v1] ∧ Keep H H' A'.own ∧ GameAt Z.C H' A' { m with bag := Kg82.toBag m.bag (m.aside.take i) }) ⟨none, rfl, Keep.refl _ _, hg⟩ (fun i σ H' _ ⟨_, _, _, h⟩ => SqL.of h.l_aside) ?_ ?_⟩
        · rintro i x σ H' hx ⟨v1, rfl, kH, hgi⟩ N hN
          obtain ⟨k, hk, rfl, hkm⟩ := vN_item hx
          have hkb : k < (Kg82.toBag m.bag (m.aside.take i)).length := by rw [toBag_len, fl.bl]; have := fl.a26 k hkm; omega
          walk_at "rd"
          simp only [fl_rows T hgi, fl_players T hgi, fl_worths T hgi, fl_bag T hgi, fl_squares T hgi, fl_board T hgi, fl_hands T hgi, fl_points T hgi, fl_lost T hgi, fl_words T hgi, fl_phase T hgi, fl_turn T hgi, fl_due T hgi, fl_aside T hgi, fl_laid T hgi, fl_down T hgi, fl_counted T hgi, fl_idle T hgi]
          refine get_of (SqL.of hgi.l_bag) hkb rfl ?_
          walk_at "rd"
          refine setl_of (k := k) hgi.l_bag (by simp; exact hkb) ?_
          have e : (((Kg82.toBag m.bag (m.aside.take i)).getD k 0 : Nat) : Int) + 1 = (((Kg82.toBag m.bag (m.aside.take i)).getD k 0 + 1 : Nat) : Int) := by omega
          show N _ (upd H' A'.bag (.lst ((vN (Kg82.toBag m.bag (m.aside.take i))).set k (V.int ((((Kg82.toBag m.bag (m.aside.take i)).getD k 0 : Nat) : Int) + 1)))))
          rw [e, vN_set, ← toBag_snoc, ← take_succ_of hk]
          exact hN _ _ ⟨_, rfl, kH.trans' (Keep.upd (own_bag A')), hgi.w_bag _⟩
        · rintro σ H' ⟨v1, rfl, kH, hgi⟩
          have e1 : (vN m.aside).length = m.aside.length := by simp
          rw [e1, List.take_length] at hgi
          walk_at "rd"
          refine ⟨Nat.zero_le _, fun q hq => ?_⟩
          have s3 : Same H' (upd H' q (.lst [])) := Same.new hq
          have hg3 := hgi.same s3
          refine sf_aside (l := []) T hg3 upd_same (hgi.new hq) fun H4 hg4 k4 d4 => ?_
          have M4 : Moved Z.C H H4 A' { A' with aside := q } { m with bag := Kg82.toBag m.bag m.aside, aside := [] } := by
            have M1 : Moved Z.C H H' A' A' _ := Moved.inA hgi kH
            refine ⟨hg4, rfl, (kH.trans' (same_keep s3 _)).trans' k4, ?_, (M1.dom.trans (same_dom s3)).trans d4⟩
            exact own_set (j := 8) rfl (M1.dom.new hq)
          refine ⟨{ A' with aside := q }, _, 0, rfl, hg4, ⟨fl.ok.wl, fl.ok.hd, fl.ok.hl, fl.ok.pl, fl.ok.ll, fl.ok.turn, fl.ok.p4⟩, fun H5 hg5 k5 => ?_⟩
          exact kk H5 _ (M4.trans (Moved.inA hg5 k5))
theorem drawn_getD : ∀ (l bag : List Nat) (k : Nat), (drawn bag l).getD k 0 = bag.getD k 0 - l.count k
  | [], _, _ => by simp [drawn]
  | x :: l, bag, k => by
    show (drawn (bag.set x (bag.getD x 0 - 1)) l).getD k 0 = _
    rw [drawn_getD l, List.count_cons]
    by_cases hx : x < bag.length
    · rw [getD_set _ _ _ _ hx]
      by_cases e : x = k
      · subst e
        rw [if_pos rfl]
        simp; omega
      · rw [if_neg e]
        have : (x == k) = false := by simpa using e
        rw [this]; simp
    · have e1 : bag.set x (bag.getD x 0 - 1) = bag := List.set_eq_of_length_le (by omega)
      rw [e1]
      by_cases e : x = k
      · subst e
        have : bag.getD x 0 = 0 := by rw [List.getD_eq_getElem?_getD, List.getElem?_eq_none (by omega)]; rfl
        rw [this]; simp
      · have : (x == k) = false := by simpa using e
        rw [this]; simp
def sp_draw (K : PySem.W.Frag) (Z : ZA) : Sp := fun vs H Q _ => ∃ (A : GA) (m : G) (a : Addr) (l : List Int), vs = [.ref A.g, .ref a] ∧ GameAt Z.C H A m ∧ SqL K H a (vI l) ∧ a ∉ A.own ∧ l.length ≤ 1000 ∧
  (m.phase = 0 ∨ m.phase = 2 → GFull m ∧ (∀ h ∈ m.hands, h.length ≤ 7) ∧ m.due ≤ 7) ∧ (∀ l', (followDraw (drawnG m l')).points.length ≤ 4) ∧ GivesL Z.C H A (drawG m l).1 Q (vI (drawG m l).2)
theorem h_draw (T : Txt K mg Z) (F : FunAt K mg "draw" s_draw P_draw) (h_all_within : Has P w K mg base "all_within" 1 P_all_within (sp_all_within K)) (h_is_in_bag : Has P w K mg base "is_in_bag" 1 P_is_in_bag (sp_is_in_bag K)) (h_follow_draw : Has P w K mg base "follow_draw" 4 P_follow_draw (sp_follow_draw Z))
    (h_standing : Has P w K mg base "standing" 1 P_standing (sp_standing K Z)) : Has P w K mg base "draw" 5 P_draw (sp_draw K Z) := by
  refine F.has sc_draw (fun vs H Q E h => ?_) (fun f cdv A outer s H vs Q E hr h => ?_)
  · obtain ⟨A, m, a, l, rfl, _⟩ := h
    rfl
  · obtain ⟨A', m, a, l, rfl, hg, ha, hao, hl, pre, hp4, kk⟩ := h
    refine ⟨_, (pss_cons (ps_if (pt_not (pt_val (pe_own h_all_within (hr.mono (by decide)) rfl (pa_cons (pv 1) (pa_cons pe_int (pa_cons (pe_gl T.c_LETTERS rfl) pa_nil)))))) (pss_one (ps_ret (pe_lst (pa_cons (pe_un un_neg pe_int) pa_nil)))) pss_nil)
      (pss_cons (ps_if (PW.pt (pw_and (pt_cmpR op_ne (pe_fldK (K := K) rfl (pv 0) rfl) (pe_gl T.c_DRAWING rfl) (nomark _)) (pw_and1 (pt_cmpR op_ne (pe_fldK (K := K) rfl (pv 0) rfl) (pe_gl T.c_CHALLENGING rfl) (nomark _))))) (pss_one (ps_ret (pe_lst (pa_cons (pe_un un_neg pe_int) pa_nil)))) pss_nil)
      (pss_cons (ps_if (pt_cmpR op_ne (pe_callB (call_lenK (K := K) rfl) rfl T.no_len PySem.boot_len (pa_cons (pv 1) pa_nil)) (pe_fldK (K := K) rfl (pv 0) rfl) (nomark _)) (pss_one (ps_ret (pe_lst (pa_cons (pe_un un_neg pe_int) pa_nil)))) pss_nil)
      (pss_cons (ps_if (pt_not (pt_val (pe_own h_is_in_bag (hr.mono (by decide)) rfl (pa_cons (pe_fldK (K := K) rfl (pv 0) rfl) (pa_cons (pv 1) pa_nil))))) (pss_one (ps_ret (pe_lst (pa_cons (pe_un un_neg pe_int) pa_nil)))) pss_nil)
      (pss_cons (ps_for PassesOwn.never rfl (pi_listK (K := K) rfl (pv 1)) (pg_name (i := 2) sc_draw.nd rfl (Or.inl rfl)) (pss_cons (ps_augS (pe_fldK (K := K) rfl (pv 0) rfl) (pv 2) (get_listK (K := K) rfl) pe_int ip_sub set_list)
      (pss_one (ps_expr (pe_bmK (K := K) rfl PySem.F.plainAttrs_list PySem.F.slot_list_append PySem.F.type_list_append mt_append (pe_ix (ix_listK (K := K) rfl) (pe_fldK (K := K) rfl (pv 0) rfl) (pe_fldK (K := K) rfl (pv 0) rfl) (fun _ _ => rfl)) (pa_cons (pv 2) pa_nil))))))
      (pss_cons (ps_expr (pe_own h_follow_draw (hr.mono (by decide)) rfl (pa_cons (pv 0) pa_nil)))
      (pss_one (ps_ret (pe_op op_cat (pe_lst (pa_cons pe_int pa_nil)) (pe_own h_standing (hr.mono (by decide)) rfl (pa_cons (pv 0) pa_nil))))))))))), ?_⟩
    walk_at "rd"
    unfold drawG at kk
    refine ⟨a, l, 0, 26, rfl, ha, hl, fun H1 s1 => ⟨_, rfl, ?_⟩⟩
    by_cases c1 : (l.all fun z => Kg82.within z 0 26) = true
    · rw [if_neg (by simp [c1])]
      rw [if_neg (by simp [c1])] at kk
      have hg1 := hg.same s1
      simp only [fl_rows T hg1, fl_players T hg1, fl_worths T hg1, fl_bag T hg1, fl_squares T hg1, fl_board T hg1, fl_hands T hg1, fl_points T hg1, fl_lost T hg1, fl_words T hg1, fl_phase T hg1, fl_turn T hg1, fl_due T hg1, fl_aside T hg1, fl_laid T hg1, fl_down T hg1, fl_counted T hg1, fl_idle T hg1]
      walk_at "rd"
      have hnn : ∀ z ∈ l, 0 ≤ z := fun z hz => by
        have := List.all_eq_true.mp c1 z hz
        unfold Kg82.within at this
        simp only [Bool.and_eq_true, decide_eq_true_eq] at this
        omega
      have hle : ∀ x ∈ Kg82.nats l, x ≤ 26 := nats_le (m := 26) c1
      have hnl := nats_len l
      have tail : (m.phase = 0 ∨ m.phase = 2) → ∃ x, (SqL K H1 a x ∨ SqT K H1 a x) ∧
          if ¬↑x.length = (m.due : Int) then 0 + 1 ≤ sizeLine ∧ ∀ (p : Addr), H1 p = none → Q (V.ref p) (upd H1 p (HO.lst [V.int (-4)]))
          else sp_is_in_bag K [V.ref A'.bag, V.ref a] H1
              (fun x H1 => ∃ c, x = V.bl c ∧
                    if c = false then 0 + 1 ≤ sizeLine ∧ ∀ (p : Addr), H1 p = none → Q (V.ref p) (upd H1 p (HO.lst [V.int (-5)]))
                    else (∃ xs, SqL K H1 a xs) ∧
                        FR (Itl K a) (gName 2)
                          (tSeq
                            (tAugS (tFld K (tVar 0) (Str.ofString "bag")) (tVar 2) (tC (V.int 1)) (rGetL K) (ipI fun i j => i - j) rSetL)
                            (tDrop (tBM K "list" rAppend (tOp (rIxL K) (tFld K (tVar 0) (Str.ofString "hands")) (tFld K (tVar 0) (Str.ofString "turn"))) (tCons (tVar 2) tNil))))
                          { nx := tSeq (tDrop (tCall (sp_follow_draw Z) [] E0 (tCons (tVar 0) tNil)))
                                (tRet (tOp rCat (tLst (tCons (tC (V.int 0)) tNil)) (tCall (sp_standing K Z) [] E0 (tCons (tVar 0) tNil))))
                                { nx := fun x H' => Q V.non H', rt := Q },
                            rt := Q }
                          [some (V.ref A'.g), some (V.ref a), none] H1) E0 := by
        intro h02
        obtain ⟨fl, h7, hd7⟩ := pre h02
        refine ⟨vI l, .inl (SqL.same s1 ha), ?_⟩
        have el : ((vI l).length : Int) = l.length := by simp
        rw [el]
        rw [if_neg (by omega)] at kk
        by_cases c3 : l.length = m.due
        · rw [if_neg (by omega)]
          rw [if_neg (by omega)] at kk
          have haN : SqL K H1 a (vN (Kg82.nats l)) := by rw [← vI_nats hnn]; exact SqL.same s1 ha
          have htn := fl.ok.turn
          have hhl := fl.ok.hl
          generalize hL : Kg82.nats l = L at *
          refine ⟨A'.bag, a, m.bag, L, rfl, SqL.of hg1.l_bag, haN, by omega, fun x hx => by rw [fl.bl]; have := hle x hx; omega, fun H2 s2 => ⟨_, rfl, ?_⟩⟩
          by_cases c4 : inBagAll m.bag L = true
          · rw [if_neg (by simp [c4])]
            rw [if_neg (by simp [c4])] at kk
            have hcnt : ∀ x ∈ L, L.count x ≤ m.bag.getD x 0 := by
              unfold inBagAll at c4
              simpa [List.all_eq_true] using c4
            have e0 : drawnG m [] = m := by
              unfold drawnG
              rw [List.append_nil, set_same]
              rfl
            obtain ⟨hd, ehd⟩ : ∃ hd, m.hands[m.turn]? = some hd := ⟨m.hands[m.turn]'(by omega), List.getElem?_eq_getElem (by omega)⟩
            have ehd' : m.hands.getD m.turn [] = hd := by rw [List.getD_eq_getElem?_getD, ehd]; rfl
            have hg2 : GameAt Z.C H2 A' (drawnG m (L.take 0)) := by
              show GameAt Z.C H2 A' (drawnG m [])
              rw [e0]
              exact hg1.same s2
            refine ⟨⟨_, SqL.same s2 haN⟩, fr_L' (xs := vN L) (fun i σ H' => ∃ v2 : Option V, σ = [some (V.ref A'.g), some (V.ref a), v2] ∧ Keep H H' A'.own ∧ GameAt Z.C H' A' (drawnG m (L.take i))) ⟨none, rfl, same_keep (s1.trans s2) _, hg2⟩
              (fun i σ H' _ ⟨_, _, kH, _⟩ => by rw [← hL, ← vI_nats hnn]; exact sq_keep kH ha hao) ?_ ?_⟩
            · rintro i x σ H' hx ⟨v2, rfl, kH, hgi⟩ N hN
              obtain ⟨k, hk, rfl, hkm⟩ := vN_item hx
              have hkb : k < (drawn m.bag (L.take i)).length := by rw [drawn_len, fl.bl]; have := hle k hkm; omega
              have hpos : 0 < (drawn m.bag (L.take i)).getD k 0 := by
                rw [drawn_getD]
                have h1 := hcnt k hkm
                have h2 : (L.take (i + 1)).count k ≤ L.count k := (List.take_sublist _ _).count_le _
                rw [take_succ_of hk, List.count_append] at h2
                simp at h2
                omega
              walk_at "rd"
              simp only [fl_rows T hgi, fl_players T hgi, fl_worths T hgi, fl_bag T hgi, fl_squares T hgi, fl_board T hgi, fl_hands T hgi, fl_points T hgi, fl_lost T hgi, fl_words T hgi, fl_phase T hgi, fl_turn T hgi, fl_due T hgi, fl_aside T hgi, fl_laid T hgi, fl_down T hgi, fl_counted T hgi, fl_idle T hgi]
              refine get_of (l := drawn m.bag (L.take i)) (SqL.of hgi.l_bag) hkb rfl ?_
              walk_at "rd"
              refine setl_of (k := k) hgi.l_bag (by show k < (vN (drawn m.bag (L.take i))).length; simp; exact hkb) ?_
              have e : (((drawn m.bag (L.take i)).getD k 0 : Nat) : Int) - 1 = (((drawn m.bag (L.take i)).getD k 0 - 1 : Nat) : Int) := by omega
              have eb : (vN (drawn m.bag (L.take i))).set k (V.int ((((drawn m.bag (L.take i)).getD k 0 : Nat) : Int) - 1)) = vN (drawn m.bag (L.take (i + 1))) := by
                rw [e, vN_set, ← drawn_snoc, ← take_succ_of hk]
              have hg3 := hgi.w_bag (drawn m.bag (L.take (i + 1)))
              rw [← eb] at hg3
              have k3 : Keep H (upd H' A'.bag (.lst ((vN (drawn m.bag (L.take i))).set k (V.int ((((drawn m.bag (L.take i)).getD k 0 : Nat) : Int) - 1))))) A'.own := kH.trans' (Keep.upd (own_bag A'))
              have ehi : (m.hands.set m.turn (hd ++ L.take i))[m.turn]? = some (hd ++ L.take i) := List.getElem?_set_self (by omega)
              have ehi2 : (drawnG m (L.take i)).hands[m.turn]? = some (hd ++ L.take i) := by
                show (m.hands.set m.turn (m.hands.getD m.turn [] ++ L.take i))[m.turn]? = _
                rw [ehd']; exact ehi
              obtain ⟨p, hp, hpr⟩ := hg3.l_hand ehi2
              refine Eq.mpr (fl_hands T hg3) (Eq.mpr (fl_turn T hg3) ?_)
              refine ixl_of (k := m.turn) (SqL.of hg3.l_hands) rfl (by rw [List.getElem?_map, hp]; rfl) ?_
              have hlen7 : hd.length ≤ 7 := h7 hd (List.mem_of_getElem? ehd)
              have hLi : (L.take i).length ≤ 7 := by rw [List.length_take]; omega
              refine app_of hpr (by rw [List.length_map, List.length_append]; exact szl (by omega)) (hN _ _ ⟨_, rfl, k3.trans' (Keep.upd (own_hand hp)), ?_⟩)
              have hg4 := hg3.w_hand hp ehi2 (hd ++ L.take (i + 1))
              have e4 : vN (hd ++ L.take i) ++ [V.int (k : Int)] = vN (hd ++ L.take (i + 1)) := by
                rw [take_succ_of hk, ← List.append_assoc]
                show _ = List.map _ ((hd ++ L.take i) ++ [k])
                rw [List.map_append]; rfl
              rw [e4]
              have e5 : drawnG m (L.take (i + 1)) = { drawnG m (L.take i) with bag := drawn m.bag (L.take (i + 1)), hands := (drawnG m (L.take i)).hands.set m.turn (hd ++ L.take (i + 1)) } := by
                unfold drawnG
                rw [ehd']
                simp only [List.set_set]
              rw [e5]
              exact hg4
            · rintro σ H' ⟨v2, rfl, kH, hgi⟩
              have e1 : (vN L).length = L.length := by simp
              rw [e1, List.take_length] at hgi
              walk_at "rd"
              have hfull : GFull (drawnG m L) := by
                refine ⟨⟨fl.ok.wl, fun h hh => ?_, by show (m.hands.set _ _).length = _; rw [List.length_set]; exact fl.ok.hl, fl.ok.pl, fl.ok.ll, fl.ok.turn, fl.ok.p4⟩, by show (drawn m.bag L).length = 27; rw [drawn_len]; exact fl.bl, fl.n0, fl.n11, fl.brd, fl.fc, fl.sq, fl.s4, fl.w20, fl.al, fl.a26, fl.ld⟩
                rcases List.mem_or_eq_of_mem_set (show h ∈ m.hands.set m.turn (m.hands.getD m.turn [] ++ L) from hh) with z | z
                · exact fl.ok.hd h z
                · subst z
                  rw [ehd']
                  have hlen7 : hd.length ≤ 7 := h7 hd (List.mem_of_getElem? ehd)
                  refine ⟨by rw [List.length_append]; omega, fun x hx => ?_⟩
                  rcases List.mem_append.mp hx with y | y
                  · exact (fl.ok.hd hd (List.mem_of_getElem? ehd)).2 x y
                  · exact hle x y
              refine ⟨A', _, rfl, hgi, hfull, fun H3 A3 M3 => ?_⟩
              exact ret_standing ((Moved.inA hgi kH).trans M3) (hp4 L) kk
          · rw [if_pos (by simpa using c4)]
            rw [if_pos (by simpa using c4)] at kk
            exact ref_of hg kk (s1.trans s2)
        · rw [if_pos (by omega)]
          rw [if_pos c3] at kk
          exact ref_of hg kk s1
      by_cases p0 : m.phase = 0
      · rw [if_neg (by omega)]
        exact tail (.inl p0)
      · rw [if_pos (by omega)]
        by_cases p2 : m.phase = 2
        · rw [if_neg (by omega)]
          exact tail (.inr p2)
        · rw [if_pos (by omega)]
          rw [if_pos ⟨p0, p2⟩] at kk
          exact ref_of hg kk s1
    · rw [if_pos (by simpa using c1)]
      rw [if_pos (by simpa using c1)] at kk
      exact ref_of hg kk s1
end
section
variable {P : Program} {w : World} {K : PySem.W.Frag} {mg : Str → Option Value} {base : Heap} {Z : ZA} {C : Addr} {H H1 H2 : Hp} {A A1 A2 : GA} {m m' m1 m2 : G} {Q : VK} {R : Hp → Prop}
theorem erase_cast (k : Nat) : ∀ l : List Nat, (l.map fun (k : Nat) => (k : Int)).erase (k : Int) = (l.erase k).map fun (k : Nat) => (k : Int)
  | [] => rfl
  | a :: l => by
    have ih := erase_cast k l
    rw [List.map_cons, List.erase_cons, List.erase_cons]
    by_cases h : a = k
    · subst h; simp
    · have h1 : ¬ (a : Int) = (k : Int) := by omega
      simp [h, h1, ih]
theorem rem_of {p : Addr} {l : List Nat} {k : Nat} {z : Int} (h : H p = some (.lst (vN l))) (hz : z = (k : Int)) (hk : k ∈ l) (q : Q .non (upd H p (.lst (vN (l.erase k))))) : tyV K "list" (.ref p) H ∧ rRemove (.ref p) [.int z] H Q := by
  subst hz
  refine ⟨.inl ⟨rfl, _, SqL.of h⟩, p, l.map (fun (k : Nat) => (k : Int)), k, rfl, rfl, by rw [← vN_vI]; exact h, List.mem_map.mpr ⟨k, hk, rfl⟩, ?_⟩
  rw [erase_cast, ← vN_vI]; exact q
theorem taken_app : ∀ (l1 l2 hand : List Nat), Kg82.taken hand (l1 ++ l2) = (Kg82.taken hand l1).bind fun h => Kg82.taken h l2
  | [], _, _ => rfl
  | x :: l1, l2, hand => by
    show (if hand.contains x = true then Kg82.taken (hand.erase x) (l1 ++ l2) else none) = (if hand.contains x = true then Kg82.taken (hand.erase x) l1 else none).bind _
    by_cases h : hand.contains x = true
    · rw [if_pos h, if_pos h, taken_app l1 l2]
    · rw [if_neg h, if_neg h]; rfl
theorem taken_mem {hand L : List Nat} (h : inHandAll hand L = true) {i k : Nat} (hk : L[i]? = some k) : k ∈ (L.take i).foldl (fun h x => h.erase x) hand := by
  have hi : i < L.length := (List.getElem?_eq_some_iff.mp hk).1
  have e1 : Kg82.taken hand L = some (L.foldl (fun h x => h.erase x) hand) := by rw [taken_eq', if_pos h]
  have e2 : L = L.take i ++ k :: L.drop (i + 1) := by
    have := List.take_append_drop i L
    rw [List.drop_eq_getElem_cons hi] at this
    have e3 : L[i] = k := (List.getElem?_eq_some_iff.mp hk).2
    rw [e3] at this
    exact this.symm
  rw [e2, taken_app] at e1
  cases e4 : Kg82.taken hand (L.take i) with
  | none => rw [e4] at e1; cases e1
  | some h' =>
    rw [e4] at e1
    have e5 : (if h'.contains k = true then Kg82.taken (h'.erase k) (L.drop (i + 1)) else none) = some _ := e1
    have e6 : h' = (L.take i).foldl (fun h x => h.erase x) hand := by
      rw [taken_eq] at e4
      split at e4
      · exact (Option.some.inj e4).symm
      · cases e4
    by_cases c : h'.contains k = true
    · rw [← e6]; simpa using c
    · rw [if_neg c] at e5; cases e5
theorem getD_hd {hands : List (List Nat)} {i : Nat} {hd : List Nat} (h : hands[i]? = some hd) : hands.getD i [] = hd := by rw [List.getD_eq_getElem?_getD, h]; rfl
def sp_swap (K : PySem.W.Frag) (Z : ZA) : Sp := fun vs H Q _ => ∃ (A : GA) (m : G) (a : Addr) (l : List Int), vs = [.ref A.g, .ref a] ∧ GameAt Z.C H A m ∧ SqL K H a (vI l) ∧ a ∉ A.own ∧ l.length ≤ 1000 ∧
  (m.phase = 1 → GFull m) ∧ GivesL Z.C H A (swapG m l).1 Q (vI (swapG m l).2)
theorem h_swap (T : Txt K mg Z) (F : FunAt K mg "swap" s_swap P_swap) (h_all_within : Has P w K mg base "all_within" 1 P_all_within (sp_all_within K)) (h_is_in_hand : Has P w K mg base "is_in_hand" 1 P_is_in_hand (sp_is_in_hand K))
    (h_standing : Has P w K mg base "standing" 1 P_standing (sp_standing K Z)) : Has P w K mg base "swap" 2 P_swap (sp_swap K Z) := by
  refine F.has sc_swap (fun vs H Q E h => ?_) (fun f cdv A outer s H vs Q E hr h => ?_)
  · obtain ⟨A, m, a, l, rfl, _⟩ := h
    rfl
  · obtain ⟨A', m, a, l, rfl, hg, ha, hao, hl, pre, kk⟩ := h
    refine ⟨_, (pss_cons (ps_if (PW.pt (pw_or (pt_cmpR op_eq (pe_callB (call_lenK (K := K) rfl) rfl T.no_len PySem.boot_len (pa_cons (pv 1) pa_nil)) pe_int (nomark _)) (pw_or1 (pt_not (pt_val (pe_own h_all_within (hr.mono (by decide)) rfl (pa_cons (pv 1) (pa_cons pe_int (pa_cons (pe_gl T.c_LETTERS rfl) pa_nil))))))))) (pss_one (ps_ret (pe_lst (pa_cons (pe_un un_neg pe_int) pa_nil)))) pss_nil)
      (pss_cons (ps_if (pt_cmpR op_ne (pe_fldK (K := K) rfl (pv 0) rfl) (pe_gl T.c_PLAYING rfl) (nomark _)) (pss_one (ps_ret (pe_lst (pa_cons (pe_un un_neg pe_int) pa_nil)))) pss_nil)
      (pss_cons (ps_if (pt_cmpR op_lt (pe_callB (cr_sumK (K := K) rfl rfl) rfl T.no_sum PyProof.Rows.boot_sum (pa_cons (pe_fldK (K := K) rfl (pv 0) rfl) pa_nil)) (pe_gl T.c_SWAP_NEEDS rfl) (nomark _)) (pss_one (ps_ret (pe_lst (pa_cons (pe_un un_neg pe_int) pa_nil)))) pss_nil)
      (pss_cons (ps_if (pt_not (pt_val (pe_own h_is_in_hand (hr.mono (by decide)) rfl (pa_cons (pe_ix (ix_listK (K := K) rfl) (pe_fldK (K := K) rfl (pv 0) rfl) (pe_fldK (K := K) rfl (pv 0) rfl) (fun _ _ => rfl)) (pa_cons (pv 1) pa_nil))))) (pss_one (ps_ret (pe_lst (pa_cons (pe_un un_neg pe_int) pa_nil)))) pss_nil)
      (pss_cons (ps_for PassesOwn.never rfl (pi_listK (K := K) rfl (pv 1)) (pg_name (i := 2) sc_swap.nd rfl (Or.inl rfl)) (pss_one (ps_expr (pe_bmK (K := K) rfl PySem.F.plainAttrs_list PySem.F.slot_list_remove PySem.F.type_list_remove mt_remove (pe_ix (ix_listK (K := K) rfl) (pe_fldK (K := K) rfl (pv 0) rfl) (pe_fldK (K := K) rfl (pv 0) rfl) (fun _ _ => rfl)) (pa_cons (pv 2) pa_nil)))))
      (pss_cons (ps_fld (pv 0) (pe_callTy (call_listK (K := K) rfl) rfl T.no_list PyProof.Rows.boot_list (pa_cons (pv 1) pa_nil)) rfl)
      (pss_cons (ps_fld (pv 0) (pe_gl T.c_DRAWING rfl) rfl)
      (pss_cons (ps_fld (pv 0) (pe_callB (call_lenK (K := K) rfl) rfl T.no_len PySem.boot_len (pa_cons (pv 1) pa_nil)) rfl)
      (pss_one (ps_ret (pe_op op_cat (pe_lst (pa_cons (pe_callB (call_lenK (K := K) rfl) rfl T.no_len PySem.boot_len (pa_cons (pv 1) pa_nil)) pa_nil)) (pe_own h_standing (hr.mono (by decide)) rfl (pa_cons (pv 0) pa_nil))))))))))))), ?_⟩
    walk_at "rd"
    unfold swapG at kk
    have el : ((vI l).length : Int) = l.length := by simp
    refine ⟨vI l, .inl ha, ?_⟩
    rw [el]
    by_cases c0 : l.length = 0
    · rw [if_pos (by omega)]
      rw [if_pos (by simp [c0])] at kk
      exact ref_of hg kk (Same.refl _)
    rw [if_neg (by omega)]
    refine ⟨a, l, 0, 26, rfl, ha, hl, fun H1 s1 => ⟨_, rfl, ?_⟩⟩
    by_cases c1 : (l.all fun z => Kg82.within z 0 26) = true
    · rw [if_neg (by simp [c1])]
      rw [if_neg (by simp [c0, c1])] at kk
      have hg1 := hg.same s1
      simp only [fl_rows T hg1, fl_players T hg1, fl_worths T hg1, fl_bag T hg1, fl_squares T hg1, fl_board T hg1, fl_hands T hg1, fl_points T hg1, fl_lost T hg1, fl_words T hg1, fl_phase T hg1, fl_turn T hg1, fl_due T hg1, fl_aside T hg1, fl_laid T hg1, fl_down T hg1, fl_counted T hg1, fl_idle T hg1]
      walk_at "rd"
      have hnn : ∀ z ∈ l, 0 ≤ z := fun z hz => by
        have := List.all_eq_true.mp c1 z hz
        unfold Kg82.within at this
        simp only [Bool.and_eq_true, decide_eq_true_eq] at this
        omega
      have hle : ∀ x ∈ Kg82.nats l, x ≤ 26 := nats_le (m := 26) c1
      have hnl := nats_len l
      have evI := vI_nats hnn
      by_cases c2 : m.phase = 1
      · rw [if_neg (by omega)]
        rw [if_neg (by omega)] at kk
        have fl := pre c2
        have htn := fl.ok.turn
        have hhl := fl.ok.hl
        refine ⟨m.bag.map (fun (k : Nat) => (k : Int)), by rw [← vN_vI]; exact SqL.of hg1.l_bag, ?_⟩
        rw [sum_cast]
        by_cases c3 : m.bag.sum < 7
        · rw [if_pos (by omega)]
          rw [if_pos c3] at kk
          exact ref_of hg kk s1
        rw [if_neg (by omega)]
        rw [if_neg c3] at kk
        obtain ⟨hd, ehd⟩ : ∃ hd, m.hands[m.turn]? = some hd := ⟨m.hands[m.turn]'(by omega), List.getElem?_eq_getElem (by omega)⟩
        have ehd' := getD_hd ehd
        obtain ⟨p, hp, hpr⟩ := hg1.l_hand ehd
        refine ixl_of (k := m.turn) (SqL.of hg1.l_hands) rfl (by rw [List.getElem?_map, hp]; rfl) ?_
        have haN : SqL K H1 a (vN (Kg82.nats l)) := by rw [← evI]; exact SqL.same s1 ha
        have hz : (l.length : Int) = ((Kg82.nats l).length : Nat) := by rw [hnl]
        rw [ehd', hz] at kk
        generalize hL : Kg82.nats l = L at *
        refine ⟨p, a, hd, L, rfl, SqL.of hpr, haN, by omega, fun H2 s2 => ⟨_, rfl, ?_⟩⟩
        by_cases c4 : inHandAll hd L = true
        · rw [if_neg (by simp [c4])]
          rw [if_neg (by simp [c4])] at kk
          have hg2 := hg1.same s2
          have e0 : ({ m with hands := m.hands.set m.turn (([] : List Nat).foldl (fun h x => h.erase x) hd) } : G) = m := by
            show ({ m with hands := m.hands.set m.turn hd } : G) = m
            rw [← ehd', set_same]
          refine ⟨⟨_, SqL.same s2 haN⟩, fr_L' (xs := vN L) (fun i σ H' => ∃ v2 : Option V, σ = [some (V.ref A'.g), some (V.ref a), v2] ∧ Keep H H' A'.own ∧ GameAt Z.C H' A' { m with hands := m.hands.set m.turn ((L.take i).foldl (fun h x => h.erase x) hd) }) ⟨none, rfl, same_keep (s1.trans s2) _, by show GameAt Z.C H2 A' { m with hands := m.hands.set m.turn (([] : List Nat).foldl (fun h x => h.erase x) hd) }; rw [e0]; exact hg2⟩
            (fun i σ H' _ ⟨_, _, kH, _⟩ => by rw [← evI]; exact sq_keep kH ha hao) ?_ ?_⟩
          · rintro i x σ H' hx ⟨v2, rfl, kH, hgi⟩ N hN
            obtain ⟨k, hk, rfl, hkm⟩ := vN_item hx
            have ehi : (m.hands.set m.turn ((L.take i).foldl (fun h x => h.erase x) hd))[m.turn]? = some ((L.take i).foldl (fun h x => h.erase x) hd) := List.getElem?_set_self (by omega)
            obtain ⟨p', hp', hpr'⟩ := hgi.l_hand (i := m.turn) ehi
            walk_at "rd"
            simp only [fl_rows T hgi, fl_players T hgi, fl_worths T hgi, fl_bag T hgi, fl_squares T hgi, fl_board T hgi, fl_hands T hgi, fl_points T hgi, fl_lost T hgi, fl_words T hgi, fl_phase T hgi, fl_turn T hgi, fl_due T hgi, fl_aside T hgi, fl_laid T hgi, fl_down T hgi, fl_counted T hgi, fl_idle T hgi]
            refine ixl_of (k := m.turn) (SqL.of hgi.l_hands) rfl (by rw [List.getElem?_map, hp']; rfl) ?_
            refine rem_of hpr' rfl (taken_mem c4 hk) (hN _ _ ⟨_, rfl, kH.trans' (Keep.upd (own_hand hp')), ?_⟩)
            have hg4 := hgi.w_hand hp' ehi (((L.take i).foldl (fun h x => h.erase x) hd).erase k)
            have e5 : (L.take (i + 1)).foldl (fun h x => h.erase x) hd = ((L.take i).foldl (fun h x => h.erase x) hd).erase k := by
              rw [take_succ_of hk, List.foldl_append]; rfl
            rw [e5]
            have e6 : ({ m with hands := m.hands.set m.turn (((L.take i).foldl (fun h x => h.erase x) hd).erase k) } : G) = { m with hands := (m.hands.set m.turn ((L.take i).foldl (fun h x => h.erase x) hd)).set m.turn (((L.take i).foldl (fun h x => h.erase x) hd).erase k) } := by
              rw [List.set_set]
            rw [e6]
            exact hg4
          · rintro σ H' ⟨v2, rfl, kH, hgi⟩
            have e1 : (vN L).length = L.length := by simp
            rw [e1, List.take_length] at hgi
            have haK : SqL K H' a (vI l) := sq_keep kH ha hao
            walk_at "rd"
            refine ⟨vI l, .inl haK, fun q hq => ?_⟩
            have s3 : Same H' (upd H' q (.lst (vI l))) := Same.new hq
            have M1 : Moved Z.C H H' A' A' _ := Moved.inA hgi kH
            refine sf_aside (l := L) T (hgi.same s3) (by rw [upd_same, evI]) (hgi.new hq) fun H4 hg4 k4 d4 => ?_
            refine sf_phase (A := { A' with aside := q }) (k := 0) T hg4 rfl fun H5 hg5 k5 => ?_
            have M5 : Moved Z.C H H5 A' { A' with aside := q } _ := (⟨hg4, rfl, (kH.trans' (same_keep s3 _)).trans' k4, own_set (j := 8) rfl (M1.dom.new hq), (M1.dom.trans (same_dom s3)).trans d4⟩ : Moved Z.C H H4 A' { A' with aside := q } _).trans (Moved.inA hg5 k5)
            have haK5 : SqL K H5 a (vI l) := sq_keep M5.keep ha hao
            refine ⟨vI l, .inl haK5, ?_⟩
            refine sf_due (A := { A' with aside := q }) (k := L.length) T hg5 (by rw [evI]; simp) fun H6 hg6 k6 => ?_
            have M6 := M5.trans (Moved.inA hg6 k6)
            refine ⟨vI l, .inl (sq_keep M6.keep ha hao), ?_⟩
            have e7 : ((vI l).length : Int) = (L.length : Int) := by rw [evI]; simp
            rw [e7]
            have kk' : GivesL Z.C H A' (swappedG m L) Q (vI ((L.length : Int) :: standing (swappedG m L))) := kk
            have e8 : swappedG m L = { m with hands := m.hands.set m.turn (L.foldl (fun h x => h.erase x) hd), aside := L, phase := 0, due := L.length } := by
              unfold swappedG
              rw [ehd']
            rw [e8] at kk'
            exact ret_standing M6 (by show m.points.length ≤ 4; have := fl.ok.pl; have := fl.ok.p4; omega) kk'
        · rw [if_pos (by simpa using c4)]
          rw [if_pos (by simpa using c4)] at kk
          exact ref_of hg kk (s1.trans s2)
      · rw [if_pos (by omega)]
        rw [if_pos c2] at kk
        exact ref_of hg kk s1
    · rw [if_pos (by simpa using c1)]
      rw [if_pos (by simp [c1])] at kk
      exact ref_of hg kk s1
theorem fset_get : ∀ (q : List Nat) (b : List Int) (k : Nat), k ∉ q → (q.foldl (fun b k => b.set k 0) b).getD k 0 = b.getD k 0
  | [], _, _, _ => rfl
  | j :: q, b, k, h => by
    rw [List.mem_cons, not_or] at h
    show (q.foldl (fun b k => b.set k 0) (b.set j 0)).getD k 0 = _
    rw [fset_get q _ k h.2]
    simp only [List.getD_eq_getElem?_getD, List.getElem?_set]
    rw [if_neg (fun e => h.1 e.symm)]
theorem fset_len : ∀ (q : List Nat) (b : List Int), (q.foldl (fun b k => b.set k 0) b).length = b.length
  | [], _ => rfl
  | j :: q, b => by
    show (q.foldl (fun b k => b.set k 0) (b.set j 0)).length = _
    rw [fset_len q, List.length_set]
def sp_take_back (Z : ZA) : Sp := fun vs H Q _ => ∃ (A : GA) (m : G), vs = [.ref A.g] ∧ GameAt Z.C H A m ∧ GFull m ∧ m.laid.Nodup ∧ m.laid.length ≤ 7 ∧ GivesA Z.C H A (takeBack m) Q .non
theorem h_take_back (T : Txt K mg Z) (F : FunAt K mg "take_back" s_take_back P_take_back) (h_tile_of : Has P w K mg base "tile_of" 1 P_tile_of sp_tile_of) : Has P w K mg base "take_back" 2 P_take_back (sp_take_back Z) := by
  refine F.has sc_take_back (fun vs H Q E h => ?_) (fun f cdv A outer s H vs Q E hr h => ?_)
  · obtain ⟨A, m, rfl, _⟩ := h
    rfl
  · obtain ⟨A', m, rfl, hg, fl, hnd, hl7, kk⟩ := h
    refine ⟨_, (pss_cons (ps_for PassesOwn.never rfl (pi_listK (K := K) rfl (pe_fldK (K := K) rfl (pv 0) rfl)) (pg_name (i := 1) sc_take_back.nd rfl (Or.inl rfl)) (pss_cons (ps_expr (pe_bmK (K := K) rfl PySem.F.plainAttrs_list PySem.F.slot_list_append PySem.F.type_list_append mt_append (pe_ix (ix_listK (K := K) rfl) (pe_fldK (K := K) rfl (pv 0) rfl) (pe_fldK (K := K) rfl (pv 0) rfl) (fun _ _ => rfl)) (pa_cons (pe_own h_tile_of (hr.mono (by decide)) rfl (pa_cons (pe_ix (ix_listK (K := K) rfl) (pe_fldK (K := K) rfl (pv 0) rfl) (pv 1) (fun _ _ => rfl)) pa_nil)) pa_nil)))
      (pss_one (ps_asg pe_int (pg_sub (pe_fldK (K := K) rfl (pv 0) rfl) (pv 1) set_list)))))
      (pss_one (ps_augS (pe_fldK (K := K) rfl (pv 0) rfl) (pe_fldK (K := K) rfl (pv 0) rfl) (get_listK (K := K) rfl) (pe_fldK (K := K) rfl (pv 0) rfl) ip_sub set_list))), ?_⟩
    walk_at "rd"
    simp only [fl_rows T hg, fl_players T hg, fl_worths T hg, fl_bag T hg, fl_squares T hg, fl_board T hg, fl_hands T hg, fl_points T hg, fl_lost T hg, fl_words T hg, fl_phase T hg, fl_turn T hg, fl_due T hg, fl_aside T hg, fl_laid T hg, fl_down T hg, fl_counted T hg, fl_idle T hg]
    have htn := fl.ok.turn
    have hhl := fl.ok.hl
    obtain ⟨hd, ehd⟩ : ∃ hd, m.hands[m.turn]? = some hd := ⟨m.hands[m.turn]'(by omega), List.getElem?_eq_getElem (by omega)⟩
    have ehd' := getD_hd ehd
    have hd14 := (fl.ok.hd hd (List.mem_of_getElem? ehd)).1
    have e0 : ({ m with hands := m.hands.set m.turn (hd ++ ([] : List Nat).map fun k => tileIn (m.board.getD k 0)), board := ([] : List Nat).foldl (fun b k => b.set k 0) m.board } : G) = m := by
      show ({ m with hands := m.hands.set m.turn (hd ++ []) } : G) = m
      rw [List.append_nil, ← ehd', set_same]
    refine ⟨_, rfl, ⟨_, SqL.of hg.l_laid⟩, fr_L' (xs := vN m.laid) (fun i σ H' => ∃ v1 : Option V, σ = [some (V.ref A'.g), v1] ∧ Keep H H' A'.own ∧ GameAt Z.C H' A' { m with hands := m.hands.set m.turn (hd ++ (m.laid.take i).map fun k => tileIn (m.board.getD k 0)), board := (m.laid.take i).foldl (fun b k => b.set k 0) m.board })
      ⟨none, rfl, Keep.refl _ _, by show GameAt Z.C H A' { m with hands := m.hands.set m.turn (hd ++ ([] : List Nat).map fun k => tileIn (m.board.getD k 0)), board := ([] : List Nat).foldl (fun b k => b.set k 0) m.board }; rw [e0]; exact hg⟩ (fun i σ H' _ ⟨_, _, _, h⟩ => SqL.of h.l_laid) ?_ ?_⟩
    · rintro i x σ H' hx ⟨v1, rfl, kH, hgi⟩ N hN
      obtain ⟨k, hk, rfl, hkm⟩ := vN_item hx
      have hkb : k < ((m.laid.take i).foldl (fun b k => b.set k 0) m.board).length := by rw [fset_len, fl.brd]; exact fl.ld k hkm
      have hkn : k ∉ m.laid.take i := fun z => by
        obtain ⟨j, hj, ej⟩ := List.getElem_of_mem z
        have hj' : j < i := by rw [List.length_take] at hj; omega
        rw [List.getElem_take] at ej
        have hi : i < m.laid.length := (List.getElem?_eq_some_iff.mp hk).1
        have e1 : m.laid[j]? = some k := by rw [List.getElem?_eq_getElem (by omega), ej]
        have := nd_get hnd e1 hk
        omega
      have eb := fset_get (m.laid.take i) m.board k hkn
      have ehi : (m.hands.set m.turn (hd ++ (m.laid.take i).map fun k => tileIn (m.board.getD k 0)))[m.turn]? = some (hd ++ (m.laid.take i).map fun k => tileIn (m.board.getD k 0)) := List.getElem?_set_self (by omega)
      obtain ⟨p, hp, hpr⟩ := hgi.l_hand (i := m.turn) ehi
      walk_at "rd"
      simp only [fl_rows T hgi, fl_players T hgi, fl_worths T hgi, fl_bag T hgi, fl_squares T hgi, fl_board T hgi, fl_hands T hgi, fl_points T hgi, fl_lost T hgi, fl_words T hgi, fl_phase T hgi, fl_turn T hgi, fl_due T hgi, fl_aside T hgi, fl_laid T hgi, fl_down T hgi, fl_counted T hgi, fl_idle T hgi]
      refine ixl_of (k := m.turn) (SqL.of hgi.l_hands) rfl (by rw [List.getElem?_map, hp]; rfl) ?_
      refine ⟨.inl ⟨rfl, _, SqL.of hpr⟩, ?_⟩
      refine Eq.mpr (fl_board T hgi) ?_
      refine ixl_of (SqL.of hgi.l_board) rfl (vI_at hkb) ?_
      rw [eb]
      refine ⟨_, rfl, ?_⟩
      refine ⟨p, _, _, rfl, rfl, hpr, by rw [List.length_map, List.length_append, List.length_map, List.length_take]; exact szl (by omega), ?_⟩
      have e4 : vN (hd ++ (m.laid.take i).map fun k => tileIn (m.board.getD k 0)) ++ [V.int ((tileIn (m.board.getD k 0) : Nat) : Int)] = vN (hd ++ (m.laid.take (i + 1)).map fun k => tileIn (m.board.getD k 0)) := by
        rw [take_succ_of hk, List.map_append, ← List.append_assoc]
        show _ = List.map _ ((hd ++ (m.laid.take i).map fun k => tileIn (m.board.getD k 0)) ++ [tileIn (m.board.getD k 0)])
        rw [List.map_append]; rfl
      have hg4 := hgi.w_hand hp ehi (hd ++ (m.laid.take (i + 1)).map fun k => tileIn (m.board.getD k 0))
      rw [← e4] at hg4
      refine Eq.mpr (fl_board T hg4) ?_
      refine setl_of (k := k) hg4.l_board (by simp; exact hkb) ?_
      have e5 : (vI ((m.laid.take i).foldl (fun b k => b.set k 0) m.board)).set k (V.int 0) = vI ((m.laid.take (i + 1)).foldl (fun b k => b.set k 0) m.board) := by
        rw [vI_set, take_succ_of hk, List.foldl_append]; rfl
      have hg5 := hg4.w_board ((m.laid.take (i + 1)).foldl (fun b k => b.set k 0) m.board)
      rw [← e5] at hg5
      refine hN _ _ ⟨_, rfl, (kH.trans' (Keep.upd (own_hand hp))).trans' (Keep.upd (own_board A')), ?_⟩
      have e6 : ({ m with hands := m.hands.set m.turn (hd ++ (m.laid.take (i + 1)).map fun k => tileIn (m.board.getD k 0)), board := (m.laid.take (i + 1)).foldl (fun b k => b.set k 0) m.board } : G) = { m with hands := (m.hands.set m.turn (hd ++ (m.laid.take i).map fun k => tileIn (m.board.getD k 0))).set m.turn (hd ++ (m.laid.take (i + 1)).map fun k => tileIn (m.board.getD k 0)), board := (m.laid.take (i + 1)).foldl (fun b k => b.set k 0) m.board } := by
        rw [List.set_set]
      rw [e6]
      exact hg5
    · rintro σ H' ⟨v1, rfl, kH, hgi⟩
      have e1 : (vN m.laid).length = m.laid.length := by simp
      rw [e1, List.take_length] at hgi
      have hpl : m.turn < m.points.length := by have := fl.ok.pl; omega
      walk_at "rd"
      simp only [fl_rows T hgi, fl_players T hgi, fl_worths T hgi, fl_bag T hgi, fl_squares T hgi, fl_board T hgi, fl_hands T hgi, fl_points T hgi, fl_lost T hgi, fl_words T hgi, fl_phase T hgi, fl_turn T hgi, fl_due T hgi, fl_aside T hgi, fl_laid T hgi, fl_down T hgi, fl_counted T hgi, fl_idle T hgi]
      refine getI_of (SqL.of hgi.l_points) hpl rfl ?_
      simp only [fl_rows T hgi, fl_players T hgi, fl_worths T hgi, fl_bag T hgi, fl_squares T hgi, fl_board T hgi, fl_hands T hgi, fl_points T hgi, fl_lost T hgi, fl_words T hgi, fl_phase T hgi, fl_turn T hgi, fl_due T hgi, fl_aside T hgi, fl_laid T hgi, fl_down T hgi, fl_counted T hgi, fl_idle T hgi]
      walk_at "rd"
      refine setl_of (k := m.turn) hgi.l_points (by simp; exact hpl) ?_
      rw [vI_set]
      have hg2 := hgi.w_points (m.points.set m.turn (m.points.getD m.turn 0 - (m.counted : Int)))
      refine kk _ ?_ (kH.trans' (Keep.upd (own_points A')))
      have e2 : takeBack m = { m with hands := m.hands.set m.turn (hd ++ m.laid.map fun k => tileIn (m.board.getD k 0)), board := m.laid.foldl (fun b k => b.set k 0) m.board, points := m.points.set m.turn (m.points.getD m.turn 0 - (m.counted : Int)) } := by
        unfold takeBack
        rw [ehd']
      rw [e2]
      exact hg2
end
section
variable {P : Program} {w : World} {K : PySem.W.Frag} {mg : Str → Option Value} {base : Heap} {Z : ZA} {C : Addr} {H H1 H2 : Hp} {A A1 A2 : GA} {m m' m1 m2 : G} {Q : VK} {R : Hp → Prop}
theorem run_ok {b : List Int} {n k : Nat} (d : Bool) (hk : k < n * n) : (runThrough b n k d).length ≤ n ∧ ∀ j ∈ runThrough b n k d, j < n * n := by
  have h1 := mLast_lt (alongB b n d (laneOf n d k)) n n (posOf n d k) (pos_lt d hk)
  have h2 := mFirst_le (alongB b n d (laneOf n d k)) (posOf n d k)
  unfold runThrough stretch
  refine ⟨by rw [List.length_map, List.length_range']; omega, fun j hj => ?_⟩
  obtain ⟨p, hp, rfl⟩ := List.mem_map.mp hj
  rw [List.mem_range'_1] at hp
  exact sqr_lt d (lane_lt d hk) (by omega)
theorem words_ok {b : List Int} {n : Nat} {laid : List Nat} {d : Bool} (hne : laid ≠ []) (hall : ∀ k ∈ laid, k < n * n) : (wordsOf b n laid d).length ≤ laid.length + 1 ∧ ∀ run ∈ wordsOf b n laid d, (run.length ≤ n ∧ ∀ j ∈ run, j < n * n) ∧ 2 ≤ run.length := by
  unfold wordsOf
  refine ⟨Nat.le_trans (List.length_filter_le _ _) (by simp), fun run hr => ?_⟩
  rw [List.mem_filter] at hr
  refine ⟨?_, of_decide_eq_true hr.2⟩
  rcases List.mem_cons.mp hr.1 with e | e
  · subst e
    refine run_ok d (hall _ ?_)
    cases laid with
    | nil => exact absurd rfl hne
    | cons a l => simp
  · obtain ⟨k, hk, rfl⟩ := List.mem_map.mp e
    exact run_ok _ (hall k hk)
theorem cast_inj {a b : List Nat} (h : (a.map fun (k : Nat) => (k : Int)) = b.map fun (k : Nat) => (k : Int)) : a = b := by
  have := congrArg (List.map Int.toNat) h
  simpa [List.map_map, Function.comp_def] using this
theorem contains_cast (w' : List Nat) : ∀ ws : List (List Nat), (ws.map fun w => w.map fun (k : Nat) => (k : Int)).contains (w'.map fun (k : Nat) => (k : Int)) = ws.contains w'
  | [] => rfl
  | v :: ws => by
    rw [List.map_cons, List.contains_cons, List.contains_cons, contains_cast w' ws]
    congr 1
    by_cases h : w' = v
    · subst h; rw [beq_self_eq_true, beq_self_eq_true]
    · rw [beq_eq_false_iff_ne.mpr h, beq_eq_false_iff_ne.mpr (fun e => h (cast_inj e))]
theorem nit_of {a p : Addr} {ps : List Addr} {w' : List Nat} {ws : List (List Nat)} (ha : SqT K H a (vN w')) (hp : SqL K H p (ps.map V.ref)) (hr : Paired (fun q w => H q = some (.tup (vN w))) ps ws) (q : Q (.bl (!ws.contains w')) H) : rNotInT K (.ref a) (.ref p) H Q := by
  refine ⟨a, p, ps, w'.map (fun (k : Nat) => (k : Int)), ws.map (fun w => w.map fun (k : Nat) => (k : Int)), rfl, rfl, by rw [← vN_vI]; exact ha, hp, ?_, by rw [contains_cast]; exact q⟩
  have : ∀ {ps : List Addr} {ws : List (List Nat)}, Paired (fun q w => H q = some (.tup (vN w))) ps ws → Tups K H ps (ws.map fun w => w.map fun (k : Nat) => (k : Int)) := by
    intro ps ws r
    induction r with
    | nil => exact .nil
    | cons h t ih => exact .cons (by rw [← vN_vI]; exact SqT.of h) ih
  exact this hr
def sp_unlisted_words (K : PySem.W.Frag) (Z : ZA) : Sp := fun vs H Q _ => ∃ (A : GA) (m : G), vs = [.ref A.g] ∧ GameAt Z.C H A m ∧ GFull m ∧ m.laid ≠ [] ∧ m.laid.length ≤ 7 ∧ ∀ H' p (ps : List Addr), Same H H' → H p = none → H' p = some (.lst (ps.map V.ref)) → ps.length = (unlisted m).length → Q (.ref p) H'
theorem h_unlisted_words (T : Txt K mg Z) (F : FunAt K mg "unlisted_words" s_unlisted_words P_unlisted_words) (h_words_of : Has P w K mg base "words_of" 3 P_words_of (sp_words_of K)) (h_letters_on : Has P w K mg base "letters_on" 1 P_letters_on (sp_letters_on K)) : Has P w K mg base "unlisted_words" 4 P_unlisted_words (sp_unlisted_words K Z) := by
  refine F.has sc_unlisted_words (fun vs H Q E h => ?_) (fun f cdv A outer s H vs Q E hr h => ?_)
  · obtain ⟨A, m, rfl, _⟩ := h
    rfl
  · obtain ⟨A', m, rfl, hg, fl, hne, hl7, kk⟩ := h
    refine ⟨_, (pss_cons (ps_set (i := 1) sc_unlisted_words.nd rfl (Or.inl rfl) (pe_lst pa_nil))
      (pss_cons (ps_for PassesOwn.never rfl (pi_listK (K := K) rfl (pe_own h_words_of (hr.mono (by decide)) rfl (pa_cons (pe_fldK (K := K) rfl (pv 0) rfl) (pa_cons (pe_fldK (K := K) rfl (pv 0) rfl) (pa_cons (pe_fldK (K := K) rfl (pv 0) rfl) (pa_cons (pe_fldK (K := K) rfl (pv 0) rfl) pa_nil)))))) (pg_name (i := 2) sc_unlisted_words.nd rfl (Or.inl rfl)) (pss_cons (ps_set (i := 3) sc_unlisted_words.nd rfl (Or.inl rfl) (pe_own h_letters_on (hr.mono (by decide)) rfl (pa_cons (pe_fldK (K := K) rfl (pv 0) rfl) (pa_cons (pv 2) pa_nil))))
      (pss_one (ps_if (PW.pt (pw_and (pt_cmpR (op_notInTK (K := K) hr.units rfl) (pv 3) (pe_fldK (K := K) rfl (pv 0) rfl) rfl) (pw_and1 (pt_cmpR (op_notInTK (K := K) hr.units rfl) (pv 3) (pv 1) rfl)))) (pss_one (ps_expr (pe_bmK (K := K) rfl PySem.F.plainAttrs_list PySem.F.slot_list_append PySem.F.type_list_append mt_append (pv 1) (pa_cons (pv 3) pa_nil)))) pss_nil))))
      (pss_one (ps_ret (pv 1))))), ?_⟩
    walk_at "rd"
    refine ⟨Nat.zero_le _, fun p hp => ?_⟩
    have s1 : Same H (upd H p (.lst [])) := Same.new hp
    have hg1 := hg.same s1
    simp only [fl_rows T hg1, fl_players T hg1, fl_worths T hg1, fl_bag T hg1, fl_squares T hg1, fl_board T hg1, fl_hands T hg1, fl_points T hg1, fl_lost T hg1, fl_words T hg1, fl_phase T hg1, fl_turn T hg1, fl_due T hg1, fl_aside T hg1, fl_laid T hg1, fl_down T hg1, fl_counted T hg1, fl_idle T hg1]
    obtain ⟨wl, wall⟩ := words_ok (b := m.board) (d := m.down) hne fl.ld
    unfold unlisted missing at kk
    generalize hws : wordsOf m.board m.rows m.laid m.down = ws at *
    refine ⟨A'.board, A'.laid, m.board, m.rows, m.laid, m.down, rfl, SqL.of hg1.l_board, SqL.of hg1.l_laid, fl.brd, fl.n11, hne, hl7, fl.ld, fun H2 r ps s2 hr hH2 hrows => ?_⟩
    rw [hws] at hrows
    have hpl := hrows.len
    have hp2 : H2 p = some (.lst []) := s2 _ _ upd_same
    have hrp : r ≠ p := fun e => by rw [e, upd_same] at hr; cases hr
    have hpn : p ∉ ps := fun z => by
      obtain ⟨w', hw', hq⟩ := pair_at hrows p z
      rw [hp2] at hq
      have := (wall w' hw').2
      cases w' with
      | nil => simp at this
      | cons a l => cases hq
    refine ⟨r, rfl, ⟨_, SqL.of hH2⟩, fr_L' (xs := ps.map V.ref) (fun i σ H' => ∃ (qs : List Addr) (v2 v3 : Option V), σ = [some (V.ref A'.g), some (V.ref p), v2, v3] ∧ Same H H' ∧ H' r = some (.lst (ps.map V.ref)) ∧ Rows H' ps ws ∧ H' p = some (.lst (qs.map V.ref)) ∧
      Paired (fun q w => H' q = some (.tup (vN w))) qs (((ws.take i).map (lettersOn m.board)).foldl (missStep m.words) [])) ⟨[], none, none, rfl, s1.trans s2, hH2, hrows, hp2, .nil⟩ (fun i σ H' _ ⟨_, _, _, _, _, h, _⟩ => SqL.of h) ?_ ?_⟩
    · rintro i x σ H' hx ⟨qs, v2, v3, rfl, sm, hH'r, hrw, hH'p, hqs⟩ N hN
      rw [List.getElem?_map] at hx
      obtain ⟨c, hc, rfl⟩ := Option.map_eq_some_iff.mp hx
      obtain ⟨run, hrun, hcr⟩ : ∃ run, ws[i]? = some run ∧ H' c = some (.lst (vN run)) := by
        have hi : i < ps.length := (List.getElem?_eq_some_iff.mp hc).1
        have : ∀ {ps : List Addr} {ws : List (List Nat)} {i : Nat} {c : Addr}, Rows H' ps ws → ps[i]? = some c → ∃ run, ws[i]? = some run ∧ H' c = some (.lst (vN run)) := by
          intro ps ws i c r' h'
          induction r' generalizing i with
          | nil => simp at h'
          | cons h t ih =>
            cases i with
            | zero =>
              have e := Option.some.inj h'
              subst e
              exact ⟨_, rfl, h⟩
            | succ i => exact ih h'
        exact this hrw hc
      have hrm := List.mem_of_getElem? hrun
      have hgi := hg.same sm
      walk_at "rd"
      simp only [fl_rows T hgi, fl_players T hgi, fl_worths T hgi, fl_bag T hgi, fl_squares T hgi, fl_board T hgi, fl_hands T hgi, fl_points T hgi, fl_lost T hgi, fl_words T hgi, fl_phase T hgi, fl_turn T hgi, fl_due T hgi, fl_aside T hgi, fl_laid T hgi, fl_down T hgi, fl_counted T hgi, fl_idle T hgi]
      refine ⟨A'.board, c, m.board, run, rfl, SqL.of hgi.l_board, SqL.of hcr, by have := (wall run hrm).1.1; have := fl.n11; omega, fun k hk => by rw [fl.brd]; exact (wall run hrm).1.2 k hk, fun H3 t s3 ht hH3 => ?_⟩
      have sm3 := sm.trans s3
      have hg3 := hg.same sm3
      simp only [fl_rows T hg3, fl_players T hg3, fl_worths T hg3, fl_bag T hg3, fl_squares T hg3, fl_board T hg3, fl_hands T hg3, fl_points T hg3, fl_lost T hg3, fl_words T hg3, fl_phase T hg3, fl_turn T hg3, fl_due T hg3, fl_aside T hg3, fl_laid T hg3, fl_down T hg3, fl_counted T hg3, fl_idle T hg3]
      have hws3 : Paired (fun q w => H3 q = some (.tup (vN w))) A'.ws m.words := hg3.ws
      refine nit_of (SqT.of hH3) (SqL.of hg3.l_words) hws3 ?_
      have hqs3 : Paired (fun q w => H3 q = some (.tup (vN w))) qs (((ws.take i).map (lettersOn m.board)).foldl (missStep m.words) []) := Paired.mapP hqs fun _ _ h => s3 _ _ h
      have eacc : ((ws.take (i + 1)).map (lettersOn m.board)).foldl (missStep m.words) [] = missStep m.words (((ws.take i).map (lettersOn m.board)).foldl (missStep m.words) []) (lettersOn m.board run) := by
        rw [take_succ_of hrun, List.map_append, List.foldl_append]; rfl
      generalize hacc : ((ws.take i).map (lettersOn m.board)).foldl (missStep m.words) [] = acc at *
      have stay : missStep m.words acc (lettersOn m.board run) = acc → N [some (V.ref A'.g), some (V.ref p), some (V.ref c), some (V.ref t)] H3 := fun e =>
        hN _ _ ⟨qs, _, _, rfl, sm3, s3 _ _ hH'r, hrw.same s3, s3 _ _ hH'p, by rw [eacc, e]; exact hqs3⟩
      walk_at "rd"
      by_cases c1 : m.words.contains (lettersOn m.board run) = true
      · rw [if_neg (by rw [c1]; decide)]
        exact stay (by unfold missStep; rw [if_neg (by rw [c1]; simp)])
      · have c1' : m.words.contains (lettersOn m.board run) = false := by rw [Bool.not_eq_true] at c1; exact c1
        rw [if_pos c1']
        refine nit_of (SqT.of hH3) (SqL.of (s3 _ _ hH'p)) hqs3 ?_
        walk_at "rd"
        by_cases c2 : acc.contains (lettersOn m.board run) = true
        · rw [if_neg (by rw [c2]; decide)]
          exact stay (by unfold missStep; rw [if_neg (by rw [c2]; simp)])
        · have c2' : acc.contains (lettersOn m.board run) = false := by rw [Bool.not_eq_true] at c2; exact c2
          rw [if_pos c2']
          have hmiss : missStep m.words acc (lettersOn m.board run) = acc ++ [lettersOn m.board run] := by
            unfold missStep
            rw [if_pos (by rw [c1', c2']; rfl)]
          have hql := Paired.length hqs3
          have haccl : acc.length ≤ i := by
            rw [← hacc]
            have : ∀ (l : List (List Nat)) (a : List (List Nat)), (l.foldl (missStep m.words) a).length ≤ a.length + l.length := by
              intro l
              induction l with
              | nil => intro a; simp
              | cons x l ih =>
                intro a
                have := ih (missStep m.words a x)
                have h2 : (missStep m.words a x).length ≤ a.length + 1 := by
                  unfold missStep
                  split <;> simp
                simp only [List.foldl_cons, List.length_cons]
                omega
            have := this ((ws.take i).map (lettersOn m.board)) []
            simp only [List.length_nil, List.length_map, List.length_take] at this
            omega
          have hil : i < ws.length := (List.getElem?_eq_some_iff.mp hrun).1
          refine app_of (s3 _ _ hH'p) (by rw [List.length_map]; exact szl (by omega)) (hN _ _ ⟨qs ++ [t], _, _, rfl, sm3.updO (s3 _ _ hH'p) hp, ?_, ?_, ?_, ?_⟩)
          · rw [upd_ne hrp]; exact s3 _ _ hH'r
          · have : ∀ {ps' : List Addr} {ws' : List (List Nat)}, p ∉ ps' → Rows H3 ps' ws' → Rows (upd H3 p (.lst (qs.map V.ref ++ [V.ref t]))) ps' ws' := by
              intro ps' ws' hn' r'
              induction r' with
              | nil => exact .nil
              | cons h t' ih =>
                rw [List.mem_cons, not_or] at hn'
                exact .cons (by rw [upd_ne (fun e => hn'.1 e.symm)]; exact h) (ih hn'.2)
            exact this hpn (hrw.same s3)
          · rw [upd_same, List.map_append]; rfl
          · rw [eacc, hmiss]
            refine Paired.snoc (Paired.mapP hqs3 fun q' w' h => ?_) ?_
            · rw [upd_ne (ne_of h (s3 _ _ hH'p) (fun z => nomatch z))]; exact h
            · rw [upd_ne (ne_of hH3 (s3 _ _ hH'p) (fun z => nomatch z))]; exact hH3
    · rintro σ H' ⟨qs, v2, v3, rfl, sm, hH'r, hrw, hH'p, hqs⟩
      rw [List.length_map, hpl, List.take_length] at hqs
      walk_at "rd"
      exact kk H' p qs sm hp hH'p (Paired.length hqs)
end
section
variable {P : Program} {w : World} {K : PySem.W.Frag} {mg : Str → Option Value} {base : Heap} {Z : ZA} {C : Addr} {H H1 H2 : Hp} {A A1 A2 : GA} {m m' m1 m2 : G} {Q : VK} {R : Hp → Prop}
theorem boardWith_le : ∀ (laid : List Nat) (faces b : List Int), (∀ z ∈ b, z ≤ 26) → (∀ z ∈ faces, z ≤ 26) → ∀ z ∈ boardWith b laid faces, z ≤ 26
  | [], _, _, h, _ => h
  | _ :: _, [], _, h, _ => h
  | k :: laid, f :: faces, b, h, hf => boardWith_le laid faces (b.set k f) (fun z hz => by
      rcases List.mem_or_eq_of_mem_set hz with q | q
      · exact h z q
      · rw [q]; exact hf f (by simp)) fun z hz => hf z (List.mem_cons_of_mem _ hz)
def sp_put_on_board (K : PySem.W.Frag) (Z : ZA) : Sp := fun vs H Q _ => ∃ (A : GA) (m : G) (l q : Addr) (d : Bool) (laid : List Nat) (faces : List Int), vs = [.ref A.g, .ref l, .int (bI d), .ref q] ∧ GameAt Z.C H A m ∧ GFull m ∧ H l = some (.lst (vN laid)) ∧ l ∉ A.own ∧ SqL K H q (vI faces) ∧ q ∉ A.own ∧
  laid ≠ [] ∧ laid.length ≤ 7 ∧ laid.length = faces.length ∧ (∀ k ∈ laid, k < m.rows * m.rows) ∧ (∀ z ∈ faces, z ≤ 26) ∧ inHandAll (m.hands.getD m.turn []) (faces.map tileIn) = true ∧ (m.hands.getD m.turn []).length ≤ 7 ∧
  ∀ H' A', GameAt Z.C H' A' (putG m laid d faces) → A'.g = A.g → Keep H H' A.own → (∀ b ∈ A'.own, b ∈ A.own ∨ H b = none ∨ b = l) → Dom H H' → Q .non H'
theorem h_put_on_board (T : Txt K mg Z) (F : FunAt K mg "put_on_board" s_put_on_board P_put_on_board) (h_tile_of : Has P w K mg base "tile_of" 1 P_tile_of sp_tile_of) (h_board_with : Has P w K mg base "board_with" 1 P_board_with (sp_board_with K)) (h_words_of : Has P w K mg base "words_of" 3 P_words_of (sp_words_of K))
    (h_worth_of_play : Has P w K mg base "worth_of_play" 3 P_worth_of_play (sp_worth_of_play K)) : Has P w K mg base "put_on_board" 4 P_put_on_board (sp_put_on_board K Z) := by
  refine F.has sc_put_on_board (fun vs H Q E h => ?_) (fun f cdv A outer s H vs Q E hr h => ?_)
  · obtain ⟨A, m, l, q, d, laid, faces, rfl, _⟩ := h
    rfl
  · obtain ⟨A', m, l, q, d, laid, faces, rfl, hg, fl, hl, hlo, hq, hqo, hne, hl7, hlf, hall, hf26, hin, hh7, kk⟩ := h
    refine ⟨_, (pss_cons (ps_set (i := 4) sc_put_on_board.nd rfl (Or.inl rfl) (pe_ix (ix_listK (K := K) rfl) (pe_fldK (K := K) rfl (pv 0) rfl) (pe_fldK (K := K) rfl (pv 0) rfl) (fun _ _ => rfl)))
      (pss_cons (ps_for PassesOwn.never rfl (pi_listK (K := K) rfl (pv 3)) (pg_name (i := 5) sc_put_on_board.nd rfl (Or.inl rfl)) (pss_one (ps_expr (pe_bmK (K := K) rfl PySem.F.plainAttrs_list PySem.F.slot_list_remove PySem.F.type_list_remove mt_remove (pv 4) (pa_cons (pe_own h_tile_of (hr.mono (by decide)) rfl (pa_cons (pv 5) pa_nil)) pa_nil)))))
      (pss_cons (ps_fld (pv 0) (pe_own h_board_with (hr.mono (by decide)) rfl (pa_cons (pe_fldK (K := K) rfl (pv 0) rfl) (pa_cons (pv 1) (pa_cons (pv 3) pa_nil)))) rfl)
      (pss_cons (ps_fld (pv 0) (pv 1) rfl)
      (pss_cons (ps_fld (pv 0) (pv 2) rfl)
      (pss_cons (ps_set (i := 6) sc_put_on_board.nd rfl (Or.inl rfl) (pe_own h_words_of (hr.mono (by decide)) rfl (pa_cons (pe_fldK (K := K) rfl (pv 0) rfl) (pa_cons (pe_fldK (K := K) rfl (pv 0) rfl) (pa_cons (pv 1) (pa_cons (pv 2) pa_nil))))))
      (pss_cons (ps_fld (pv 0) (pe_own h_worth_of_play (hr.mono (by decide)) rfl (pa_cons (pe_fldK (K := K) rfl (pv 0) rfl) (pa_cons (pv 6) (pa_cons (pv 1) (pa_cons (pe_fldK (K := K) rfl (pv 0) rfl) (pa_cons (pe_fldK (K := K) rfl (pv 0) rfl) pa_nil)))))) rfl)
      (pss_cons (ps_augS (pe_fldK (K := K) rfl (pv 0) rfl) (pe_fldK (K := K) rfl (pv 0) rfl) (get_listK (K := K) rfl) (pe_fldK (K := K) rfl (pv 0) rfl) ip_add set_list)
      (pss_cons (ps_fld (pv 0) (pe_gl T.c_CHALLENGING rfl) rfl)
      (pss_one (ps_fld (pv 0) (pe_callB (call_min2 rfl) rfl T.no_min PyProof.Rows.boot_min (pa_cons (pe_op op_sub (pe_gl T.c_HAND_SIZE rfl) (pe_callB (call_lenK (K := K) rfl) rfl T.no_len PySem.boot_len (pa_cons (pv 4) pa_nil))) (pa_cons (pe_callB (cr_sumK (K := K) rfl rfl) rfl T.no_sum PyProof.Rows.boot_sum (pa_cons (pe_fldK (K := K) rfl (pv 0) rfl) pa_nil)) pa_nil))) rfl))))))))))), ?_⟩
    walk_at "rd"
    simp only [fl_rows T hg, fl_players T hg, fl_worths T hg, fl_bag T hg, fl_squares T hg, fl_board T hg, fl_hands T hg, fl_points T hg, fl_lost T hg, fl_words T hg, fl_phase T hg, fl_turn T hg, fl_due T hg, fl_aside T hg, fl_laid T hg, fl_down T hg, fl_counted T hg, fl_idle T hg]
    have htn := fl.ok.turn
    have hhl := fl.ok.hl
    obtain ⟨hd, ehd⟩ : ∃ hd, m.hands[m.turn]? = some hd := ⟨m.hands[m.turn]'(by omega), List.getElem?_eq_getElem (by omega)⟩
    have ehd' := getD_hd ehd
    rw [ehd'] at hin hh7
    obtain ⟨p, hp, hpr⟩ := hg.l_hand ehd
    refine ixl_of (k := m.turn) (SqL.of hg.l_hands) rfl (by rw [List.getElem?_map, hp]; rfl) ?_
    have e0 : ({ m with hands := m.hands.set m.turn (([] : List Nat).foldl (fun h x => h.erase x) hd) } : G) = m := by
      show ({ m with hands := m.hands.set m.turn hd } : G) = m
      rw [← ehd', set_same]
    refine ⟨⟨_, hq⟩, fr_L' (xs := vI faces) (fun i σ H' => ∃ v5 : Option V, σ = [some (V.ref A'.g), some (V.ref l), some (V.int (bI d)), some (V.ref q), some (V.ref p), v5, none] ∧ Keep H H' A'.own ∧ GameAt Z.C H' A' { m with hands := m.hands.set m.turn (((faces.map tileIn).take i).foldl (fun h x => h.erase x) hd) })
      ⟨none, rfl, Keep.refl _ _, by show GameAt Z.C H A' { m with hands := m.hands.set m.turn (([] : List Nat).foldl (fun h x => h.erase x) hd) }; rw [e0]; exact hg⟩ (fun i σ H' _ ⟨_, _, kH, _⟩ => sq_keep kH hq hqo) ?_ ?_⟩
    · rintro i x σ H' hx ⟨v5, rfl, kH, hgi⟩ N hN
      obtain ⟨z, hz, rfl, hzm⟩ := vI_item hx
      have hk : (faces.map tileIn)[i]? = some (tileIn z) := by rw [List.getElem?_map, hz]; rfl
      have ehi : (m.hands.set m.turn (((faces.map tileIn).take i).foldl (fun h x => h.erase x) hd))[m.turn]? = some (((faces.map tileIn).take i).foldl (fun h x => h.erase x) hd) := List.getElem?_set_self (by omega)
      obtain ⟨p', hp', hpr'⟩ := hgi.l_hand (i := m.turn) ehi
      have epp : p' = p := Option.some.inj (hp'.symm.trans hp)
      subst epp
      walk_at "rd"
      refine ⟨.inl ⟨rfl, _, SqL.of hpr'⟩, z, rfl, ?_⟩
      refine (rem_of (K := K) hpr' rfl (taken_mem hin hk) (hN _ _ ⟨_, rfl, kH.trans' (Keep.upd (own_hand hp')), ?_⟩)).2
      have hg4 := hgi.w_hand hp' ehi ((((faces.map tileIn).take i).foldl (fun h x => h.erase x) hd).erase (tileIn z))
      have e5 : ((faces.map tileIn).take (i + 1)).foldl (fun h x => h.erase x) hd = (((faces.map tileIn).take i).foldl (fun h x => h.erase x) hd).erase (tileIn z) := by
        rw [take_succ_of hk, List.foldl_append]; rfl
      rw [e5]
      have e6 : ({ m with hands := m.hands.set m.turn ((((faces.map tileIn).take i).foldl (fun h x => h.erase x) hd).erase (tileIn z)) } : G) = { m with hands := (m.hands.set m.turn (((faces.map tileIn).take i).foldl (fun h x => h.erase x) hd)).set m.turn ((((faces.map tileIn).take i).foldl (fun h x => h.erase x) hd).erase (tileIn z)) } := by
        rw [List.set_set]
      rw [e6]
      exact hg4
    · rintro σ H' ⟨v5, rfl, kH, hgi⟩
      have e1 : (vI faces).length = (faces.map tileIn).length := by simp
      rw [e1, List.take_length] at hgi
      have hel := foldl_erase_len hin
      generalize hhf : (faces.map tileIn).foldl (fun h x => h.erase x) hd = hf at *
      have M1 : Moved Z.C H H' A' A' _ := Moved.inA hgi kH
      have hl1 : H' l = some (.lst (vN laid)) := kH _ _ hl hlo
      walk_at "rd"
      simp only [fl_rows T hgi, fl_players T hgi, fl_worths T hgi, fl_bag T hgi, fl_squares T hgi, fl_board T hgi, fl_hands T hgi, fl_points T hgi, fl_lost T hgi, fl_words T hgi, fl_phase T hgi, fl_turn T hgi, fl_due T hgi, fl_aside T hgi, fl_laid T hgi, fl_down T hgi, fl_counted T hgi, fl_idle T hgi]
      refine ⟨A'.board, l, q, m.board, laid, faces, rfl, SqL.of hgi.l_board, SqL.of hl1, sq_keep kH hq hqo, fun k hk => by rw [fl.brd]; exact hall k hk, fun H2 q2 s2 hq2 hH2 => ?_⟩
      have hg2 := hgi.same s2
      refine sf_board T hg2 hH2 (hgi.new hq2) fun H3 hg3 k3 d3 => ?_
      have hq2H : H q2 = none := M1.dom.new hq2
      have hlq2 : l ≠ q2 := fun e => by rw [← e, hl1] at hq2; cases hq2
      have M3 : Moved Z.C H H3 A' { A' with board := q2 } _ := ⟨hg3, rfl, (kH.trans' (same_keep s2 _)).trans' k3, own_set (j := 3) rfl hq2H, (M1.dom.trans (same_dom s2)).trans d3⟩
      have hl3 : H3 l = some (.lst (vN laid)) := M3.keep _ _ hl hlo
      have hln : l ∉ ({ A' with board := q2 } : GA).own := fun z => by
        rcases M3.own l z with y | y
        · exact hlo y
        · rw [hl] at y; cases y
      refine sf_laid (A := { A' with board := q2 }) T hg3 hl3 hln fun H4 hg4 k4 d4 => ?_
      refine sf_down (A := { A' with board := q2, laid := l }) (d := d) T hg4 fun H5 hg5 k5 => ?_
      -- the own places from here on
      have hown : ∀ b ∈ ({ A' with board := q2, laid := l } : GA).own, b ∈ A'.own ∨ H b = none ∨ b = l := fun b hb => by
        have eo : ({ A' with board := q2, laid := l } : GA).own = ({ A' with board := q2 } : GA).own.set (9 + 1) l := rfl
        rw [eo] at hb
        rcases List.mem_or_eq_of_mem_set hb with z | z
        · rcases M3.own b z with y | y
          · exact .inl y
          · exact .inr (.inl y)
        · exact .inr (.inr z)
      have kp5 : Keep H H5 (l :: A'.own) := fun b o e n => by
        rw [List.mem_cons, not_or] at n
        have e3 := M3.keep b o e n.2
        have nb : b ∉ ({ A' with board := q2 } : GA).own := fun z => by
          rcases M3.own b z with y | y
          · exact n.2 y
          · rw [e] at y; cases y
        have e4 := k4 b o e3 nb
        refine k5 b o e4 fun z => ?_
        rcases hown b z with y | y | y
        · exact n.2 y
        · rw [e] at y; cases y
        · exact n.1 y
      have dom5 : Dom H H5 := (M3.dom.trans d4).trans (Moved.inA hg5 k5).dom
      simp only [fl_rows T hg5, fl_players T hg5, fl_worths T hg5, fl_bag T hg5, fl_squares T hg5, fl_board T hg5, fl_hands T hg5, fl_points T hg5, fl_lost T hg5, fl_words T hg5, fl_phase T hg5, fl_turn T hg5, fl_due T hg5, fl_aside T hg5, fl_laid T hg5, fl_down T hg5, fl_counted T hg5, fl_idle T hg5]
      have hF : ∀ x ∈ ({ A' with board := q2, laid := l } : GA).own, x ∈ l :: A'.own ∨ H x = none := fun x hx => by
        rcases hown x hx with y | y | y
        · exact .inl (List.mem_cons_of_mem _ y)
        · exact .inr y
        · exact .inl (by rw [y]; simp)
      obtain ⟨wl, wall⟩ := words_ok (b := boardWith m.board laid faces) (d := d) hne hall
      have hpl : m.turn < m.points.length := by have := fl.ok.pl; omega
      refine ⟨q2, l, boardWith m.board laid faces, m.rows, laid, d, rfl, SqL.of hg5.l_board, SqL.of hg5.l_laid, by rw [boardWith_len]; exact fl.brd, fl.n11, hne, hl7, hall, fun H6 r ps s6 hr6 hH6 hrows => ?_⟩
      have hg6 := hg5.same s6
      refine Eq.mpr (fl_board (A := { A' with board := q2, laid := l }) T hg6) (Eq.mpr (fl_squares (A := { A' with board := q2, laid := l }) T hg6) (Eq.mpr (fl_worths (A := { A' with board := q2, laid := l }) T hg6) ?_))
      refine ⟨q2, r, l, A'.squares, A'.worths, ps, boardWith m.board laid faces, _, laid, m.squares, m.worths, rfl, SqL.of hg6.l_board, SqL.of hH6, hrows, SqL.of hg6.l_laid, SqL.of hg6.l_squares, SqL.of hg6.l_worths, by omega, fun run hrn => ⟨by have := (wall run hrn).1.1; have := fl.n11; omega, fun k hk => by rw [boardWith_len, fl.brd]; exact (wall run hrn).1.2 k hk⟩,
        by rw [boardWith_len, fl.brd]; exact fl.sq, fl.s4, fl.ok.wl, fl.w20, boardWith_le _ _ _ fl.fc hf26, fun H7 s7 => ?_⟩
      have hg7 := hg6.same s7
      refine sf_counted (A := { A' with board := q2, laid := l }) (k := worthOfPlay (boardWith m.board laid faces) (wordsOf (boardWith m.board laid faces) m.rows laid d) laid m.squares m.worths) T hg7 rfl fun H8 hg8 k8 => ?_
      refine Eq.mpr (fl_points (A := { A' with board := q2, laid := l }) T hg8) (Eq.mpr (fl_turn (A := { A' with board := q2, laid := l }) T hg8) ?_)
      refine getI_of (SqL.of hg8.l_points) hpl rfl (Eq.mpr (fl_counted (A := { A' with board := q2, laid := l }) T hg8) ⟨_, rfl, _, rfl, ?_⟩)
      refine setl_of (k := m.turn) hg8.l_points (by simp; exact hpl) ?_
      rw [vI_set]
      have hg9 := hg8.w_points (m.points.set m.turn (m.points.getD m.turn 0 + ((worthOfPlay (boardWith m.board laid faces) (wordsOf (boardWith m.board laid faces) m.rows laid d) laid m.squares m.worths : Nat) : Int)))
      refine sf_phase (A := { A' with board := q2, laid := l }) (k := 2) T hg9 rfl fun H10 hg10 k10 => ?_
      have ehi : (m.hands.set m.turn hf)[m.turn]? = some hf := List.getElem?_set_self (by omega)
      obtain ⟨p', hp', hpr'⟩ := hg10.l_hand (i := m.turn) ehi
      have epp : p' = p := Option.some.inj (hp'.symm.trans hp)
      subst epp
      refine ⟨vN hf, .inl (SqL.of hpr'), Eq.mpr (fl_bag (A := { A' with board := q2, laid := l }) T hg10) ⟨_, rfl, m.bag.map (fun (k : Nat) => (k : Int)), by rw [← vN_vI]; exact SqL.of hg10.l_bag, ?_⟩⟩
      rw [sum_cast]
      have ehl : ((vN hf).length : Int) = hf.length := by simp
      rw [ehl]
      rw [List.length_map] at hel
      refine sf_due (A := { A' with board := q2, laid := l }) (k := min (7 - hf.length) m.bag.sum) T hg10 (by split <;> omega) fun H11 hg11 k11 => ?_
      have kp11 : Keep H H11 (l :: A'.own) := ((((((kp5.trans (same_keep s6 ({ A' with board := q2, laid := l } : GA).own) hF).trans (same_keep s7 ({ A' with board := q2, laid := l } : GA).own) hF).trans k8 hF).trans (Keep.upd (own_points { A' with board := q2, laid := l })) hF).trans k10 hF).trans k11 hF)
      have dom11 : Dom H H11 := ((((((dom5.trans (same_dom s6)).trans (same_dom s7)).trans (Moved.inA hg8 k8).dom).trans dom_upd).trans (Moved.inA hg10 k10).dom).trans (Moved.inA hg11 k11).dom)
      refine kk H11 { A' with board := q2, laid := l } ?_ rfl (fun b o e n => ?_) hown dom11
      · have eP : putG m laid d faces = { m with hands := m.hands.set m.turn hf, board := boardWith m.board laid faces, laid := laid, down := d, counted := worthOfPlay (boardWith m.board laid faces) (wordsOf (boardWith m.board laid faces) m.rows laid d) laid m.squares m.worths, points := m.points.set m.turn (m.points.getD m.turn 0 + ((worthOfPlay (boardWith m.board laid faces) (wordsOf (boardWith m.board laid faces) m.rows laid d) laid m.squares m.worths : Nat) : Int)), phase := 2, due := min (7 - hf.length) m.bag.sum } := by
          unfold putG
          rw [ehd', hhf]
        rw [eP]
        exact hg11
      · by_cases eb : b = l
        · subst eb
          rw [hl] at e
          have : H11 b = some (.lst (vN laid)) := hg11.l_laid
          rw [this]; exact e
        · exact kp11 b o e (by rw [List.mem_cons, not_or]; exact ⟨eb, n⟩)
end
section
variable {P : Program} {w : World} {K : PySem.W.Frag} {mg : Str → Option Value} {base : Heap} {Z : ZA} {C : Addr} {H H1 H2 : Hp} {A A1 A2 : GA} {m m' m1 m2 : G} {Q : VK} {R : Hp → Prop}
theorem okPlayG_iff {r c d : Int} {l : List Int} : okPlayG m r c d l = true ↔ (0 ≤ r ∧ r < m.rows) ∧ (0 ≤ c ∧ c < m.rows) ∧ (0 ≤ d ∧ d ≤ 1) ∧ (1 ≤ l.length ∧ l.length ≤ 7) ∧ Tiles52 l := by
  unfold okPlayG Tiles52 Kg82.within
  simp only [Bool.and_eq_true, decide_eq_true_eq, List.all_eq_true]
def sp_play (K : PySem.W.Frag) (Z : ZA) : Sp := fun vs H Q _ => ∃ (A : GA) (m : G) (r c d : Int) (a : Addr) (l : List Int), vs = [.ref A.g, .int r, .int c, .int d, .ref a] ∧ GameAt Z.C H A m ∧ SqL K H a (vI l) ∧ l.length ≤ 1000 ∧
  (m.phase = 1 → GFull m ∧ (∀ h ∈ m.hands, h.length ≤ 7)) ∧ GivesL Z.C H A (playG m r c d l).1 Q (vI (playG m r c d l).2)
theorem h_play (T : Txt K mg Z) (F : FunAt K mg "play" s_play P_play) (h_is_play : Has P w K mg base "is_play" 2 P_is_play (sp_is_play K Z)) (h_face_of : Has P w K mg base "face_of" 1 P_face_of sp_face_of) (h_tile_of : Has P w K mg base "tile_of" 1 P_tile_of sp_tile_of)
    (h_is_in_hand : Has P w K mg base "is_in_hand" 1 P_is_in_hand (sp_is_in_hand K)) (h_squares_for : Has P w K mg base "squares_for" 4 P_squares_for (sp_squares_for K)) (h_put_on_board : Has P w K mg base "put_on_board" 4 P_put_on_board (sp_put_on_board K Z))
    (h_standing : Has P w K mg base "standing" 1 P_standing (sp_standing K Z)) : Has P w K mg base "play" 5 P_play (sp_play K Z) := by
  refine F.has sc_play (fun vs H Q E h => ?_) (fun f cdv A outer s H vs Q E hr h => ?_)
  · obtain ⟨A, m, r, c, d, a, l, rfl, _⟩ := h
    rfl
  · obtain ⟨A', m, r, c, d, a, l, rfl, hg, ha, hl, pre, kk⟩ := h
    refine ⟨_, (pss_cons (ps_if (pt_not (pt_val (pe_own h_is_play (hr.mono (by decide)) rfl (pa_cons (pv 0) (pa_cons (pv 1) (pa_cons (pv 2) (pa_cons (pv 3) (pa_cons (pv 4) pa_nil)))))))) (pss_one (ps_ret (pe_lst (pa_cons (pe_un un_neg pe_int) pa_nil)))) pss_nil)
      (pss_cons (ps_if (pt_cmpR op_ne (pe_fldK (K := K) rfl (pv 0) rfl) (pe_gl T.c_PLAYING rfl) (nomark _)) (pss_one (ps_ret (pe_lst (pa_cons (pe_un un_neg pe_int) pa_nil)))) pss_nil)
      (pss_cons (ps_setLc (i := 5) rfl sc_play.nd rfl rfl (sw_true rfl rfl rfl rfl) (pi_listK (K := K) rfl (pv 4)) (show BlkOk N_play (defScope s_play) _ [("tile", 6)] from ⟨rfl, by decide +kernel, by decide +kernel, by decide +kernel, by decide +kernel⟩) (fun _ _ _ _ _ => (pg_name (i := 6) sc_play.nd rfl (Or.inl rfl))) (fun _ _ _ _ _ => pts_nil) (fun _ _ _ _ _ => (pe_own h_face_of (hr.mono (by decide)) rfl (pa_cons (pv 6) pa_nil))))
      (pss_cons (ps_if (pt_not (pt_val (pe_own h_is_in_hand (hr.mono (by decide)) rfl (pa_cons (pe_ix (ix_listK (K := K) rfl) (pe_fldK (K := K) rfl (pv 0) rfl) (pe_fldK (K := K) rfl (pv 0) rfl) (fun _ _ => rfl)) (pa_cons (pe_lc rfl sc_play.nd (pi_listK (K := K) rfl (pv 5)) (show BlkOk N_play (defScope s_play) _ [("face", 7)] from ⟨rfl, by decide +kernel, by decide +kernel, by decide +kernel, by decide +kernel⟩) (fun _ _ _ _ _ => (pg_name (i := 7) sc_play.nd rfl (Or.inl rfl))) (fun _ _ _ _ _ => pts_nil) (fun _ _ _ _ _ => (pe_own h_tile_of (hr.mono (by decide)) rfl (pa_cons (pv 7) pa_nil)))) pa_nil))))) (pss_one (ps_ret (pe_lst (pa_cons (pe_un un_neg pe_int) pa_nil)))) pss_nil)
      (pss_cons (ps_set (i := 8) sc_play.nd rfl (Or.inl rfl) (pe_own h_squares_for (hr.mono (by decide)) rfl (pa_cons (pe_fldK (K := K) rfl (pv 0) rfl) (pa_cons (pe_fldK (K := K) rfl (pv 0) rfl) (pa_cons (pv 1) (pa_cons (pv 2) (pa_cons (pv 3) (pa_cons (pv 5) pa_nil))))))))
      (pss_cons (ps_if (pt_cmpR op_eq (pe_callB (call_lenK (K := K) rfl) rfl T.no_len PySem.boot_len (pa_cons (pv 8) pa_nil)) pe_int (nomark _)) (pss_one (ps_ret (pe_lst (pa_cons (pe_un un_neg pe_int) pa_nil)))) pss_nil)
      (pss_cons (ps_expr (pe_own h_put_on_board (hr.mono (by decide)) rfl (pa_cons (pv 0) (pa_cons (pv 8) (pa_cons (pv 3) (pa_cons (pv 5) pa_nil))))))
      (pss_one (ps_ret (pe_op op_cat (pe_lst (pa_cons (pe_fldK (K := K) rfl (pv 0) rfl) pa_nil)) (pe_own h_standing (hr.mono (by decide)) rfl (pa_cons (pv 0) pa_nil)))))))))))), ?_⟩
    walk_at "rd"
    unfold playG at kk
    refine ⟨A', m, r, c, d, a, l, rfl, hg, ha, hl, fun H1 s1 => ⟨_, rfl, ?_⟩⟩
    have hg1 := hg.same s1
    by_cases c1 : okPlayG m r c d l = true
    · rw [if_neg (by simp [c1])]
      rw [if_neg (by simp [c1])] at kk
      obtain ⟨⟨r0, r1⟩, ⟨c0, c1'⟩, ⟨d0, d1⟩, ⟨l1, l7⟩, hT⟩ := okPlayG_iff.mp c1
      simp only [fl_rows T hg1, fl_players T hg1, fl_worths T hg1, fl_bag T hg1, fl_squares T hg1, fl_board T hg1, fl_hands T hg1, fl_points T hg1, fl_lost T hg1, fl_words T hg1, fl_phase T hg1, fl_turn T hg1, fl_due T hg1, fl_aside T hg1, fl_laid T hg1, fl_down T hg1, fl_counted T hg1, fl_idle T hg1]
      walk_at "rd"
      by_cases c2 : m.phase = 1
      · rw [if_neg (by omega)]
        rw [if_neg (by omega)] at kk
        obtain ⟨fl, h7⟩ := pre c2
        have htn := fl.ok.turn
        have hhl := fl.ok.hl
        obtain ⟨hd, ehd⟩ : ∃ hd, m.hands[m.turn]? = some hd := ⟨m.hands[m.turn]'(by omega), List.getElem?_eq_getElem (by omega)⟩
        have ehd' := getD_hd ehd
        refine ⟨⟨_, SqL.same s1 ha⟩, lc_L (xs := vI l) (fun _ => true) (onI fun z => .int (faceI z)) (SqL.same s1 ha) (by simp; exact sz hl) (fun i x H2 Ry Rn hx sm2 hy hn2 => ?_) (fun D H2 hD s2 hH2 => ?_)⟩
        · obtain ⟨z, hz, rfl, hzm⟩ := vI_item hx
          walk_at "rd"
          exact ⟨z, rfl, hy rfl H2 (Same.refl _)⟩
        · rw [out_I] at hH2
          have hD2 : H2 D = some (.lst (vI (l.map faceI))) := by
            rw [hH2]
            show _ = some (HO.lst (List.map V.int (l.map faceI)))
            rw [List.map_map]; rfl
          have hg2 := hg1.same s2
          have sA := s1.trans s2
          have hDH : H D = none := s1.free hD
          obtain ⟨p, hp, hpr⟩ := hg2.l_hand ehd
          simp only [fl_rows T hg2, fl_players T hg2, fl_worths T hg2, fl_bag T hg2, fl_squares T hg2, fl_board T hg2, fl_hands T hg2, fl_points T hg2, fl_lost T hg2, fl_words T hg2, fl_phase T hg2, fl_turn T hg2, fl_due T hg2, fl_aside T hg2, fl_laid T hg2, fl_down T hg2, fl_counted T hg2, fl_idle T hg2]
          refine ixl_of (k := m.turn) (SqL.of hg2.l_hands) rfl (by rw [List.getElem?_map, hp]; rfl) ?_
          refine ⟨D, rfl, ⟨_, SqL.of hD2⟩, lc_L (xs := vI (l.map faceI)) (fun _ => true) (onI fun z => .int ((tileIn z : Nat) : Int)) (SqL.of hD2) (by simp; exact sz hl) (fun i x H3 Ry Rn hx sm3 hy hn3 => ?_) (fun D' H3 hD' s3 hH3 => ?_)⟩
          · obtain ⟨z, hz, rfl, hzm⟩ := vI_item hx
            walk_at "rd"
            exact ⟨z, rfl, hy rfl H3 (Same.refl _)⟩
          · rw [out_I] at hH3
            have hD3 : H3 D' = some (.lst (vN ((l.map faceI).map tileIn))) := by
              rw [hH3]
              show _ = some (HO.lst (List.map (fun (k : Nat) => V.int (k : Int)) ((l.map faceI).map tileIn)))
              simp only [List.map_map]; rfl
            refine ⟨p, D', hd, (l.map faceI).map tileIn, rfl, SqL.of (s3 _ _ hpr), SqL.of hD3, by simp; omega, fun H4 s4 => ⟨_, rfl, ?_⟩⟩
            have sB := sA.trans (s3.trans s4)
            have hg4 := hg.same sB
            rw [ehd'] at kk
            by_cases c3 : inHandAll hd ((l.map faceI).map tileIn) = true
            · rw [if_neg (by rw [c3]; decide)]
              rw [if_neg (by rw [c3]; decide)] at kk
              simp only [fl_rows T hg4, fl_players T hg4, fl_worths T hg4, fl_bag T hg4, fl_squares T hg4, fl_board T hg4, fl_hands T hg4, fl_points T hg4, fl_lost T hg4, fl_words T hg4, fl_phase T hg4, fl_turn T hg4, fl_due T hg4, fl_aside T hg4, fl_laid T hg4, fl_down T hg4, fl_counted T hg4, fl_idle T hg4]
              have ed : d = bI (d == 1) := by
                have : d = 0 ∨ d = 1 := by omega
                rcases this with e | e <;> subst e <;> rfl
              have er : r = (r.toNat : Int) := by omega
              have ec : c = (c.toNat : Int) := by omega
              have hDs : SqL K H4 D (vI (l.map faceI)) := SqL.of (s4 _ _ (s3 _ _ hD2))
              have hne : l.map faceI ≠ [] := fun e => by
                have := congrArg List.length e
                simp at this
                subst this
                simp at l1
              refine ⟨A'.board, D, m.board, m.rows, r.toNat, c.toNat, d == 1, l.map faceI, by rw [← er, ← ec, ← ed], SqL.of hg4.l_board, hDs, fl.brd, by omega, by omega, fl.n11, hne, by simp; omega, faces_ne hT, fun H5 q s5 hq hH5 => ?_⟩
              have sC := sB.trans s5
              have hg5 := hg.same sC
              have hqH : H q = none := sB.free hq
              refine ⟨q, rfl, _, .inl (SqL.of hH5), ?_⟩
              by_cases c4 : squaresFor m.board m.rows r.toNat c.toNat (d == 1) (l.map faceI) = []
              · rw [if_pos (by rw [c4]; rfl)]
                rw [if_pos c4] at kk
                exact ref_of hg kk sC
              · obtain ⟨lok, hql⟩ := squaresFor_ok (d := d == 1) fl.brd (by omega : r.toNat < m.rows) (by omega : c.toNat < m.rows) (faces_ne hT) hne c4
                have hnz : ¬ (((vN (squaresFor m.board m.rows r.toNat c.toNat (d == 1) (l.map faceI))).length : Int) = 0) := fun e => c4 (by
                  have : (squaresFor m.board m.rows r.toNat c.toNat (d == 1) (l.map faceI)).length = 0 := by simpa using e
                  exact List.length_eq_zero_iff.mp this)
                rw [if_neg hnz]
                rw [if_neg c4] at kk
                generalize squaresFor m.board m.rows r.toNat c.toNat (d == 1) (l.map faceI) = L at *
                have hqo : q ∉ A'.own := hg.new hqH
                have hDo : D ∉ A'.own := hg.new hDH
                refine ⟨A', m, q, D, d == 1, L, l.map faceI, by rw [← ed], hg5, fl, hH5, hqo, SqL.same s5 hDs, hDo, lok.ne, by rw [hql, List.length_map]; exact l7, hql, lok.lt, fun z hz => ?_, by rw [ehd']; exact c3, by rw [ehd']; exact h7 hd (List.mem_of_getElem? ehd), fun H6 A6 hg6 e6 k6 own6 dom6 => ?_⟩
                · obtain ⟨y, hy, rfl⟩ := List.mem_map.mp hz
                  have := hT y hy
                  unfold faceI
                  split <;> omega
                · have M6 : Moved Z.C H H6 A' A6 (putG m L (d == 1) (l.map faceI)) := by
                    refine ⟨hg6, e6, (same_keep sC _).trans' k6, fun b hb => ?_, (same_dom sC).trans dom6⟩
                    rcases own6 b hb with y | y | y
                    · exact .inl y
                    · exact .inr (sC.free y)
                    · exact .inr (by rw [y]; exact hqH)
                  rw [← e6]
                  refine Eq.mpr (fl_counted T hg6) ?_
                  have hp4 : (putG m L (d == 1) (l.map faceI)).points.length ≤ 4 := by
                    show (m.points.set _ _).length ≤ 4
                    rw [List.length_set]
                    have := fl.ok.pl
                    have := fl.ok.p4
                    omega
                  rw [e6]
                  exact ret_standing M6 hp4 kk
            · rw [Bool.not_eq_true] at c3
              rw [if_pos c3]
              rw [if_pos c3] at kk
              exact ref_of hg kk sB
      · rw [if_pos (by omega)]
        rw [if_pos c2] at kk
        exact ref_of hg kk s1
    · rw [if_pos (by simpa using c1)]
      rw [if_pos (by simpa using c1)] at kk
      exact ref_of hg kk s1
def sp_challenge (K : PySem.W.Frag) (Z : ZA) : Sp := fun vs H Q _ => ∃ (A : GA) (m : G) (i : Int), vs = [.ref A.g, .int i] ∧ GameAt Z.C H A m ∧ (m.phase = 2 → GFull m ∧ m.laid ≠ [] ∧ m.laid.length ≤ 7 ∧ m.laid.Nodup ∧ (∀ h ∈ m.hands, h.length ≤ 7)) ∧ GivesL Z.C H A (challengeG m i).1 Q (vI (challengeG m i).2)
theorem h_challenge (T : Txt K mg Z) (F : FunAt K mg "challenge" s_challenge P_challenge) (h_unlisted_words : Has P w K mg base "unlisted_words" 4 P_unlisted_words (sp_unlisted_words K Z)) (h_take_back : Has P w K mg base "take_back" 2 P_take_back (sp_take_back Z)) (h_end_turn : Has P w K mg base "end_turn" 3 P_end_turn (sp_end_turn Z))
    (h_standing : Has P w K mg base "standing" 1 P_standing (sp_standing K Z)) : Has P w K mg base "challenge" 5 P_challenge (sp_challenge K Z) := by
  refine F.has sc_challenge (fun vs H Q E h => ?_) (fun f cdv A outer s H vs Q E hr h => ?_)
  · obtain ⟨A, m, i, rfl, _⟩ := h
    rfl
  · obtain ⟨A', m, i, rfl, hg, pre, kk⟩ := h
    refine ⟨_, (pss_cons (ps_if (pt_not (pt_chain op_le op_lt pe_int (pv 1) (pe_fldK (K := K) rfl (pv 0) rfl))) (pss_one (ps_ret (pe_lst (pa_cons (pe_un un_neg pe_int) pa_nil)))) pss_nil)
      (pss_cons (ps_if (pt_cmpR op_ne (pe_fldK (K := K) rfl (pv 0) rfl) (pe_gl T.c_CHALLENGING rfl) (nomark _)) (pss_one (ps_ret (pe_lst (pa_cons (pe_un un_neg pe_int) pa_nil)))) pss_nil)
      (pss_cons (ps_if (pt_cmpR op_eq (pv 1) (pe_fldK (K := K) rfl (pv 0) rfl) (nomark _)) (pss_one (ps_ret (pe_lst (pa_cons (pe_un un_neg pe_int) pa_nil)))) pss_nil)
      (pss_cons (ps_set (i := 2) sc_challenge.nd rfl (Or.inl rfl) (pe_callB (call_lenK (K := K) rfl) rfl T.no_len PySem.boot_len (pa_cons (pe_own h_unlisted_words (hr.mono (by decide)) rfl (pa_cons (pv 0) pa_nil)) pa_nil)))
      (pss_cons (ps_if (pt_cmpR op_gt (pv 2) pe_int (nomark _)) (pss_cons (ps_expr (pe_own h_take_back (hr.mono (by decide)) rfl (pa_cons (pv 0) pa_nil)))
      (pss_one (ps_expr (pe_own h_end_turn (hr.mono (by decide)) rfl (pa_cons (pv 0) (pa_cons pe_int pa_nil)))))) (pss_one (ps_asg pe_int (pg_sub (pe_fldK (K := K) rfl (pv 0) rfl) (pv 1) set_list))))
      (pss_one (ps_ret (pe_op op_cat (pe_lst (pa_cons (pv 2) pa_nil)) (pe_own h_standing (hr.mono (by decide)) rfl (pa_cons (pv 0) pa_nil)))))))))), ?_⟩
    walk_at "rd"
    simp only [fl_rows T hg, fl_players T hg, fl_worths T hg, fl_bag T hg, fl_squares T hg, fl_board T hg, fl_hands T hg, fl_points T hg, fl_lost T hg, fl_words T hg, fl_phase T hg, fl_turn T hg, fl_due T hg, fl_aside T hg, fl_laid T hg, fl_down T hg, fl_counted T hg, fl_idle T hg]
    walk_at "rd"
    unfold challengeG at kk
    by_cases c1 : 0 ≤ i
    · rw [if_pos c1]
      by_cases c2 : i < m.players
      · rw [if_neg (fun z => z c2)]
        rw [if_neg (by simp [c1, c2])] at kk
        by_cases c3 : m.phase = 2
        · rw [if_neg (by omega)]
          rw [if_neg (by omega)] at kk
          by_cases c4 : i = m.turn
          · rw [if_pos c4]
            rw [if_pos c4] at kk
            exact ref_of hg kk (Same.refl _)
          · rw [if_neg c4]
            rw [if_neg c4] at kk
            obtain ⟨fl, hne, hl7, hnd, h7⟩ := pre c3
            refine ⟨A', m, rfl, hg, fl, hne, hl7, fun H1 p ps s1 hp hH1 hpl => ?_⟩
            have hg1 := hg.same s1
            refine ⟨p, rfl, _, .inl (SqL.of hH1), ?_⟩
            have el : ((ps.map V.ref).length : Int) = ((unlisted m).length : Nat) := by rw [List.length_map, hpl]
            rw [el]
            have hp4 : m.points.length ≤ 4 := by have := fl.ok.pl; have := fl.ok.p4; omega
            by_cases c5 : 0 < (unlisted m).length
            · rw [if_pos (by omega)]
              rw [if_pos c5] at kk
              refine ⟨A', m, rfl, hg1, fl, hnd, hl7, fun H2 hg2 k2 => ?_⟩
              have ok2 : GOk (takeBack m) := by
                refine ⟨fl.ok.wl, fun h hh => ?_, by show (m.hands.set _ _).length = _; rw [List.length_set]; exact fl.ok.hl, by show (m.points.set _ _).length = _; rw [List.length_set]; exact fl.ok.pl, fl.ok.ll, fl.ok.turn, fl.ok.p4⟩
                rcases List.mem_or_eq_of_mem_set (show h ∈ m.hands.set m.turn (m.hands.getD m.turn [] ++ m.laid.map fun k => tileIn (m.board.getD k 0)) from hh) with z | z
                · exact fl.ok.hd h z
                · have htn := fl.ok.turn
                  have hhl := fl.ok.hl
                  obtain ⟨hd, ehd⟩ : ∃ hd, m.hands[m.turn]? = some hd := ⟨m.hands[m.turn]'(by omega), List.getElem?_eq_getElem (by omega)⟩
                  rw [getD_hd ehd] at z
                  subst z
                  have hdm := List.mem_of_getElem? ehd
                  have := h7 hd hdm
                  refine ⟨by rw [List.length_append, List.length_map]; omega, fun x hx => ?_⟩
                  rcases List.mem_append.mp hx with y | y
                  · exact (fl.ok.hd hd hdm).2 x y
                  · obtain ⟨k, hk, rfl⟩ := List.mem_map.mp y
                    have hkb : k < m.board.length := by rw [fl.brd]; exact fl.ld k hk
                    have := fl.fc (m.board.getD k 0) (by rw [List.getD_eq_getElem?_getD, List.getElem?_eq_getElem hkb]; exact List.getElem_mem hkb)
                    unfold tileIn
                    omega
              refine ⟨A', takeBack m, 0, rfl, hg2, ok2, fun H3 hg3 k3 => ?_⟩
              exact ret_standing (Moved.inA hg3 (((same_keep s1 _).trans' k2).trans' k3)) (et_points (takeBack m) 0 (by show (m.points.set _ _).length ≤ 4; rw [List.length_set]; exact hp4)) kk
            · rw [if_neg (by omega)]
              rw [if_neg c5] at kk
              have e0 : (unlisted m).length = 0 := by omega
              rw [e0]
              rw [fl_lost T hg1]
              obtain ⟨j, rfl⟩ : ∃ j : Nat, i = j := ⟨i.toNat, by omega⟩
              have hjl : j < m.lost.length := by have := fl.ok.ll; omega
              refine setl_of (k := j) hg1.l_lost (by simp; exact hjl) ?_
              have e1 : (vN m.lost).set j (V.int 1) = vN (m.lost.set j 1) := vN_set m.lost j 1
              rw [e1]
              have hg2 := hg1.w_lost (m.lost.set j 1)
              rw [Int.toNat_natCast] at kk
              exact ret_standing (Moved.inA hg2 ((same_keep s1 _).trans' (Keep.upd (own_lost A')))) hp4 kk
        · rw [if_pos (by omega)]
          rw [if_pos c3] at kk
          exact ref_of hg kk (Same.refl _)
      · rw [if_pos c2]
        rw [if_pos (by simp [c2])] at kk
        exact ref_of hg kk (Same.refl _)
    · rw [if_neg c1]
      rw [if_pos (by simp [c1])] at kk
      exact ref_of hg kk (Same.refl _)
end
section
variable {P : Program} {w : World} {K : PySem.W.Frag} {mg : Str → Option Value} {base : Heap} {Z : ZA} {C : Addr} {H H1 H2 : Hp} {A A1 A2 : GA} {m m' m1 m2 : G} {Q : VK} {R : Hp → Prop}
def sp_pass_turn (K : PySem.W.Frag) (Z : ZA) : Sp := fun vs H Q _ => ∃ (A : GA) (m : G), vs = [.ref A.g] ∧ GameAt Z.C H A m ∧ (m.phase = 1 → GOk m) ∧ GivesL Z.C H A (passG m).1 Q (vI (passG m).2)
theorem h_pass_turn (T : Txt K mg Z) (F : FunAt K mg "pass_turn" s_pass_turn P_pass_turn) (h_end_turn : Has P w K mg base "end_turn" 3 P_end_turn (sp_end_turn Z)) (h_standing : Has P w K mg base "standing" 1 P_standing (sp_standing K Z)) : Has P w K mg base "pass_turn" 4 P_pass_turn (sp_pass_turn K Z) := by
  refine F.has sc_pass_turn (fun vs H Q E h => ?_) (fun f cdv A outer s H vs Q E hr h => ?_)
  · obtain ⟨A, m, rfl, _⟩ := h
    rfl
  · obtain ⟨A', m, rfl, hg, pre, kk⟩ := h
    refine ⟨_, (pss_cons (ps_if (pt_cmpR op_ne (pe_fldK (K := K) rfl (pv 0) rfl) (pe_gl T.c_PLAYING rfl) (nomark _)) (pss_one (ps_ret (pe_lst (pa_cons (pe_un un_neg pe_int) pa_nil)))) pss_nil)
      (pss_cons (ps_expr (pe_own h_end_turn (hr.mono (by decide)) rfl (pa_cons (pv 0) (pa_cons pe_int pa_nil))))
      (pss_one (ps_ret (pe_op op_cat (pe_lst (pa_cons pe_int pa_nil)) (pe_own h_standing (hr.mono (by decide)) rfl (pa_cons (pv 0) pa_nil))))))), ?_⟩
    walk_at "rd"
    simp only [fl_rows T hg, fl_players T hg, fl_worths T hg, fl_bag T hg, fl_squares T hg, fl_board T hg, fl_hands T hg, fl_points T hg, fl_lost T hg, fl_words T hg, fl_phase T hg, fl_turn T hg, fl_due T hg, fl_aside T hg, fl_laid T hg, fl_down T hg, fl_counted T hg, fl_idle T hg]
    walk_at "rd"
    unfold passG at kk
    by_cases c1 : m.phase = 1
    · rw [if_neg (by omega)]
      rw [if_neg (by omega)] at kk
      have ok := pre c1
      have hp4 : m.points.length ≤ 4 := by have := ok.pl; have := ok.p4; omega
      refine ⟨A', m, 0, rfl, hg, ok, fun H1 hg1 k1 => ?_⟩
      exact ret_standing (Moved.inA hg1 k1) (et_points m 0 hp4) kk
    · rw [if_pos (by omega)]
      rw [if_pos c1] at kk
      exact ref_of hg kk (Same.refl _)
def sp_tell_now (K : PySem.W.Frag) (Z : ZA) : Sp := fun vs H Q _ => ∃ (A : GA) (m : G), vs = [.ref A.g] ∧ GameAt Z.C H A m ∧ m.points.length ≤ 4 ∧ GivesL Z.C H A m Q (vI (nowG m))
theorem h_tell_now (T : Txt K mg Z) (F : FunAt K mg "tell_now" s_tell_now P_tell_now) (h_standing : Has P w K mg base "standing" 1 P_standing (sp_standing K Z)) : Has P w K mg base "tell_now" 2 P_tell_now (sp_tell_now K Z) := by
  refine F.has sc_tell_now (fun vs H Q E h => ?_) (fun f cdv A outer s H vs Q E hr h => ?_)
  · obtain ⟨A, m, rfl, _⟩ := h
    rfl
  · obtain ⟨A', m, rfl, hg, hp4, kk⟩ := h
    refine ⟨_, (pss_one (ps_ret (pe_op op_cat (pe_lst (pa_cons (pe_fldK (K := K) rfl (pv 0) rfl) pa_nil)) (pe_own h_standing (hr.mono (by decide)) rfl (pa_cons (pv 0) pa_nil))))), ?_⟩
    walk_at "rd"
    simp only [fl_rows T hg, fl_players T hg, fl_worths T hg, fl_bag T hg, fl_squares T hg, fl_board T hg, fl_hands T hg, fl_points T hg, fl_lost T hg, fl_words T hg, fl_phase T hg, fl_turn T hg, fl_due T hg, fl_aside T hg, fl_laid T hg, fl_down T hg, fl_counted T hg, fl_idle T hg]
    exact ret_standing (Moved.same hg (Same.refl _)) hp4 kk
def sp_tell_hand (K : PySem.W.Frag) (Z : ZA) : Sp := fun vs H Q _ => ∃ (A : GA) (m : G) (i : Int), vs = [.ref A.g, .int i] ∧ GameAt Z.C H A m ∧ GP m ∧ HdOk m ∧ GivesL Z.C H A m Q (vI (handG m i))
theorem h_tell_hand (T : Txt K mg Z) (F : FunAt K mg "tell_hand" s_tell_hand P_tell_hand) : Has P w K mg base "tell_hand" 1 P_tell_hand (sp_tell_hand K Z) := by
  refine F.has sc_tell_hand (fun vs H Q E h => ?_) (fun f cdv A outer s H vs Q E hr h => ?_)
  · obtain ⟨A, m, i, rfl, _⟩ := h
    rfl
  · obtain ⟨A', m, i, rfl, hg, gp, hdo, kk⟩ := h
    refine ⟨_, (pss_cons (ps_if (pt_not (pt_chain op_le op_lt pe_int (pv 1) (pe_fldK (K := K) rfl (pv 0) rfl))) (pss_one (ps_ret (pe_lst (pa_cons (pe_un un_neg pe_int) pa_nil)))) pss_nil)
      (pss_one (ps_ret (pe_op op_cat (pe_lst (pa_cons (pe_callB (call_lenK (K := K) rfl) rfl T.no_len PySem.boot_len (pa_cons (pe_ix (ix_listK (K := K) rfl) (pe_fldK (K := K) rfl (pv 0) rfl) (pv 1) (fun _ _ => rfl)) pa_nil)) (pa_cons (pe_ix (ix_listK (K := K) rfl) (pe_fldK (K := K) rfl (pv 0) rfl) (pv 1) (fun _ _ => rfl)) pa_nil))) (pe_ix (ix_listK (K := K) rfl) (pe_fldK (K := K) rfl (pv 0) rfl) (pv 1) (fun _ _ => rfl)))))), ?_⟩
    walk_at "rd"
    simp only [fl_rows T hg, fl_players T hg, fl_worths T hg, fl_bag T hg, fl_squares T hg, fl_board T hg, fl_hands T hg, fl_points T hg, fl_lost T hg, fl_words T hg, fl_phase T hg, fl_turn T hg, fl_due T hg, fl_aside T hg, fl_laid T hg, fl_down T hg, fl_counted T hg, fl_idle T hg]
    walk_at "rd"
    unfold handG at kk
    by_cases c1 : 0 ≤ i
    · rw [if_pos c1]
      by_cases c2 : i < m.players
      · rw [if_neg (fun z => z c2)]
        rw [if_neg (by simp [c1, c2])] at kk
        obtain ⟨j, rfl⟩ : ∃ j : Nat, i = j := ⟨i.toNat, by omega⟩
        rw [Int.toNat_natCast] at kk
        have hjh : j < m.hands.length := by have := gp.hl; omega
        have hjl : j < m.lost.length := by have := gp.ll; omega
        obtain ⟨hd, ehd⟩ : ∃ hd, m.hands[j]? = some hd := ⟨m.hands[j], List.getElem?_eq_getElem hjh⟩
        have ehd' := getD_hd ehd
        rw [ehd'] at kk
        have hd14 := hdo hd (List.mem_of_getElem? ehd)
        obtain ⟨p, hp, hpr⟩ := hg.l_hand ehd
        have hix : (A'.hs.map V.ref)[j]? = some (V.ref p) := by rw [List.getElem?_map, hp]; rfl
        refine ixl_of (k := j) (SqL.of hg.l_hands) rfl hix ?_
        refine ⟨_, rfl, vN hd, .inl (SqL.of hpr), ?_⟩
        refine Eq.mpr (fl_lost T hg) ?_
        refine ixl_of (k := j) (SqL.of hg.l_lost) rfl (vN_at hjl) ?_
        refine ⟨by decide, fun q hq => ?_⟩
        have s1 : Same H (upd H q (.lst [V.int ((vN hd).length : Int), V.int ((m.lost.getD j 0 : Nat) : Int)])) := Same.new hq
        have hg1 := hg.same s1
        refine Eq.mpr (fl_hands T hg1) ?_
        refine ixl_of (k := j) (SqL.of hg1.l_hands) rfl hix ?_
        refine ⟨q, p, _, _, rfl, rfl, upd_same, s1 _ _ hpr, by rw [List.length_map]; exact sz (by simp; omega), fun r hr => ?_⟩
        have e : [V.int ((vN hd).length : Int), V.int ((m.lost.getD j 0 : Nat) : Int)] ++ vN hd = vI ((hd.length : Int) :: (m.lost.getD j 0 : Int) :: Kg82.whole hd) := by
          rw [List.length_map, vN_vI]; rfl
        rw [e]
        exact kk _ A' r (Moved.same hg (s1.trans (Same.new hr))) (s1.free hr) (hg.new (s1.free hr)) upd_same
      · rw [if_pos c2]
        rw [if_pos (by simp [c2])] at kk
        exact ref_of hg kk (Same.refl _)
    · rw [if_neg c1]
      rw [if_pos (by simp [c1])] at kk
      exact ref_of hg kk (Same.refl _)
def sp_tell_board (K : PySem.W.Frag) (Z : ZA) : Sp := fun vs H Q _ => ∃ (A : GA) (m : G), vs = [.ref A.g] ∧ GameAt Z.C H A m ∧ m.board.length ≤ 121 ∧ GivesL Z.C H A m Q (vI (boardG m))
theorem h_tell_board (T : Txt K mg Z) (F : FunAt K mg "tell_board" s_tell_board P_tell_board) : Has P w K mg base "tell_board" 1 P_tell_board (sp_tell_board K Z) := by
  refine F.has sc_tell_board (fun vs H Q E h => ?_) (fun f cdv A outer s H vs Q E hr h => ?_)
  · obtain ⟨A, m, rfl, _⟩ := h
    rfl
  · obtain ⟨A', m, rfl, hg, hb, kk⟩ := h
    refine ⟨_, (pss_one (ps_ret (pe_op op_cat (pe_lst (pa_cons (pe_fldK (K := K) rfl (pv 0) rfl) pa_nil)) (pe_fldK (K := K) rfl (pv 0) rfl)))), ?_⟩
    walk_at "rd"
    simp only [fl_rows T hg, fl_players T hg, fl_worths T hg, fl_bag T hg, fl_squares T hg, fl_board T hg, fl_hands T hg, fl_points T hg, fl_lost T hg, fl_words T hg, fl_phase T hg, fl_turn T hg, fl_due T hg, fl_aside T hg, fl_laid T hg, fl_down T hg, fl_counted T hg, fl_idle T hg]
    refine ⟨by decide, fun q hq => ?_⟩
    have s1 : Same H (upd H q (.lst [V.int (m.rows : Int)])) := Same.new hq
    have hg1 := hg.same s1
    refine Eq.mpr (fl_board T hg1) ?_
    refine ⟨q, A'.board, _, _, rfl, rfl, upd_same, hg1.l_board, by rw [List.length_map]; exact sz (by simp; omega), fun r hr => ?_⟩
    exact kk _ A' r (Moved.same hg (s1.trans (Same.new hr))) (s1.free hr) (hg.new (s1.free hr)) upd_same
def cntW (b : List Int) (q sq wo : List Nat) (w : List Nat) : List Int := (w.length : Int) :: (Kg82.whole (lettersOn b w) ++ [((worthOfWord b w q sq wo : Nat) : Int)])
theorem cntW_len (b : List Int) (q sq wo w : List Nat) : (cntW b q sq wo w).length = w.length + 2 := by
  unfold cntW Kg82.whole lettersOn
  simp
theorem flat_len {f : List Nat → List Int} {n : Nat} : ∀ ws : List (List Nat), (∀ w ∈ ws, (f w).length ≤ n) → (ws.flatMap f).length ≤ ws.length * n
  | [], _ => by simp
  | w :: ws, h => by
    have ih := flat_len ws fun x hx => h x (List.mem_cons_of_mem _ hx)
    have h1 := h w (by simp)
    rw [List.flatMap_cons, List.length_append, List.length_cons, Nat.succ_mul]
    omega
theorem rows_at {ps : List Addr} {ws : List (List Nat)} {i : Nat} {c : Addr} (r : Rows H ps ws) (h : ps[i]? = some c) : ∃ run, ws[i]? = some run ∧ H c = some (.lst (vN run)) := by
  induction r generalizing i with
  | nil => simp at h
  | cons h' t ih =>
    cases i with
    | zero =>
      have e := Option.some.inj h
      subst e
      exact ⟨_, rfl, h'⟩
    | succ i => exact ih h
def sp_tell_count (K : PySem.W.Frag) (Z : ZA) : Sp := fun vs H Q _ => ∃ (A : GA) (m : G) (r c d : Int) (a : Addr) (l : List Int), vs = [.ref A.g, .int r, .int c, .int d, .ref a] ∧ GameAt Z.C H A m ∧ SqL K H a (vI l) ∧ l.length ≤ 1000 ∧
  (0 < m.rows → GLook m) ∧ GivesL Z.C H A m Q (vI (countG m r c d l))
theorem h_tell_count (T : Txt K mg Z) (F : FunAt K mg "tell_count" s_tell_count P_tell_count) (h_is_play : Has P w K mg base "is_play" 2 P_is_play (sp_is_play K Z)) (h_face_of : Has P w K mg base "face_of" 1 P_face_of sp_face_of)
    (h_squares_for : Has P w K mg base "squares_for" 4 P_squares_for (sp_squares_for K)) (h_board_with : Has P w K mg base "board_with" 1 P_board_with (sp_board_with K)) (h_words_of : Has P w K mg base "words_of" 3 P_words_of (sp_words_of K))
    (h_worth_of_play : Has P w K mg base "worth_of_play" 3 P_worth_of_play (sp_worth_of_play K)) (h_letters_on : Has P w K mg base "letters_on" 1 P_letters_on (sp_letters_on K)) (h_worth_of_word : Has P w K mg base "worth_of_word" 2 P_worth_of_word (sp_worth_of_word K)) : Has P w K mg base "tell_count" 5 P_tell_count (sp_tell_count K Z) := by
  refine F.has sc_tell_count (fun vs H Q E h => ?_) (fun f cdv A outer s H vs Q E hr h => ?_)
  · obtain ⟨A, m, r, c, d, a, l, rfl, _⟩ := h
    rfl
  · obtain ⟨A', m, r, c, d, a, l, rfl, hg, ha, hl, pre, kk⟩ := h
    refine ⟨_, (pss_cons (ps_if (pt_not (pt_val (pe_own h_is_play (hr.mono (by decide)) rfl (pa_cons (pv 0) (pa_cons (pv 1) (pa_cons (pv 2) (pa_cons (pv 3) (pa_cons (pv 4) pa_nil)))))))) (pss_one (ps_ret (pe_lst (pa_cons (pe_un un_neg pe_int) pa_nil)))) pss_nil)
      (pss_cons (ps_setLc (i := 5) rfl sc_tell_count.nd rfl rfl (sw_true rfl rfl rfl rfl) (pi_listK (K := K) rfl (pv 4)) (show BlkOk N_tell_count (defScope s_tell_count) _ [("tile", 6)] from ⟨rfl, by decide +kernel, by decide +kernel, by decide +kernel, by decide +kernel⟩) (fun _ _ _ _ _ => (pg_name (i := 6) sc_tell_count.nd rfl (Or.inl rfl))) (fun _ _ _ _ _ => pts_nil) (fun _ _ _ _ _ => (pe_own h_face_of (hr.mono (by decide)) rfl (pa_cons (pv 6) pa_nil))))
      (pss_cons (ps_set (i := 7) sc_tell_count.nd rfl (Or.inl rfl) (pe_own h_squares_for (hr.mono (by decide)) rfl (pa_cons (pe_fldK (K := K) rfl (pv 0) rfl) (pa_cons (pe_fldK (K := K) rfl (pv 0) rfl) (pa_cons (pv 1) (pa_cons (pv 2) (pa_cons (pv 3) (pa_cons (pv 5) pa_nil))))))))
      (pss_cons (ps_if (pt_cmpR op_eq (pe_callB (call_lenK (K := K) rfl) rfl T.no_len PySem.boot_len (pa_cons (pv 7) pa_nil)) pe_int (nomark _)) (pss_one (ps_ret (pe_lst (pa_cons (pe_un un_neg pe_int) pa_nil)))) pss_nil)
      (pss_cons (ps_set (i := 8) sc_tell_count.nd rfl (Or.inl rfl) (pe_own h_board_with (hr.mono (by decide)) rfl (pa_cons (pe_fldK (K := K) rfl (pv 0) rfl) (pa_cons (pv 7) (pa_cons (pv 5) pa_nil)))))
      (pss_cons (ps_set (i := 9) sc_tell_count.nd rfl (Or.inl rfl) (pe_own h_words_of (hr.mono (by decide)) rfl (pa_cons (pv 8) (pa_cons (pe_fldK (K := K) rfl (pv 0) rfl) (pa_cons (pv 7) (pa_cons (pv 3) pa_nil))))))
      (pss_cons (ps_set (i := 10) sc_tell_count.nd rfl (Or.inl rfl) (pe_lst (pa_cons (pe_own h_worth_of_play (hr.mono (by decide)) rfl (pa_cons (pv 8) (pa_cons (pv 9) (pa_cons (pv 7) (pa_cons (pe_fldK (K := K) rfl (pv 0) rfl) (pa_cons (pe_fldK (K := K) rfl (pv 0) rfl) pa_nil)))))) (pa_cons (pe_callB (call_lenK (K := K) rfl) rfl T.no_len PySem.boot_len (pa_cons (pv 9) pa_nil)) pa_nil))))
      (pss_cons (ps_for PassesOwn.never rfl (pi_listK (K := K) rfl (pv 9)) (pg_name (i := 11) sc_tell_count.nd rfl (Or.inl rfl)) (pss_cons (ps_expr (pe_bmK (K := K) rfl PySem.F.plainAttrs_list PySem.F.slot_list_append PySem.F.type_list_append mt_append (pv 10) (pa_cons (pe_callB (call_lenK (K := K) rfl) rfl T.no_len PySem.boot_len (pa_cons (pv 11) pa_nil)) pa_nil)))
      (pss_cons (ps_expr (pe_bmK (K := K) rfl PySem.F.plainAttrs_list PySem.F.slot_list_extend PySem.F.type_list_extend (mt_extendTK (K := K) rfl) (pv 10) (pa_cons (pe_own h_letters_on (hr.mono (by decide)) rfl (pa_cons (pv 8) (pa_cons (pv 11) pa_nil))) pa_nil)))
      (pss_one (ps_expr (pe_bmK (K := K) rfl PySem.F.plainAttrs_list PySem.F.slot_list_append PySem.F.type_list_append mt_append (pv 10) (pa_cons (pe_own h_worth_of_word (hr.mono (by decide)) rfl (pa_cons (pv 8) (pa_cons (pv 11) (pa_cons (pv 7) (pa_cons (pe_fldK (K := K) rfl (pv 0) rfl) (pa_cons (pe_fldK (K := K) rfl (pv 0) rfl) pa_nil)))))) pa_nil)))))))
      (pss_one (ps_ret (pv 10))))))))))), ?_⟩
    walk_at "rd"
    unfold countG at kk
    refine ⟨A', m, r, c, d, a, l, rfl, hg, ha, hl, fun H1 s1 => ⟨_, rfl, ?_⟩⟩
    have hg1 := hg.same s1
    by_cases c1 : okPlayG m r c d l = true
    · rw [if_neg (by simp [c1])]
      rw [if_neg (by simp [c1])] at kk
      obtain ⟨⟨r0, r1⟩, ⟨c0, c1'⟩, ⟨d0, d1⟩, ⟨l1, l7⟩, hT⟩ := okPlayG_iff.mp c1
      have lk := pre (by omega)
      refine ⟨⟨_, SqL.same s1 ha⟩, lc_L (xs := vI l) (fun _ => true) (onI fun z => .int (faceI z)) (SqL.same s1 ha) (by simp; exact sz hl) (fun i x H2 Ry Rn hx sm2 hy hn2 => ?_) (fun D H2 hD s2 hH2 => ?_)⟩
      · obtain ⟨z, hz, rfl, hzm⟩ := vI_item hx
        walk_at "rd"
        exact ⟨z, rfl, hy rfl H2 (Same.refl _)⟩
      · rw [out_I] at hH2
        have hD2 : H2 D = some (.lst (vI (l.map faceI))) := by
          rw [hH2]
          show _ = some (HO.lst (List.map V.int (l.map faceI)))
          rw [List.map_map]; rfl
        have hg2 := hg1.same s2
        have sA := s1.trans s2
        simp only [fl_rows T hg2, fl_players T hg2, fl_worths T hg2, fl_bag T hg2, fl_squares T hg2, fl_board T hg2, fl_hands T hg2, fl_points T hg2, fl_lost T hg2, fl_words T hg2, fl_phase T hg2, fl_turn T hg2, fl_due T hg2, fl_aside T hg2, fl_laid T hg2, fl_down T hg2, fl_counted T hg2, fl_idle T hg2]
        have ed : d = bI (d == 1) := by
          have : d = 0 ∨ d = 1 := by omega
          rcases this with e | e <;> subst e <;> rfl
        have er : r = (r.toNat : Int) := by omega
        have ec : c = (c.toNat : Int) := by omega
        have hne : l.map faceI ≠ [] := fun e => by
          have := congrArg List.length e
          simp at this
          subst this
          simp at l1
        have hf26 : ∀ z ∈ l.map faceI, z ≤ 26 := fun z hz => by
          obtain ⟨y, hy, rfl⟩ := List.mem_map.mp hz
          have := hT y hy
          unfold faceI
          split <;> omega
        refine ⟨A'.board, D, m.board, m.rows, r.toNat, c.toNat, d == 1, l.map faceI, by rw [← er, ← ec, ← ed], SqL.of hg2.l_board, SqL.of hD2, lk.brd, by omega, by omega, lk.n11, hne, by simp; omega, faces_ne hT, fun H3 q s3 hq hH3 => ?_⟩
        have hg3 := hg2.same s3
        refine ⟨q, rfl, _, .inl (SqL.of hH3), ?_⟩
        by_cases c4 : squaresFor m.board m.rows r.toNat c.toNat (d == 1) (l.map faceI) = []
        · rw [if_pos (by rw [c4]; rfl)]
          rw [if_pos c4] at kk
          exact ref_of hg kk (sA.trans s3)
        · obtain ⟨lok, hql⟩ := squaresFor_ok (d := d == 1) lk.brd (by omega : r.toNat < m.rows) (by omega : c.toNat < m.rows) (faces_ne hT) hne c4
          have hnz : ¬ (((vN (squaresFor m.board m.rows r.toNat c.toNat (d == 1) (l.map faceI))).length : Int) = 0) := fun e => c4 (by
            have : (squaresFor m.board m.rows r.toNat c.toNat (d == 1) (l.map faceI)).length = 0 := by simpa using e
            exact List.length_eq_zero_iff.mp this)
          rw [if_neg hnz]
          rw [if_neg c4] at kk
          generalize squaresFor m.board m.rows r.toNat c.toNat (d == 1) (l.map faceI) = L at *
          have hL7 : L.length ≤ 7 := by rw [hql, List.length_map]; exact l7
          replace kk : GivesL Z.C H A' m Q (vI ((worthOfPlay (boardWith m.board L (l.map faceI)) (wordsOf (boardWith m.board L (l.map faceI)) m.rows L (d == 1)) L m.squares m.worths : Int) :: ((wordsOf (boardWith m.board L (l.map faceI)) m.rows L (d == 1)).length : Int) ::
            (wordsOf (boardWith m.board L (l.map faceI)) m.rows L (d == 1)).flatMap (cntW (boardWith m.board L (l.map faceI)) L m.squares m.worths))) := kk
          refine Eq.mpr (fl_board T hg3) ?_
          refine ⟨A'.board, q, D, m.board, L, l.map faceI, rfl, SqL.of hg3.l_board, SqL.of hH3, SqL.of (s3 _ _ hD2), fun k hk => by rw [lk.brd]; exact lok.lt k hk, fun H4 b4 s4 hb4 hH4 => ?_⟩
          have hg4 := hg3.same s4
          have hbl : (boardWith m.board L (l.map faceI)).length = m.rows * m.rows := by rw [boardWith_len]; exact lk.brd
          have hb26 := boardWith_le L (l.map faceI) m.board lk.fc hf26
          generalize boardWith m.board L (l.map faceI) = B at *
          refine Eq.mpr (fl_rows T hg4) ?_
          obtain ⟨wl, wall⟩ := words_ok (b := B) (d := (d == 1)) lok.ne lok.lt
          refine ⟨b4, q, B, m.rows, L, d == 1, by rw [← ed], SqL.of hH4, SqL.of (s4 _ _ hH3), hbl, lk.n11, lok.ne, hL7, lok.lt, fun H5 w5 ps s5 hw5 hH5 hrows => ?_⟩
          have hg5 := hg4.same s5
          generalize hws : wordsOf B m.rows L (d == 1) = ws at *
          have hwok : ∀ run ∈ ws, run.length ≤ 11 ∧ ∀ k ∈ run, k < B.length := fun run hrn => ⟨by have := (wall run hrn).1.1; have := lk.n11; omega, fun k hk => by rw [hbl]; exact (wall run hrn).1.2 k hk⟩
          have hB5 : H5 b4 = some (.lst (vI B)) := s5 _ _ hH4
          have hL5 : H5 q = some (.lst (vN L)) := s5 _ _ (s4 _ _ hH3)
          refine Eq.mpr (fl_squares T hg5) (Eq.mpr (fl_worths T hg5) ?_)
          refine ⟨b4, w5, q, A'.squares, A'.worths, ps, B, ws, L, m.squares, m.worths, rfl, SqL.of hB5, SqL.of hH5, hrows, SqL.of hL5, SqL.of hg5.l_squares, SqL.of hg5.l_worths, by omega, hwok, by rw [hbl]; exact lk.sq, lk.s4, lk.wl, lk.w20, hb26, fun H6 s6 => ?_⟩
          have hpl := hrows.len
          refine ⟨w5, rfl, _, .inl (SqL.of (s6 _ _ hH5)), by decide, fun t ht => ?_⟩
          have el : ((ps.map V.ref).length : Int) = (ws.length : Int) := by rw [List.length_map, hpl]
          rw [el]
          have sAll : Same H H6 := ((sA.trans s3).trans (s4.trans s5)).trans s6
          have sT : Same H6 (upd H6 t (.lst [V.int ((worthOfPlay B ws L m.squares m.worths : Nat) : Int), V.int (ws.length : Int)])) := Same.new ht
          refine ⟨w5, rfl, ⟨_, SqL.of (sT _ _ (s6 _ _ hH5))⟩, fr_L' (xs := ps.map V.ref) (fun i σ H' => ∃ v : Option V, σ = [some (V.ref A'.g), some (V.int r), some (V.int c), some (V.int d), some (V.ref a), some (V.ref D), none, some (V.ref q), some (V.ref b4), some (V.ref w5), some (V.ref t), v] ∧ Same H6 H' ∧
            H' t = some (.lst (vI ((worthOfPlay B ws L m.squares m.worths : Int) :: (ws.length : Int) :: (ws.take i).flatMap (cntW B L m.squares m.worths))))) ⟨none, rfl, sT, upd_same⟩ (fun i σ H' _ ⟨_, _, s', _⟩ => SqL.of (s' _ _ (s6 _ _ hH5))) ?_ ?_⟩
          · rintro i x σ H' hx ⟨v, rfl, s', hH't⟩ N hN
            rw [List.getElem?_map] at hx
            obtain ⟨cc, hcc, rfl⟩ := Option.map_eq_some_iff.mp hx
            obtain ⟨run, hrun, hcr6⟩ := rows_at (hrows.same s6) hcc
            have hrm := List.mem_of_getElem? hrun
            have hr11 := (hwok run hrm).1
            have hfl : ((ws.take i).flatMap (cntW B L m.squares m.worths)).length ≤ 8 * 13 := by
              refine Nat.le_trans (flat_len (n := 13) _ fun w' hw' => ?_) (Nat.mul_le_mul_right 13 (by rw [List.length_take]; omega))
              rw [cntW_len]
              have := (hwok w' (List.mem_of_mem_take hw')).1
              omega
            have hll : (lettersOn B run).length = run.length := by unfold lettersOn; simp
            have eT : (ws.take (i + 1)).flatMap (cntW B L m.squares m.worths) = (ws.take i).flatMap (cntW B L m.squares m.worths) ++ cntW B L m.squares m.worths run := by
              rw [take_succ_of hrun, List.flatMap_append]; simp
            generalize hX : (worthOfPlay B ws L m.squares m.worths : Int) :: (ws.length : Int) :: (ws.take i).flatMap (cntW B L m.squares m.worths) = X at *
            have hXl : X.length ≤ 106 := by rw [← hX]; simp only [List.length_cons]; omega
            walk_at "rd"
            refine ⟨.inl ⟨rfl, _, SqL.of hH't⟩, vN run, .inl (SqL.of (s' _ _ hcr6)), ?_⟩
            refine ⟨t, _, _, rfl, rfl, hH't, by rw [List.length_map]; exact szl (by omega), ?_⟩
            have sa : Same H6 (upd H' t (.lst (vI X ++ [V.int ((vN run).length : Int)]))) := s'.updO hH't ht
            refine ⟨.inl ⟨rfl, _, SqL.of upd_same⟩, ?_⟩
            refine ⟨b4, cc, B, run, rfl, SqL.of (sa _ _ (s6 _ _ hB5)), SqL.of (sa _ _ hcr6), hr11, (hwok run hrm).2, fun Hb tp sb htp hHb => ?_⟩
            have htb := sb _ _ (upd_same (H := H') (a := t) (o := .lst (vI X ++ [V.int ((vN run).length : Int)])))
            refine ⟨t, tp, _, _, rfl, rfl, htb, SqT.of hHb, by simp only [List.length_append, List.length_map, List.length_cons, List.length_nil]; rw [hll]; exact sz (by omega), ?_⟩
            have sc : Same H6 (upd Hb t (.lst (vI X ++ [V.int ((vN run).length : Int)] ++ vN (lettersOn B run)))) := (sa.trans sb).updO htb ht
            have hgc := hg.same (sAll.trans sc)
            refine ⟨.inl ⟨rfl, _, SqL.of upd_same⟩, Eq.mpr (fl_squares T hgc) (Eq.mpr (fl_worths T hgc) ?_)⟩
            refine ⟨b4, cc, q, A'.squares, A'.worths, B, run, L, m.squares, m.worths, rfl, SqL.of (sc _ _ (s6 _ _ hB5)), SqL.of (sc _ _ hcr6), SqL.of (sc _ _ (s6 _ _ hL5)), SqL.of hgc.l_squares, SqL.of hgc.l_worths, hr11, (hwok run hrm).2, by rw [hbl]; exact lk.sq, lk.s4, lk.wl, lk.w20, hb26, fun Hd sd => ?_⟩
            have htd := sd _ _ (upd_same (H := Hb) (a := t) (o := .lst (vI X ++ [V.int ((vN run).length : Int)] ++ vN (lettersOn B run))))
            refine ⟨t, _, _, rfl, rfl, htd, by simp only [List.length_append, List.length_map, List.length_cons, List.length_nil]; rw [hll]; exact szl (by omega), hN _ _ ⟨_, rfl, (sc.trans sd).updO htd ht, ?_⟩⟩
            rw [upd_same, eT]
            have eX : (worthOfPlay B ws L m.squares m.worths : Int) :: (ws.length : Int) :: ((ws.take i).flatMap (cntW B L m.squares m.worths) ++ cntW B L m.squares m.worths run) = X ++ cntW B L m.squares m.worths run := by rw [← hX]; rfl
            rw [eX]
            have e2 : vN (lettersOn B run) = vI (Kg82.whole (lettersOn B run)) := vN_vI _
            have e3 : ((vN run).length : Int) = (run.length : Int) := by rw [List.length_map]
            rw [e2, e3]
            unfold cntW
            simp only [List.map_append, List.map_cons, List.map_nil, List.append_assoc, List.cons_append, List.nil_append]
          · rintro σ H' ⟨v, rfl, s', hH't⟩
            walk_at "rd"
            have e1 : (ps.map V.ref).length = ws.length := by rw [List.length_map, hpl]
            rw [e1, List.take_length] at hH't
            exact kk _ A' t (Moved.same hg (sAll.trans s')) (sAll.free ht) (hg.new (sAll.free ht)) hH't
    · rw [if_pos (by simpa using c1)]
      rw [if_pos (by simpa using c1)] at kk
      exact ref_of hg kk s1
end
/-! ### methods, a class -/
structure HasM (P : Program) (w : World) (K : PySem.W.Frag) (mg : Str → Option Value) (base : Heap) (C : Addr) (m : Str) (k : Nat) (ps : List Str) (sp : Sp) : Prop where
  cl : Cls K C
  ex : ∃ f fd, Meth K C m f ∧ Binds K fd ps [] ∧ FnOk P w K mg base CX0 k f fd ps sp
structure HasN (P : Program) (w : World) (K : PySem.W.Frag) (mg : Str → Option Value) (base : Heap) (x : Str) (C : Addr) (k : Nat) (ps : List Str) (sp : Sp) : Prop where
  ex : ∃ f fd, Mk K C f ∧ mg x = some (.ref C) ∧ Binds K fd ps [] ∧ FnOk P w K mg base CX0 k f fd ps sp
structure FunM (K : PySem.W.Frag) (m qual : Str) (st : Stmt) (ps : List Str) (f : Addr) : Prop where
  ex : ∃ fd, Fun K m qual st f fd ∧ Binds K fd ps []
section
variable {P : Program} {w : World} {K : PySem.W.Frag} {mg : Str → Option Value} {base : Heap}
theorem FunM.ok {m qual : Str} {st : Stmt} {N ps : List Str} {k : Nat} {sp : Sp} {f : Addr} (F : FunM K m qual st ps f) (S : FnScope N ps (defScope st)) (len : ∀ vs H Q E, sp vs H Q E → vs.length = ps.length)
    (hbody : ∀ (cdv : Value) (A : Around) (outer : List Env) (s : Shared) (H : Hp) (vs : List V) (Q : VK) (E : XK), Room k (A.deeper (envOfC qual (defScope st) s.heap.objs.size f cdv)) → sp vs H Q E →
      ∃ t, PSs (cxOf CX0 P w K mg base N qual (defScope st) f cdv A outer s H E).nox (defBody st) t ∧ t { nx := fun _ H' => Q .non H', rt := Q } (start N vs) H) : ∃ fd, Binds K fd ps [] ∧ FnOk P w K mg base CX0 (k + 1) f fd ps sp := by
  obtain ⟨fd, h1, h2⟩ := F.ex
  exact ⟨fd, h2, h1.ok S len hbody⟩
end
section
variable {X : Cx} {C : Addr} {m x : Str} {k : Nat} {ps : List Str} {sp : Sp} {p pos apos : Pos} {o e : Expr} {es : List Expr} {ta : TE} {t : TA}
theorem pe_methG {pl : Sem Bool} (h : HasM X.prog X.w X.K X.mg X.base C m k ps sp) (hr : Room k X.A) (he : PE X o ta) (ha : PA X (e :: es) t)
    (hst : starEach (e :: es) X.env = (false, eval e X.env) :: starEach es X.env := by rfl) (hpl : (backTo pos (starEach es X.env)).any (·.1) = false := by rfl)
    (ht : eval (.Call (.Attribute o m apos) (e :: es) [] pos) X.env = (do
      let ov ← eval o X.env
      standAt apos.atName
      let (f, first) ← holding [ov] (getMethod ov m pl)
      callWith pos f first (backTo pos (starEach (e :: es) X.env)) (backToKw pos (keywordEach [] X.env))) := by rfl) :
    PE X (.Call (.Attribute o m apos) (e :: es) [] pos) (tMeth C m sp [] E0 ta t) := by
  obtain ⟨f, fd, h1, h2, h3⟩ := h.ex
  exact pe_meth he h.cl h1 h3 hr h2 .nil pass0 ha hst hpl ht
theorem pe_new (h : HasN X.prog X.w X.K X.mg X.base x C k ps sp) (hr : Room (k + 1) X.A) (hg : Gl X x) (hdb : (x == ("__debug__" : Str)) = false := by decide) : PE X (.Call (.Name x p) [] [] pos) (tMake C sp [] E0 tNil) := by
  obtain ⟨f, fd, h1, h2, h3, h4⟩ := h.ex
  exact pe_make0 h1 h4 hr hg h2 h3 .nil pass0 hdb
end
/-! ### a game being built -/
/-- H' is H with the object at g as o, and new objects l1, l2 -/
structure Bld (H H' : Hp) (g : Addr) (o : HO) (l1 l2 : List (Addr × HO)) : Prop where
  keep : ∀ b u, H b = some u → b ≠ g → H' b = some u
  obj : H' g = some o
  new : ∀ p ∈ l1 ++ l2, H p.1 = none ∧ H' p.1 = some p.2
  nd : (g :: (l1 ++ l2).map (·.1)).Nodup
section
variable {H H1 : Hp} {g : Addr} {o o' : HO} {l1 l2 : List (Addr × HO)}
theorem Bld.free (B : Bld H H1 g o l1 l2) {q : Addr} (hq : H1 q = none) : H q = none ∧ q ≠ g ∧ q ∉ (l1 ++ l2).map (·.1) := by
  have hg : q ≠ g := fun e => by rw [e, B.obj] at hq; cases hq
  refine ⟨?_, hg, fun hm => ?_⟩
  · cases e : H q with
    | none => rfl
    | some u => rw [B.keep q u e hg] at hq; cases hq
  · obtain ⟨p, hp, rfl⟩ := List.mem_map.mp hm
    rw [(B.new p hp).2] at hq; cases hq
theorem Bld.free' (B : Bld H H1 g o l1 l2) {q : Addr} (hq : H1 q = none) : H q = none := (B.free hq).1
theorem Bld.store (B : Bld H H1 g o l1 l2) : Bld H (upd H1 g o') g o' l1 l2 := by
  refine ⟨fun b u e n => by rw [upd_ne n]; exact B.keep b u e n, upd_same, fun p hp => ⟨(B.new p hp).1, ?_⟩, B.nd⟩
  have hne : p.1 ≠ g := fun e => (List.nodup_cons.mp B.nd).1 (by rw [← e]; exact List.mem_map.mpr ⟨p, hp, rfl⟩)
  rw [upd_ne hne]; exact (B.new p hp).2
theorem Bld.same (B : Bld H H1 g o l1 l2) {H2 : Hp} (s : Same H1 H2) : Bld H H2 g o l1 l2 :=
  ⟨fun b u e n => s _ _ (B.keep b u e n), s _ _ B.obj, fun p hp => ⟨(B.new p hp).1, s _ _ (B.new p hp).2⟩, B.nd⟩
theorem Bld.add1 (B : Bld H H1 g o l1 l2) {q : Addr} {u : HO} (hq : H1 q = none) : Bld H (upd H1 q u) g o (l1 ++ [(q, u)]) l2 := by
  obtain ⟨h1, h2, h3⟩ := B.free hq
  have B2 := B.same (Same.new (o := u) hq)
  refine ⟨B2.keep, B2.obj, fun p hp => ?_, ?_⟩
  · rw [List.append_assoc, List.mem_append, List.mem_append, List.mem_singleton] at hp
    rcases hp with hp | hp | hp
    · exact B2.new p (List.mem_append.mpr (.inl hp))
    · subst hp; exact ⟨h1, upd_same⟩
    · exact B2.new p (List.mem_append.mpr (.inr hp))
  · have e : (l1 ++ [(q, u)] ++ l2).map (·.1) = l1.map (·.1) ++ q :: l2.map (·.1) := by simp
    rw [e]
    rw [List.map_append] at h3
    have hn := B.nd
    rw [List.map_append] at hn
    have hn2 : (q :: g :: (l1.map (·.1) ++ l2.map (·.1))).Nodup := List.nodup_cons.mpr ⟨by rw [List.mem_cons, not_or]; exact ⟨h2, h3⟩, hn⟩
    have pm : (g :: (l1.map (·.1) ++ q :: l2.map (·.1))).Perm (q :: g :: (l1.map (·.1) ++ l2.map (·.1))) := (List.Perm.cons g List.perm_middle).trans (List.Perm.swap _ _ _)
    exact pm.nodup_iff.mpr hn2
theorem Bld.add2 (B : Bld H H1 g o l1 l2) {q : Addr} {u : HO} (hq : H1 q = none) : Bld H (upd H1 q u) g o l1 (l2 ++ [(q, u)]) := by
  have B1 : Bld H H1 g o (l1 ++ l2) [] := ⟨B.keep, B.obj, by rw [List.append_nil]; exact B.new, by rw [List.append_nil]; exact B.nd⟩
  have B2 := B1.add1 (u := u) hq
  exact ⟨B2.keep, B2.obj, by have := B2.new; rw [List.append_nil, List.append_assoc] at this; exact this, by have := B2.nd; rw [List.append_nil, List.append_assoc] at this; exact this⟩
/-- the newest of l1 written anew -/
theorem Bld.put {q : Addr} {u v : HO} (B : Bld H H1 g o (l1 ++ [(q, u)]) l2) : Bld H (upd H1 q v) g o (l1 ++ [(q, v)]) l2 := by
  have hn := B.nd
  have e : (l1 ++ [(q, u)] ++ l2).map (·.1) = l1.map (·.1) ++ q :: l2.map (·.1) := by simp
  have e' : (l1 ++ [(q, v)] ++ l2).map (·.1) = l1.map (·.1) ++ q :: l2.map (·.1) := by simp
  rw [e] at hn
  have pm : (g :: (l1.map (·.1) ++ q :: l2.map (·.1))).Perm (q :: g :: (l1.map (·.1) ++ l2.map (·.1))) := (List.Perm.cons g List.perm_middle).trans (List.Perm.swap _ _ _)
  have hq := (List.nodup_cons.mp (pm.nodup_iff.mp hn)).1
  rw [List.mem_cons, not_or, List.mem_append, not_or] at hq
  have hqH : H q = none := (B.new (q, u) (by simp)).1
  refine ⟨fun b w hb n => ?_, by rw [upd_ne (fun z => hq.1 z.symm)]; exact B.obj, fun p hp => ?_, by rw [e']; exact hn⟩
  · rw [upd_ne (fun z => by rw [z, hqH] at hb; cases hb)]; exact B.keep b w hb n
  · rw [List.append_assoc, List.mem_append, List.mem_append, List.mem_singleton] at hp
    rcases hp with hp | hp | hp
    · have h1 := B.new p (by simp [hp])
      rw [upd_ne (fun z => hq.2.1 (by rw [← z]; exact List.mem_map.mpr ⟨p, hp, rfl⟩))]
      exact h1
    · subst hp; exact ⟨hqH, upd_same⟩
    · have h1 := B.new p (by simp [hp])
      rw [upd_ne (fun z => hq.2.2 (by rw [← z]; exact List.mem_map.mpr ⟨p, hp, rfl⟩))]
      exact h1
end
theorem putF_len (f : Str) (v : V) : ∀ fs : List (Str × V), (putF f v fs).length ≤ fs.length + 1
  | [] => Nat.le_refl _
  | (g, u) :: fs => by
    unfold putF
    split
    · simp
    · have := putF_len f v fs
      simp only [List.length_cons]
      omega
theorem rep_flat {α : Type} (x : α) : ∀ k : Nat, (List.replicate k [x]).flatten = List.replicate k x
  | 0 => rfl
  | k + 1 => by
    rw [List.replicate_succ, List.flatten_cons, rep_flat x k, List.replicate_succ]; rfl
theorem zip_rep : ∀ (hs : List Addr) (k : Nat), hs.length = k → hs.zip ((List.replicate k ([] : List Nat)).map fun h => HO.lst (vN h)) = hs.map fun h => (h, HO.lst [])
  | [], _, _ => rfl
  | h :: hs, 0, e => by simp at e
  | h :: hs, k + 1, e => by
    have ih := zip_rep hs k (by simpa using e)
    rw [List.replicate_succ, List.map_cons, List.zip_cons_cons, ih]
    rfl
section
variable {P : Program} {w : World} {K : PySem.W.Frag} {mg : Str → Option Value} {base : Heap} {Z : ZA} {C g dx : Addr} {H H1 H2 : Hp} {A A1 A2 : GA} {m m' m1 m2 : G} {Q : VK} {R : Hp → Prop} {l1 l2 : List (Addr × HO)} {o : HO} {fs : List (Str × V)}
theorem sf_bld {f : Str} {y : V} {n : Nat} (T : Txt K mg Z) (B : Bld H H1 g (.ins Z.C dx fs) l1 l2) (hf : f ∈ fieldNames) (hl : fs.length ≤ n) (hn : n < 1000) (k : ∀ H2, Bld H H2 g (.ins Z.C dx (putF f y fs)) l1 l2 → (putF f y fs).length ≤ n + 1 → R H2) : SF K f y (.ref g) H1 R :=
  ⟨g, Z.C, dx, fs, rfl, B.obj, T.cl, T.na f hf, by omega, k _ B.store (by have := putF_len f y fs; omega)⟩
theorem sq_bld (B : Bld H H1 g o l1 l2) {a : Addr} {xs : List V} (h : SqL K H a xs) (ha : a ≠ g) : SqL K H1 a xs :=
  sq_keep (F := [g]) (fun b u e n => B.keep b u e (by simpa using n)) h (by simpa using ha)
theorem lc_new {lo : Int} {n : Nat} {gg : TG} {tt : TT} {te : TE} {vs : List Nat} {σ : L2.St} (B : Bld H H1 g o l1 []) (hz : n ≤ 1000)
    (hs : ∀ (i : Nat) (Hc : Hp) (Ry : VK) (Rn : Hp → Prop), (∀ q, Hc q = none → Ry (.ref q) (upd Hc q (.lst []))) → gg (.int (lo + i)) (wipe σ vs) Hc fun σ2 H2 => wipe σ2 vs = wipe σ vs ∧ tt σ2 H2 fun b H3 => if b = true then te σ2 H3 Ry else Rn H3)
    (hd : ∀ D H' (hs : List Addr), hs.length = n → Bld H H' g o (l1 ++ [(D, .lst (hs.map V.ref))]) (hs.map fun h => (h, HO.lst [])) → Q (.ref D) H') : LC (Itr lo n) gg tt te vs σ H1 Q := by
  intro D hD
  refine lc_range (n := n) (Qd := fun H' => Q (.ref D) H') (fun i H' => ∃ hs : List Addr, hs.length = i ∧ i ≤ n ∧ Bld H H' g o (l1 ++ [(D, .lst (hs.map V.ref))]) (hs.map fun h => (h, HO.lst []))) ⟨[], rfl, Nat.zero_le _, B.add1 hD⟩ (fun i Hc hi h => ?_) (fun H' h => ?_)
  · obtain ⟨hs', hl, _, B'⟩ := h
    refine hs i Hc _ _ fun q hq => ?_
    have B2 := B'.add2 (u := .lst []) hq
    refine ⟨hs'.map V.ref, (B2.new (D, .lst (hs'.map V.ref)) (by simp)).2, by rw [List.length_map, hl]; exact szl (by omega), hs' ++ [q], by rw [List.length_append, hl]; rfl, hi, ?_⟩
    have B3 := B2.put (v := .lst (hs'.map V.ref ++ [V.ref q]))
    have e1 : (hs' ++ [q]).map V.ref = hs'.map V.ref ++ [V.ref q] := by rw [List.map_append]; rfl
    have e2 : ((hs' ++ [q]).map fun h => (h, HO.lst [])) = (hs'.map fun h => (h, HO.lst [])) ++ [(q, HO.lst [])] := by rw [List.map_append]; rfl
    rw [e1, e2]
    exact B3
  · obtain ⟨hs', hl, _, B'⟩ := h
    exact hd D H' hs' hl B'
def sp_set_up (K : PySem.W.Frag) (Z : ZA) : Sp := fun vs H Q _ => ∃ (g dx : Addr) (fs : List (Str × V)) (n p : Nat) (aw ab ae : Addr) (w b e : List Nat), vs = [.ref g, .int (n : Int), .int (p : Int), .ref aw, .ref ab, .ref ae] ∧ H g = some (.ins Z.C dx fs) ∧ (fs = [] ∨ ∃ m A, fs = gfs m A) ∧ n ≤ 11 ∧ p ≤ 4 ∧
  SqL K H aw (vN w) ∧ aw ≠ g ∧ SqL K H ab (vN b) ∧ ab ≠ g ∧ SqL K H ae (vN e) ∧ ae ≠ g ∧
  ∀ H' A', A'.g = g → GameAt Z.C H' A' (G.setUp n p w b e) → (∀ b u, H b = some u → b ≠ g → H' b = some u) → (∀ b ∈ A'.own, b = g ∨ H b = none) → Q .non H'
theorem h_Game_set_up (T : Txt K mg Z) {f : Addr} (F : FunM K "set_up" "Game.set_up" s_Game_set_up P_Game_set_up f) (hm : Meth K Z.C "set_up" f) : HasM P w K mg base Z.C "set_up" 1 P_Game_set_up (sp_set_up K Z) := by
  suffices key : ∃ fd, Binds K fd P_Game_set_up [] ∧ FnOk P w K mg base CX0 1 f fd P_Game_set_up (sp_set_up K Z) by
    obtain ⟨fd, hb, hf⟩ := key
    exact ⟨T.cl, f, fd, hm, hb, hf⟩
  refine F.ok sc_Game_set_up (fun vs H Q E h => ?_) (fun cdv A outer s H vs Q E hr h => ?_)
  · obtain ⟨g, dx, fs, n, p, aw, ab, ae, w, b, e, rfl, _⟩ := h
    rfl
  · obtain ⟨g, dx, fs, n, p, aw, ab, ae, w, b, e, rfl, hg, hfs, hn, hp, haw, nw, hab, nb, hae, ne, kk⟩ := h
    refine ⟨_, (pss_cons (ps_fld (pv 0) (pv 1) rfl)
      (pss_cons (ps_fld (pv 0) (pv 2) rfl)
      (pss_cons (ps_fld (pv 0) (pe_callTy (call_listK (K := K) rfl) rfl T.no_list PyProof.Rows.boot_list (pa_cons (pv 3) pa_nil)) rfl)
      (pss_cons (ps_fld (pv 0) (pe_callTy (call_listK (K := K) rfl) rfl T.no_list PyProof.Rows.boot_list (pa_cons (pv 4) pa_nil)) rfl)
      (pss_cons (ps_fld (pv 0) (pe_callTy (call_listK (K := K) rfl) rfl T.no_list PyProof.Rows.boot_list (pa_cons (pv 5) pa_nil)) rfl)
      (pss_cons (ps_fld (pv 0) (pe_op op_rep (pe_lst (pa_cons pe_int pa_nil)) (pe_op op_mul (pv 1) (pv 1))) rfl)
      (pss_cons (ps_fld (pv 0) (pe_lc rfl sc_Game_set_up.nd (pi_range1 rfl T.no_range (pa_cons (pv 2) pa_nil)) (show BlkOk N_Game_set_up (defScope s_Game_set_up) _ [("player", 6)] from ⟨rfl, by decide +kernel, by decide +kernel, by decide +kernel, by decide +kernel⟩) (fun _ _ _ _ _ => (pg_name (i := 6) sc_Game_set_up.nd rfl (Or.inl rfl))) (fun _ _ _ _ _ => pts_nil) (fun _ _ _ _ _ => (pe_lst pa_nil))) rfl)
      (pss_cons (ps_fld (pv 0) (pe_op op_rep (pe_lst (pa_cons pe_int pa_nil)) (pv 2)) rfl)
      (pss_cons (ps_fld (pv 0) (pe_op op_rep (pe_lst (pa_cons pe_int pa_nil)) (pv 2)) rfl)
      (pss_cons (ps_fld (pv 0) (pe_lst pa_nil) rfl)
      (pss_cons (ps_fld (pv 0) (pe_gl T.c_DRAWING rfl) rfl)
      (pss_cons (ps_fld (pv 0) pe_int rfl)
      (pss_cons (ps_fld (pv 0) (pe_gl T.c_HAND_SIZE rfl) rfl)
      (pss_cons (ps_fld (pv 0) (pe_lst pa_nil) rfl)
      (pss_cons (ps_fld (pv 0) (pe_lst pa_nil) rfl)
      (pss_cons (ps_fld (pv 0) pe_int rfl)
      (pss_cons (ps_fld (pv 0) pe_int rfl)
      (pss_one (ps_fld (pv 0) pe_int rfl))))))))))))))))))), ?_⟩
    walk_at "rd"
    have B0 : Bld H H g (.ins Z.C dx fs) [] [] := ⟨fun b u e _ => e, hg, fun p hp => (nomatch hp), by simp⟩
    have hl0 : fs.length ≤ 18 := by
      rcases hfs with rfl | ⟨m, A, rfl⟩
      · simp
      · exact Nat.le_refl 18
    refine sf_bld (n := 18) T B0 (by decide +kernel) hl0 (by decide) fun Ha B hl => ?_
    refine sf_bld (n := 19) T B (by decide +kernel) hl (by decide) fun Ha B hl => ?_
    refine ⟨vN w, .inl (sq_bld B haw nw), fun q1 h1 => ?_⟩
    refine sf_bld (n := 20) T (B.add1 h1) (by decide +kernel) hl (by decide) fun Ha B hl => ?_
    refine ⟨vN b, .inl (sq_bld B hab nb), fun q2 h2 => ?_⟩
    refine sf_bld (n := 21) T (B.add1 h2) (by decide +kernel) hl (by decide) fun Ha B hl => ?_
    refine ⟨vN e, .inl (sq_bld B hae ne), fun q3 h3 => ?_⟩
    refine sf_bld (n := 22) T (B.add1 h3) (by decide +kernel) hl (by decide) fun Ha B hl => ?_
    have hnn : n * n ≤ 121 := Nat.mul_le_mul hn hn
    have hto : ((n : Int) * (n : Int)).toNat = n * n := by rw [← Int.natCast_mul]; rfl
    have hpto : (p : Int).toNat = p := rfl
    refine ⟨by decide, fun t1 ht1 => ?_⟩
    refine ⟨.inl ⟨by omega, by omega⟩, t1, _, _, rfl, rfl, upd_same, by omega, by omega, by rw [hto]; exact sz (by simp; omega), fun q4 h4 => ?_⟩
    have e4 : (List.replicate ((n : Int) * (n : Int)).toNat [V.int 0]).flatten = vI (List.replicate (n * n) 0) := by
      rw [hto, rep_flat]
      show _ = List.map V.int _
      rw [List.map_replicate]
    rw [e4]
    refine sf_bld (n := 23) T ((B.same (Same.new ht1)).add1 h4) (by decide +kernel) hl (by decide) fun Ha B hl => ?_
    refine ⟨by omega, by omega, lc_new B (by omega) (fun i Hc Ry Rn hy => ?_) (fun D Hb hs hhs B => ?_)⟩
    · walk_at "rd"
      exact ⟨Nat.zero_le _, hy⟩
    refine sf_bld (n := 24) T B (by decide +kernel) hl (by decide) fun Ha B hl => ?_
    have ep : ∀ f : Int → V, (List.replicate (p : Int).toNat [f 0]).flatten = List.replicate p (f 0) := fun f => by rw [hpto, rep_flat]
    refine ⟨by decide, fun t2 ht2 => ⟨t2, _, _, rfl, rfl, upd_same, by omega, by omega, by rw [hpto]; exact sz (by simp; omega), fun q5 h5 => ?_⟩⟩
    have e5 : (List.replicate (p : Int).toNat [V.int 0]).flatten = vI (List.replicate p 0) := by
      rw [hpto, rep_flat]
      show _ = List.map V.int _
      rw [List.map_replicate]
    rw [e5]
    refine sf_bld (n := 25) T ((B.same (Same.new ht2)).add1 h5) (by decide +kernel) hl (by decide) fun Ha B hl => ?_
    refine ⟨by decide, fun t3 ht3 => ⟨t3, _, _, rfl, rfl, upd_same, by omega, by omega, by rw [hpto]; exact sz (by simp; omega), fun q6 h6 => ?_⟩⟩
    have e6 : (List.replicate (p : Int).toNat [V.int 0]).flatten = vN (List.replicate p 0) := by
      rw [hpto, rep_flat]
      show _ = List.map _ _
      rw [List.map_replicate]
      rfl
    rw [e6]
    refine sf_bld (n := 26) T ((B.same (Same.new ht3)).add1 h6) (by decide +kernel) hl (by decide) fun Ha B hl => ?_
    refine ⟨Nat.zero_le _, fun q7 h7 => ?_⟩
    refine sf_bld (n := 27) T (B.add1 h7) (by decide +kernel) hl (by decide) fun Ha B hl => ?_
    refine sf_bld (n := 28) T B (by decide +kernel) hl (by decide) fun Ha B hl => ?_
    refine sf_bld (n := 29) T B (by decide +kernel) hl (by decide) fun Ha B hl => ?_
    refine sf_bld (n := 30) T B (by decide +kernel) hl (by decide) fun Ha B hl => ?_
    refine ⟨Nat.zero_le _, fun q8 h8 => ?_⟩
    refine sf_bld (n := 31) T (B.add1 h8) (by decide +kernel) hl (by decide) fun Ha B hl => ?_
    refine ⟨Nat.zero_le _, fun q9 h9 => ?_⟩
    refine sf_bld (n := 32) T (B.add1 h9) (by decide +kernel) hl (by decide) fun Ha B hl => ?_
    refine sf_bld (n := 33) T B (by decide +kernel) hl (by decide) fun Ha B hl => ?_
    refine sf_bld (n := 34) T B (by decide +kernel) hl (by decide) fun Ha B hl => ?_
    refine sf_bld (n := 35) T B (by decide +kernel) hl (by decide) fun Ha B hl => ?_
    have eF : ∀ fs' : List (Str × V), (fs' = fs) → putF "idle" (.int 0) (putF "counted" (.int 0) (putF "down" (.int 0) (putF "laid" (.ref q9) (putF "aside" (.ref q8) (putF "due" (.int 7) (putF "turn" (.int 0) (putF "phase" (.int 0) (putF "words" (.ref q7) (putF "lost" (.ref q6) (putF "points" (.ref q5) (putF "hands" (.ref D) (putF "board" (.ref q4) (putF "squares" (.ref q3) (putF "bag" (.ref q2) (putF "worths" (.ref q1) (putF "players" (.int (p : Int)) (putF "rows" (.int (n : Int)) fs'))))))))))))))))) =
        gfs (G.setUp n p w b e) ⟨g, dx, q1, q2, q3, q4, D, q5, q6, q7, q8, q9, hs, []⟩ := fun fs' e => by
      subst e
      rcases hfs with rfl | ⟨m, A, rfl⟩
      · rfl
      · rfl
    have ec : cells Z.C (G.setUp n p w b e) ⟨g, dx, q1, q2, q3, q4, D, q5, q6, q7, q8, q9, hs, []⟩ = (g, .ins Z.C dx (gfs (G.setUp n p w b e) ⟨g, dx, q1, q2, q3, q4, D, q5, q6, q7, q8, q9, hs, []⟩)) ::
        ([(q1, HO.lst (vN w)), (q2, HO.lst (vN b)), (q3, HO.lst (vN e)), (q4, HO.lst (vI (List.replicate (n * n) 0))), (D, HO.lst (hs.map V.ref)), (q5, HO.lst (vI (List.replicate p 0))), (q6, HO.lst (vN (List.replicate p 0))), (q7, HO.lst []), (q8, HO.lst []), (q9, HO.lst [])] ++ hs.map fun h => (h, HO.lst [])) := by
      rw [← zip_rep hs p hhs]
      rfl
    have hhl : hs.length = (G.setUp n p w b e).hands.length := by
      show hs.length = (List.replicate p []).length
      rw [List.length_replicate]; exact hhs
    have eo := cells_own (C := Z.C) (m := G.setUp n p w b e) (A := ⟨g, dx, q1, q2, q3, q4, D, q5, q6, q7, q8, q9, hs, []⟩) hhl
    rw [ec] at eo
    have B1 : Bld H Ha g (.ins Z.C dx (gfs (G.setUp n p w b e) ⟨g, dx, q1, q2, q3, q4, D, q5, q6, q7, q8, q9, hs, []⟩))
        [(q1, HO.lst (vN w)), (q2, HO.lst (vN b)), (q3, HO.lst (vN e)), (q4, HO.lst (vI (List.replicate (n * n) 0))), (D, HO.lst (hs.map V.ref)), (q5, HO.lst (vI (List.replicate p 0))), (q6, HO.lst (vN (List.replicate p 0))), (q7, HO.lst []), (q8, HO.lst []), (q9, HO.lst [])] (hs.map fun h => (h, HO.lst [])) := by
      rw [← eF fs rfl]
      exact B
    refine kk Ha ⟨g, dx, q1, q2, q3, q4, D, q5, q6, q7, q8, q9, hs, []⟩ rfl ⟨fun x hx => ?_, ?_, hhl, .nil⟩ B1.keep fun x hx => ?_
    · rw [ec] at hx
      rcases List.mem_cons.mp hx with rfl | hx
      · exact B1.obj
      · exact (B1.new x hx).2
    · rw [← eo]
      exact B1.nd
    · rw [← eo, List.map_cons] at hx
      rcases List.mem_cons.mp hx with e | hx
      · exact .inl e
      · obtain ⟨y, hy, rfl⟩ := List.mem_map.mp hx
        exact .inr (B1.new y hy).1
end
section
variable {P : Program} {w : World} {K : PySem.W.Frag} {mg : Str → Option Value} {base : Heap} {Z : ZA} {C g dx : Addr} {H H1 H2 : Hp} {A A1 A2 : GA} {m m' m1 m2 : G} {Q : VK} {R : Hp → Prop}
def sp_init (K : PySem.W.Frag) (Z : ZA) : Sp := fun vs H Q _ => ∃ (g dx : Addr), vs = [.ref g] ∧ H g = some (.ins Z.C dx []) ∧
  ∀ H' A', A'.g = g → GameAt Z.C H' A' G.init → (∀ b u, H b = some u → b ≠ g → H' b = some u) → (∀ b ∈ A'.own, b = g ∨ H b = none) → Q .non H'
theorem h_Game___init__ (T : Txt K mg Z) {f : Addr} (F : FunM K "__init__" "Game.__init__" s_Game___init__ P_Game___init__ f) (hm : Mk K Z.C f) (h_Game_set_up : HasM P w K mg base Z.C "set_up" 1 P_Game_set_up (sp_set_up K Z)) : HasN P w K mg base "Game" Z.C 2 P_Game___init__ (sp_init K Z) := by
  suffices key : ∃ fd, Binds K fd P_Game___init__ [] ∧ FnOk P w K mg base CX0 2 f fd P_Game___init__ (sp_init K Z) by
    obtain ⟨fd, hb, hf⟩ := key
    exact ⟨f, fd, hm, T.mgC, hb, hf⟩
  refine F.ok sc_Game___init__ (fun vs H Q E h => ?_) (fun cdv A outer s H vs Q E hr h => ?_)
  · obtain ⟨g, dx, rfl, _⟩ := h
    rfl
  · obtain ⟨g, dx, rfl, hg, kk⟩ := h
    refine ⟨_, (pss_cons (ps_expr (pe_methG (m := "set_up") h_Game_set_up (hr.mono (by decide)) (pv 0) (pa_cons pe_int (pa_cons pe_int (pa_cons (pe_lst pa_nil) (pa_cons (pe_lst pa_nil) (pa_cons (pe_lst pa_nil) pa_nil)))))))
      (pss_cons (ps_fld (pv 0) (pe_gl T.c_OVER rfl) rfl)
      (pss_one (ps_fld (pv 0) pe_int rfl)))), ?_⟩
    walk_at "rd"
    refine ⟨dx, [], hg, rfl, Nat.zero_le _, fun q1 h1 => ⟨Nat.zero_le _, fun q2 h2 => ⟨Nat.zero_le _, fun q3 h3 => ?_⟩⟩⟩
    have B0 : Bld H H g (.ins Z.C dx []) [] [] := ⟨fun b u e _ => e, hg, fun p hp => (nomatch hp), by simp⟩
    have B3 := ((B0.add1 (u := .lst []) h1).add1 (u := .lst []) h2).add1 (u := .lst []) h3
    have n1 := (B3.new (q1, .lst []) (by simp)).2
    have n2 := (B3.new (q2, .lst []) (by simp)).2
    have n3 := (B3.new (q3, .lst []) (by simp)).2
    have ne : ∀ q : Addr, (q, HO.lst []) ∈ [(q1, HO.lst []), (q2, HO.lst []), (q3, HO.lst [])] → q ≠ g := fun q hq e => by
      have := (List.nodup_cons.mp B3.nd).1
      exact this (by rw [← e]; exact List.mem_map.mpr ⟨(q, .lst []), by simpa using hq, rfl⟩)
    refine ⟨g, dx, [], 0, 0, q1, q2, q3, [], [], [], rfl, B3.obj, .inl rfl, by decide, by decide, SqL.of n1, ne q1 (by simp), SqL.of n2, ne q2 (by simp), SqL.of n3, ne q3 (by simp), fun H4 A4 e4 hg4 k4 o4 => ?_⟩
    subst e4
    refine sf_phase (k := 3) T hg4 rfl fun H5 hg5 k5 => ?_
    refine sf_due (k := 0) T hg5 rfl fun H6 hg6 k6 => ?_
    have o4' : ∀ b ∈ A4.own, b = A4.g ∨ H b = none := fun b hb => by
      rcases o4 b hb with z | z
      · exact .inl z
      · exact .inr (B3.free' z)
    refine kk H6 A4 rfl hg6 (fun b u e n => ?_) o4'
    have nb : b ∉ A4.own := fun z => by
      rcases o4' b z with y | y
      · exact n y
      · rw [e] at y; cases y
    exact k6 b u (k5 b u (k4 b u (B3.keep b u e n) n) nb) nb
def sp_begin (K : PySem.W.Frag) (Z : ZA) : Sp := fun vs H Q _ => ∃ (A : GA) (m : G) (n p : Int) (aw ab ae : Addr) (lw lb le : List Int), vs = [.ref A.g, .int n, .int p, .ref aw, .ref ab, .ref ae] ∧ GameAt Z.C H A m ∧ SqL K H aw (vI lw) ∧ SqL K H ab (vI lb) ∧ SqL K H ae (vI le) ∧ aw ∉ A.own ∧ ab ∉ A.own ∧ ae ∉ A.own ∧
  lw.length ≤ 1000 ∧ lb.length ≤ 1000 ∧ le.length ≤ 1000 ∧ GivesL Z.C H A (beginG m n p lw lb le).1 Q (vI (beginG m n p lw lb le).2)
theorem all_nn {l : List Int} {hi : Int} (h : (l.all fun z => Kg82.within z 0 hi) = true) : ∀ z ∈ l, 0 ≤ z := fun z hz => by
  have := List.all_eq_true.mp h z hz
  unfold Kg82.within at this
  simp only [Bool.and_eq_true, decide_eq_true_eq] at this
  exact this.1
theorem isGame_iff {n p : Int} {lw lb le : List Int} (h : isGame n p lw lb le = true) : (3 ≤ n ∧ n ≤ 11) ∧ (2 ≤ p ∧ p ≤ 4) ∧ (∀ z ∈ lw, 0 ≤ z) ∧ (∀ z ∈ lb, 0 ≤ z) ∧ ∀ z ∈ le, 0 ≤ z := by
  unfold isGame at h
  simp only [Bool.and_eq_true, decide_eq_true_eq] at h
  exact ⟨h.1, h.2.2.1, all_nn h.2.2.2.2.1, all_nn h.2.2.2.2.2.2.2.1, all_nn h.2.2.2.2.2.2.2.2.2⟩
theorem h_begin (T : Txt K mg Z) (F : FunAt K mg "begin" s_begin P_begin) (h_is_game : Has P w K mg base "is_game" 2 P_is_game (sp_is_game K)) (h_Game_set_up : HasM P w K mg base Z.C "set_up" 1 P_Game_set_up (sp_set_up K Z)) : Has P w K mg base "begin" 3 P_begin (sp_begin K Z) := by
  refine F.has sc_begin (fun vs H Q E h => ?_) (fun f cdv A outer s H vs Q E hr h => ?_)
  · obtain ⟨A, m, n, p, aw, ab, ae, lw, lb, le, rfl, _⟩ := h
    rfl
  · obtain ⟨A', m, n, p, aw, ab, ae, lw, lb, le, rfl, hg, haw, hab, hae, nw, nb, ne, hlw, hlb, hle, kk⟩ := h
    refine ⟨_, (pss_cons (ps_if (pt_not (pt_val (pe_own h_is_game (hr.mono (by decide)) rfl (pa_cons (pv 1) (pa_cons (pv 2) (pa_cons (pv 3) (pa_cons (pv 4) (pa_cons (pv 5) pa_nil)))))))) (pss_one (ps_ret (pe_lst (pa_cons (pe_un un_neg pe_int) pa_nil)))) pss_nil)
      (pss_cons (ps_if (pt_cmpR op_lt (pe_callB (cr_sumK (K := K) rfl rfl) rfl T.no_sum PyProof.Rows.boot_sum (pa_cons (pv 4) pa_nil)) (pe_op op_mul (pe_gl T.c_HAND_SIZE rfl) (pv 2)) (nomark _)) (pss_one (ps_ret (pe_lst (pa_cons (pe_un un_neg pe_int) pa_nil)))) pss_nil)
      (pss_cons (ps_expr (pe_methG (m := "set_up") h_Game_set_up (hr.mono (by decide)) (pv 0) (pa_cons (pv 1) (pa_cons (pv 2) (pa_cons (pv 3) (pa_cons (pv 4) (pa_cons (pv 5) pa_nil)))))))
      (pss_one (ps_ret (pe_lst (pa_cons pe_int pa_nil))))))), ?_⟩
    walk_at "rd"
    unfold beginG at kk
    refine ⟨n, p, aw, ab, ae, lw, lb, le, rfl, haw, hab, hae, hlw, hlb, hle, fun H1 s1 => ⟨_, rfl, ?_⟩⟩
    by_cases c1 : isGame n p lw lb le = true
    · rw [if_neg (by simp [c1])]
      rw [if_neg (by simp [c1])] at kk
      obtain ⟨⟨n3, n11⟩, ⟨p2, p4⟩, zw, zb, ze⟩ := isGame_iff c1
      refine ⟨_, SqL.same s1 hab, .inl ⟨by decide, by decide⟩, ?_⟩
      by_cases c2 : lb.sum < 7 * p
      · rw [if_pos c2]
        rw [if_pos c2] at kk
        exact ref_of hg kk s1
      · rw [if_neg c2]
        rw [if_neg c2] at kk
        have hg1 := hg.same s1
        have own_ne : ∀ {a : Addr}, a ∉ A'.own → a ≠ A'.g := fun ha e => ha (by rw [e]; exact own_g A')
        refine ⟨A'.dx, gfs m A', hg1.obj, rfl, ?_⟩
        refine ⟨A'.g, A'.dx, gfs m A', n.toNat, p.toNat, aw, ab, ae, Kg82.nats lw, Kg82.nats lb, Kg82.nats le, ?_, hg1.obj, .inr ⟨m, A', rfl⟩, by omega, by omega, ?_, own_ne nw, ?_, own_ne nb, ?_, own_ne ne, fun H2 A2 e2 hg2 k2 o2 => ?_⟩
        · have en : n = (n.toNat : Int) := by omega
          have ep : p = (p.toNat : Int) := by omega
          rw [← en, ← ep]
        · rw [← vI_nats zw]; exact SqL.same s1 haw
        · rw [← vI_nats zb]; exact SqL.same s1 hab
        · rw [← vI_nats ze]; exact SqL.same s1 hae
        · refine ⟨by decide, fun q hq => ?_⟩
          have M : Moved Z.C H H2 A' A2 (G.setUp n.toNat p.toNat (Kg82.nats lw) (Kg82.nats lb) (Kg82.nats le)) := by
            refine ⟨hg2, e2, fun b u e nn => k2 b u (s1 _ _ e) (own_ne nn), fun b hb => ?_, fun b u e => ?_⟩
            · rcases o2 b hb with z | z
              · exact .inl (by rw [z]; exact own_g A')
              · exact .inr (s1.free z)
            · by_cases z : b = A'.g
              · exact ⟨_, by rw [z, ← e2]; exact hg2.obj⟩
              · exact ⟨u, k2 b u (s1 _ _ e) z⟩
          exact kk _ A2 q (M.then (Same.new hq)) (M.dom.new hq) (hg2.new hq) upd_same
    · rw [if_pos (by simpa using c1)]
      rw [if_pos (by simpa using c1)] at kk
      exact ref_of hg kk s1
def sp_end_of_list (K : PySem.W.Frag) : Sp := fun vs H Q _ => ∃ (a : Addr) (ns : List Int) (k : Nat) (z : Int), vs = [.ref a, .int (k : Int)] ∧ SqL K H a (vI ns) ∧ ns[k]? = some z ∧ Q (.int ((k : Int) + 1 + z)) H
theorem h_end_of_list (T : Txt K mg Z) (F : FunAt K mg "end_of_list" s_end_of_list P_end_of_list) : Has P w K mg base "end_of_list" 1 P_end_of_list (sp_end_of_list K) := by
  refine F.has sc_end_of_list (fun vs H Q E h => ?_) (fun f cdv A outer s H vs Q E hr h => ?_)
  · obtain ⟨a, ns, k, z, rfl, _⟩ := h
    rfl
  · obtain ⟨a, ns, k, z, rfl, ha, hz, kk⟩ := h
    refine ⟨_, (pss_one (ps_ret (pe_op op_add (pe_op op_add (pv 1) pe_int) (pe_ix (ix_listK (K := K) rfl) (pv 0) (pv 1) (fun _ _ => rfl))))), ?_⟩
    walk_at "rd"
    refine ixl_of (k := k) ha rfl (vI_get hz) ?_
    first | exact kk | exact ⟨_, rfl, kk⟩
/-- the rows of a call -/
def RowsAt (H : Hp) (A : GA) (ps : List Addr) (rs : List (List Int)) : Prop := Paired (fun q r => H q = some (.lst (vI r)) ∧ q ∉ A.own) ps rs
def sp_answer (K : PySem.W.Frag) (Z : ZA) : Sp := fun vs H Q _ => ∃ (A : GA) (m : G) (p : Int) (wa la : Addr) (xs : List Int) (ps : List Addr) (rs : List (List Int)), vs = [.ref A.g, .int p, .ref wa, .ref la] ∧ GameAt Z.C H A m ∧ Live m ∧ Good ((p :: xs) :: rs) ∧ SqL K H wa (vI xs) ∧ SqL K H la (ps.map V.ref) ∧ RowsAt H A ps rs ∧
  GivesL Z.C H A (stepG m ((p :: xs) :: rs)).1 Q (vI (stepG m ((p :: xs) :: rs)).2)
theorem h_answer (T : Txt K mg Z) (F : FunAt K mg "answer" s_answer P_answer)
    (h_begin : Has P w K mg base "begin" 3 P_begin (sp_begin K Z)) (h_word : Has P w K mg base "word" 2 P_word (sp_word K Z)) (h_draw : Has P w K mg base "draw" 5 P_draw (sp_draw K Z)) (h_play : Has P w K mg base "play" 5 P_play (sp_play K Z))
    (h_challenge : Has P w K mg base "challenge" 5 P_challenge (sp_challenge K Z)) (h_swap : Has P w K mg base "swap" 2 P_swap (sp_swap K Z)) (h_pass_turn : Has P w K mg base "pass_turn" 4 P_pass_turn (sp_pass_turn K Z)) (h_tell_now : Has P w K mg base "tell_now" 2 P_tell_now (sp_tell_now K Z))
    (h_tell_hand : Has P w K mg base "tell_hand" 1 P_tell_hand (sp_tell_hand K Z)) (h_tell_board : Has P w K mg base "tell_board" 1 P_tell_board (sp_tell_board K Z)) (h_tell_count : Has P w K mg base "tell_count" 5 P_tell_count (sp_tell_count K Z)) :
    Has P w K mg base "answer" 6 P_answer (sp_answer K Z) := by
  refine F.has sc_answer (fun vs H Q E h => ?_) (fun f cdv A outer s H vs Q E hr h => ?_)
  · obtain ⟨A, m, p, wa, la, xs, ps, rs, rfl, _⟩ := h
    rfl
  · obtain ⟨A', m, p, wa, la, xs, ps, rs, rfl, hg, lv, good, hwa, hla, hrs, kk⟩ := h
    refine ⟨_, (pss_cons (ps_if (pt_cmpR op_eq (pv 1) pe_int (nomark _)) (pss_one (ps_ret (pe_own h_begin (hr.mono (by decide)) rfl (pa_cons (pv 0) (pa_cons (pe_ix (ix_listK (K := K) rfl) (pv 2) pe_int (fun _ _ => rfl)) (pa_cons (pe_ix (ix_listK (K := K) rfl) (pv 2) pe_int (fun _ _ => rfl)) (pa_cons (pe_ix (ix_listK (K := K) rfl) (pv 3) pe_int (fun _ _ => rfl)) (pa_cons (pe_ix (ix_listK (K := K) rfl) (pv 3) pe_int (fun _ _ => rfl)) (pa_cons (pe_ix (ix_listK (K := K) rfl) (pv 3) pe_int (fun _ _ => rfl)) pa_nil))))))))) pss_nil)
      (pss_cons (ps_if (pt_cmpR op_eq (pv 1) pe_int (nomark _)) (pss_one (ps_ret (pe_own h_word (hr.mono (by decide)) rfl (pa_cons (pv 0) (pa_cons (pe_ix (ix_listK (K := K) rfl) (pv 3) pe_int (fun _ _ => rfl)) pa_nil))))) pss_nil)
      (pss_cons (ps_if (pt_cmpR op_eq (pv 1) pe_int (nomark _)) (pss_one (ps_ret (pe_own h_draw (hr.mono (by decide)) rfl (pa_cons (pv 0) (pa_cons (pe_ix (ix_listK (K := K) rfl) (pv 3) pe_int (fun _ _ => rfl)) pa_nil))))) pss_nil)
      (pss_cons (ps_if (pt_cmpR op_eq (pv 1) pe_int (nomark _)) (pss_one (ps_ret (pe_own h_play (hr.mono (by decide)) rfl (pa_cons (pv 0) (pa_cons (pe_ix (ix_listK (K := K) rfl) (pv 2) pe_int (fun _ _ => rfl)) (pa_cons (pe_ix (ix_listK (K := K) rfl) (pv 2) pe_int (fun _ _ => rfl)) (pa_cons (pe_ix (ix_listK (K := K) rfl) (pv 2) pe_int (fun _ _ => rfl)) (pa_cons (pe_ix (ix_listK (K := K) rfl) (pv 3) pe_int (fun _ _ => rfl)) pa_nil)))))))) pss_nil)
      (pss_cons (ps_if (pt_cmpR op_eq (pv 1) pe_int (nomark _)) (pss_one (ps_ret (pe_own h_challenge (hr.mono (by decide)) rfl (pa_cons (pv 0) (pa_cons (pe_ix (ix_listK (K := K) rfl) (pv 2) pe_int (fun _ _ => rfl)) pa_nil))))) pss_nil)
      (pss_cons (ps_if (pt_cmpR op_eq (pv 1) pe_int (nomark _)) (pss_one (ps_ret (pe_own h_swap (hr.mono (by decide)) rfl (pa_cons (pv 0) (pa_cons (pe_ix (ix_listK (K := K) rfl) (pv 3) pe_int (fun _ _ => rfl)) pa_nil))))) pss_nil)
      (pss_cons (ps_if (pt_cmpR op_eq (pv 1) pe_int (nomark _)) (pss_one (ps_ret (pe_own h_pass_turn (hr.mono (by decide)) rfl (pa_cons (pv 0) pa_nil)))) pss_nil)
      (pss_cons (ps_if (pt_cmpR op_eq (pv 1) pe_int (nomark _)) (pss_one (ps_ret (pe_own h_tell_now (hr.mono (by decide)) rfl (pa_cons (pv 0) pa_nil)))) pss_nil)
      (pss_cons (ps_if (pt_cmpR op_eq (pv 1) pe_int (nomark _)) (pss_one (ps_ret (pe_own h_tell_hand (hr.mono (by decide)) rfl (pa_cons (pv 0) (pa_cons (pe_ix (ix_listK (K := K) rfl) (pv 2) pe_int (fun _ _ => rfl)) pa_nil))))) pss_nil)
      (pss_cons (ps_if (pt_cmpR op_eq (pv 1) pe_int (nomark _)) (pss_one (ps_ret (pe_own h_tell_board (hr.mono (by decide)) rfl (pa_cons (pv 0) pa_nil)))) pss_nil)
      (pss_one (ps_ret (pe_own h_tell_count (hr.mono (by decide)) rfl (pa_cons (pv 0) (pa_cons (pe_ix (ix_listK (K := K) rfl) (pv 2) pe_int (fun _ _ => rfl)) (pa_cons (pe_ix (ix_listK (K := K) rfl) (pv 2) pe_int (fun _ _ => rfl)) (pa_cons (pe_ix (ix_listK (K := K) rfl) (pv 2) pe_int (fun _ _ => rfl)) (pa_cons (pe_ix (ix_listK (K := K) rfl) (pv 3) pe_int (fun _ _ => rfl)) pa_nil)))))))))))))))))), ?_⟩
    walk_at "rd"
    obtain ⟨⟨st, S⟩, ld, hd⟩ := lv
    have gp := sim_p S
    have hp4 : m.points.length ≤ 4 := by have := gp.pl; have := gp.p4; omega
    have full : m.phase ≠ 3 → GFull m ∧ (∀ h ∈ m.hands, h.length ≤ 7) ∧ ((m.phase = 0 ∨ m.phase = 2) → m.due ≤ 7) := sim_full S ld
    cases good with
    | @c1 n p' w' b' e' i1 i2 i3 =>
      cases hrs with
      | cons r1 t1 =>
      cases t1 with
      | cons r2 t2 =>
      cases t2 with
      | cons r3 t3 =>
      cases t3
      rw [if_pos rfl]
      refine ixl_of (k := 0) hwa rfl rfl (ixl_of (k := 1) hwa rfl rfl (ixl_of (k := 0) hla rfl rfl (ixl_of (k := 1) hla rfl rfl (ixl_of (k := 2) hla rfl rfl ?_))))
      exact ⟨A', m, n, p', _, _, _, w', b', e', rfl, hg, SqL.of r1.1, SqL.of r2.1, SqL.of r3.1, r1.2, r2.2, r3.2, by omega, by omega, by omega, kk⟩
    | @c2 l i1 =>
      cases hrs with
      | cons r1 t1 =>
      cases t1
      rw [if_neg (by decide), if_pos rfl]
      refine ixl_of (k := 0) hla rfl rfl ?_
      exact ⟨A', m, _, l, rfl, hg, SqL.of r1.1, by omega, kk⟩
    | @c3 l i1 =>
      cases hrs with
      | cons r1 t1 =>
      cases t1
      rw [if_neg (by decide), if_neg (by decide), if_pos rfl]
      refine ixl_of (k := 0) hla rfl rfl ?_
      exact ⟨A', m, _, l, rfl, hg, SqL.of r1.1, r1.2, by omega, fun h02 => full (by omega) |>.imp id fun q => ⟨q.1, q.2 h02⟩, fun l' => fd_points _ hp4, kk⟩
    | @c4 r c d l i1 =>
      cases hrs with
      | cons r1 t1 =>
      cases t1
      rw [if_neg (by decide), if_neg (by decide), if_neg (by decide), if_pos rfl]
      refine ixl_of (k := 0) hwa rfl rfl (ixl_of (k := 1) hwa rfl rfl (ixl_of (k := 2) hwa rfl rfl (ixl_of (k := 0) hla rfl rfl ?_)))
      exact ⟨A', m, r, c, d, _, l, rfl, hg, SqL.of r1.1, by omega, fun h1 => ⟨(full (by omega)).1, (full (by omega)).2.1⟩, kk⟩
    | @c5 b =>
      rw [if_neg (by decide), if_neg (by decide), if_neg (by decide), if_neg (by decide), if_pos rfl]
      refine ixl_of (k := 0) hwa rfl rfl ?_
      exact ⟨A', m, b, rfl, hg, fun h2 => ⟨(full (by omega)).1, (sim_laid S h2).1, (sim_laid S h2).2.1, (sim_laid S h2).2.2, (full (by omega)).2.1⟩, kk⟩
    | @c6 l i1 =>
      cases hrs with
      | cons r1 t1 =>
      cases t1
      rw [if_neg (by decide), if_neg (by decide), if_neg (by decide), if_neg (by decide), if_neg (by decide), if_pos rfl]
      refine ixl_of (k := 0) hla rfl rfl ?_
      exact ⟨A', m, _, l, rfl, hg, SqL.of r1.1, r1.2, by omega, fun h1 => (full (by omega)).1, kk⟩
    | c7 =>
      rw [if_neg (by decide), if_neg (by decide), if_neg (by decide), if_neg (by decide), if_neg (by decide), if_neg (by decide), if_pos rfl]
      exact ⟨A', m, rfl, hg, fun h1 => (full (by omega)).1.ok, kk⟩
    | c8 =>
      rw [if_neg (by decide), if_neg (by decide), if_neg (by decide), if_neg (by decide), if_neg (by decide), if_neg (by decide), if_neg (by decide), if_pos rfl]
      exact ⟨A', m, rfl, hg, hp4, kk⟩
    | @c9 i =>
      rw [if_neg (by decide), if_neg (by decide), if_neg (by decide), if_neg (by decide), if_neg (by decide), if_neg (by decide), if_neg (by decide), if_neg (by decide), if_pos rfl]
      refine ixl_of (k := 0) hwa rfl rfl ?_
      exact ⟨A', m, i, rfl, hg, gp, hd, kk⟩
    | c10 =>
      rw [if_neg (by decide), if_neg (by decide), if_neg (by decide), if_neg (by decide), if_neg (by decide), if_neg (by decide), if_neg (by decide), if_neg (by decide), if_neg (by decide), if_pos rfl]
      exact ⟨A', m, rfl, hg, sim_board S, kk⟩
    | @c11 r c d l i1 =>
      cases hrs with
      | cons r1 t1 =>
      cases t1
      rw [if_neg (by decide), if_neg (by decide), if_neg (by decide), if_neg (by decide), if_neg (by decide), if_neg (by decide), if_neg (by decide), if_neg (by decide), if_neg (by decide), if_neg (by decide)]
      refine ixl_of (k := 0) hwa rfl rfl (ixl_of (k := 1) hwa rfl rfl (ixl_of (k := 2) hwa rfl rfl (ixl_of (k := 0) hla rfl rfl ?_)))
      exact ⟨A', m, r, c, d, _, l, rfl, hg, SqL.of r1.1, by omega, fun h0 => sim_look S h0, kk⟩
end
section
variable {P : Program} {w : World} {K : PySem.W.Frag} {mg : Str → Option Value} {base : Heap} {Z : ZA} {C g dx : Addr} {H H1 H2 : Hp} {A A1 A2 : GA} {m m' m1 m2 : G} {Q : VK} {R : Hp → Prop}
def spAns (K : PySem.W.Frag) : Sp := fun vs H Q _ => ∃ (a : Addr) (ns : List Int), vs = [.ref a] ∧ SqL K H a (vI ns) ∧ ns.length ≤ 31000 ∧ PyKg82.answers_asked ns = true ∧ ∀ (H' : Hp) (p : Addr), H' p = some (.lst (vI (PyKg82.answers ns))) → Q (.ref p) H'
/-- a part of the list -/
theorem cut_of {ns : List Int} {a c : Nat} {x y : Int} (h1 : a ≤ c) (h2 : c ≤ ns.length) (ex : x = (a : Int)) (ey : y = (c : Int)) : cutV (vI ns) (some x) (some y) = vI ((ns.drop a).take (c - a)) := by
  subst ex ey
  rw [cut_nat h1 (by rw [List.length_map]; exact h2), ← List.map_drop, ← List.map_take]
structure Line (Z : ZA) (H : Hp) (t : Addr) (ans : List Int) (ns : List Int) (H' : Hp) (A : GA) (g : G) (k : Nat) (cs : List (List (List Int))) : Prop where
  at_ : GameAt Z.C H' A g
  live : Live g
  same : Same H H'
  own : ∀ b ∈ A.own, H b = none
  tn : H t = none
  to : t ∉ A.own
  told : ∃ out, H' t = some (.lst (vI out)) ∧ out ++ outG g cs = ans
  rest : ns.drop k = PyFlat.put cs
  kl : k ≤ ns.length
  good : ∀ c ∈ cs, Good c
theorem GameAt.updL {t : Addr} {xs ys : List V} (h : GameAt C H A m) (ht : t ∉ A.own) (hl : H t = some (.lst xs)) : GameAt C (upd H t (.lst ys)) A m := by
  refine h.keep (F := [t]) (fun b u e n => by rw [upd_ne (fun z => n (by simp [z]))]; exact e) fun b hb => ?_
  have e : b = t := by simpa using hb
  subst e
  refine ⟨ht, fun hw => ?_⟩
  obtain ⟨w', _, hq⟩ := pair_at h.ws b hw
  rw [hl] at hq; cases hq
theorem Line.up {t : Addr} {ans ns : List Int} {k : Nat} {cs : List (List (List Int))} (L : Line Z H t ans ns H1 A m k cs) (s : Same H1 H2) : Line Z H t ans ns H2 A m k cs := by
  obtain ⟨out, h1, h2⟩ := L.told
  exact ⟨L.at_.same s, L.live, L.same.trans s, L.own, L.tn, L.to, ⟨out, s _ _ h1, h2⟩, L.rest, L.kl, L.good⟩
theorem Line.next {t : Addr} {ans ns out : List Int} {k k' : Nat} {c : List (List Int)} {cs : List (List (List Int))} (L : Line Z H t ans ns H1 A m k (c :: cs)) (M : Moved Z.C H1 H2 A A1 (stepG m c).1) (ho : H1 t = some (.lst (vI out))) (eo : out ++ outG m (c :: cs) = ans) (hr : ns.drop k' = PyFlat.put cs) (hk : k' ≤ ns.length) (xs : List V) :
    Line Z H t ans ns (upd (upd H2 t (.lst xs)) t (.lst (vI out ++ [V.int ((stepG m c).2.length : Int)] ++ vI (stepG m c).2))) A1 (stepG m c).1 k' cs := by
  have ht2 : H2 t = some (.lst (vI out)) := M.keep _ _ ho L.to
  have hto : t ∉ A1.own := fun z => by
    rcases M.own t z with y | y
    · exact L.to y
    · rw [ho] at y; cases y
  refine ⟨(M.at_.updL hto ht2).updL hto upd_same, L.live.step (L.good c (by simp)), fun b u e => ?_, fun b hb => ?_, L.tn, hto, ⟨out ++ (((stepG m c).2.length : Int) :: (stepG m c).2), ?_, ?_⟩, hr, hk, fun d hd => L.good d (List.mem_cons_of_mem _ hd)⟩
  · have n1 : b ≠ t := ne_of_none e L.tn
    rw [upd_ne n1, upd_ne n1]
    exact M.keep b u (L.same b u e) fun z => by rw [L.own b z] at e; cases e
  · rcases M.own b hb with y | y
    · exact L.own b y
    · exact L.same.free y
  · rw [upd_same, List.append_assoc]
    show _ = some (HO.lst (List.map V.int (out ++ (((stepG m c).2.length : Int) :: (stepG m c).2))))
    rw [List.map_append]
    rfl
  · rw [← eo, List.append_assoc]
    rfl
theorem ok_answers {f : Addr} {fd : FuncData} (T : Txt K mg Z) (F : Fun K "answers" "answers" s_answers f fd) (h_Game___init__ : HasN P w K mg base "Game" Z.C 2 P_Game___init__ (sp_init K Z)) (h_end_of_list : Has P w K mg base "end_of_list" 1 P_end_of_list (sp_end_of_list K))
    (h_answer : Has P w K mg base "answer" 6 P_answer (sp_answer K Z)) : FnOk P w K mg base CX0 7 f fd P_answers (spAns K) := by
  refine F.ok sc_answers (fun vs H Q E h => ?_) (fun cdv A outer s H vs Q E hr h => ?_)
  · obtain ⟨a, ns, rfl, _⟩ := h
    rfl
  · obtain ⟨a, ns, rfl, ha, hlen, hask, kk⟩ := h
    obtain ⟨cs0, ens, hgood, eans, hshort⟩ := asked_line hask
    refine ⟨_, (pss_cons (ps_set (i := 1) sc_answers.nd rfl (Or.inl rfl) (pe_new h_Game___init__ (hr.mono (by decide)) rfl))
      (pss_cons (ps_set (i := 2) sc_answers.nd rfl (Or.inl rfl) (pe_lst pa_nil))
      (pss_cons (ps_set (i := 3) sc_answers.nd rfl (Or.inl rfl) pe_int)
      (pss_cons (ps_while PassesOwn.never (pt_cmpR op_lt (pv 3) (pe_callB (call_lenK (K := K) rfl) rfl T.no_len PySem.boot_len (pa_cons (pv 0) pa_nil)) (nomark _)) (pss_cons (ps_set (i := 4) sc_answers.nd rfl (Or.inl rfl) (pe_ix (ix_listK (K := K) rfl) (pv 0) (pv 3) (fun _ _ => rfl)))
      (pss_cons (ps_set (i := 5) sc_answers.nd rfl (Or.inl rfl) (pe_kd (K := K) rfl (pe_gl T.c_FORMS rfl) (pv 4) (fun _ _ => rfl)))
      (pss_cons (ps_set (i := 6) sc_answers.nd rfl (Or.inl rfl) (pe_slice (sl_listK (K := K) rfl) (pv 0) (po_some (pe_op op_add (pv 3) pe_int)) (po_some (pe_op op_add (pe_op op_add (pv 3) pe_int) (pe_ix (ix_tupK (K := K) rfl) (pv 5) pe_int (fun _ _ => rfl))))))
      (pss_cons (ps_aug (i := 3) sc_answers.nd rfl (Or.inl rfl) (pe_op op_add pe_int (pe_ix (ix_tupK (K := K) rfl) (pv 5) pe_int (fun _ _ => rfl))) ip_add)
      (pss_cons (ps_set (i := 7) sc_answers.nd rfl (Or.inl rfl) (pe_lst pa_nil))
      (pss_cons (ps_while PassesOwn.never (pt_cmpR op_lt (pe_callB (call_lenK (K := K) rfl) rfl T.no_len PySem.boot_len (pa_cons (pv 7) pa_nil)) (pe_ix (ix_tupK (K := K) rfl) (pv 5) pe_int (fun _ _ => rfl)) (nomark _)) (pss_cons (ps_set (i := 8) sc_answers.nd rfl (Or.inl rfl) (pe_own h_end_of_list (hr.mono (by decide)) rfl (pa_cons (pv 0) (pa_cons (pv 3) pa_nil))))
      (pss_cons (ps_expr (pe_bmK (K := K) rfl PySem.F.plainAttrs_list PySem.F.slot_list_append PySem.F.type_list_append mt_append (pv 7) (pa_cons (pe_slice (sl_listK (K := K) rfl) (pv 0) (po_some (pe_op op_add (pv 3) pe_int)) (po_some (pv 8))) pa_nil)))
      (pss_one (ps_set (i := 3) sc_answers.nd rfl (Or.inl rfl) (pv 8))))))
      (pss_cons (ps_set (i := 9) sc_answers.nd rfl (Or.inl rfl) (pe_own h_answer (hr.mono (by decide)) rfl (pa_cons (pv 1) (pa_cons (pv 4) (pa_cons (pv 6) (pa_cons (pv 7) pa_nil))))))
      (pss_cons (ps_expr (pe_bmK (K := K) rfl PySem.F.plainAttrs_list PySem.F.slot_list_append PySem.F.type_list_append mt_append (pv 2) (pa_cons (pe_callB (call_lenK (K := K) rfl) rfl T.no_len PySem.boot_len (pa_cons (pv 9) pa_nil)) pa_nil)))
      (pss_one (ps_expr (pe_bmK (K := K) rfl PySem.F.plainAttrs_list PySem.F.slot_list_extend PySem.F.type_list_extend mt_extend (pv 2) (pa_cons (pv 9) pa_nil)))))))))))))
      (pss_one (ps_ret (pv 2))))))), ?_⟩
    walk_at "rd"
    intro x dx hx hdx hne
    refine ⟨x, dx, rfl, upd_same, fun H1 A1 e1 hg1 k1 o1 => ⟨rfl, ?_⟩⟩
    have s1 : Same H H1 := fun b u e => by
      have n1 : b ≠ x := ne_of_none e hx
      have n2 : b ≠ dx := ne_of_none e hdx
      exact k1 b u (by rw [upd_ne n1, upd_ne n2]; exact e) n1
    have own1 : ∀ b ∈ A1.own, H b = none := fun b hb => by
      rcases o1 b hb with z | z
      · rw [z]; exact hx
      · cases e : H b with
        | none => rfl
        | some u =>
          have n1 : b ≠ x := ne_of_none e hx
          have n2 : b ≠ dx := ne_of_none e hdx
          rw [upd_ne n1, upd_ne n2, e] at z; cases z
    refine ⟨Nat.zero_le _, fun t ht => ?_⟩
    have L0 : Line Z H t (PyKg82.answers ns) ns (upd H1 t (.lst [])) A1 G.init 0 cs0 :=
      ⟨hg1.same (Same.new ht), live_init, Same.upd s1 ht, own1, s1.free ht, hg1.new ht, ⟨[], upd_same, eans.symm⟩, ens, Nat.zero_le _, hgood⟩
    subst e1
    refine wh_of (fun mm σ H' => ∃ (A : GA) (g : G) (k : Nat) (cs : List (List (List Int))) (v4 v5 v6 v7 v8 v9 : Option V), mm = cs.length ∧ σ = [some (V.ref a), some (V.ref A.g), some (V.ref t), some (V.int (k : Int)), v4, v5, v6, v7, v8, v9] ∧ Line Z H t (PyKg82.answers ns) ns H' A g k cs)
      cs0.length ⟨A1, G.init, 0, cs0, none, none, none, none, none, none, rfl, rfl, L0⟩ ?_
    rintro mm σ H' ⟨A', g, k, cs, v4, v5, v6, v7, v8, v9, rfl, rfl, L⟩ Pv' hPv
    have ha' : SqL K H' a (vI ns) := SqL.same L.same ha
    have el : ((vI ns).length : Int) = (ns.length : Int) := by simp
    walk_at "rd"
    refine ⟨vI ns, .inl ha', ?_⟩
    rw [el]
    obtain ⟨out, hout, eout⟩ := L.told
    have hol : out.length ≤ 10000000 := by
      rw [← eout, List.length_append] at hshort
      omega
    cases cs with
    | nil =>
      have hk : k = ns.length := by
        have h1 : ns.drop k = [] := L.rest
        have h2 := congrArg List.length h1
        rw [List.length_drop] at h2
        have h3 := L.kl
        have h4 : ([] : List Int).length = 0 := rfl
        omega
      rw [if_neg (by omega)]
      refine kk H' t ?_
      rw [← eout, hout]
      show _ = some (HO.lst (vI (out ++ [])))
      rw [List.append_nil]
    | cons c cs =>
      obtain ⟨p, xs, rs, rfl, hsh, hr3⟩ := (L.good c (by simp)).form
      have e0 : ns.drop k = p :: (xs ++ (PyFlat.putRows rs ++ PyFlat.put cs)) := by
        rw [L.rest]
        show (p :: xs ++ PyFlat.putRows rs) ++ PyFlat.put cs = _
        rw [List.append_assoc]; rfl
      obtain ⟨g1, g2, g3⟩ := dr_head e0
      obtain ⟨g4, g5, g6⟩ := dr_app g2 g3
      rw [if_pos (by omega)]
      refine ⟨fun σ' H' => ∃ m', m' < (((p :: xs) :: rs) :: cs).length ∧ Pv' m' σ' H', fun _ _ h => h, ?_⟩
      refine ixl_of (k := k) ha' rfl (vI_get g1) ?_
      obtain ⟨fq, hfq, hft⟩ := T.forms p _ _ hsh
      refine ⟨p, rfl, .ref fq, hfq, ixt_of (k := 0) (hft _) rfl rfl ⟨_, rfl, a, vI ns, rfl, ha', fun wq hwq => ?_⟩⟩
      rw [cut_of (a := k + 1) (c := k + 1 + xs.length) (by omega) g6 (by omega) (by omega), Nat.add_sub_cancel_left, g4]
      have s2 : Same H' (upd H' wq (.lst (vI xs))) := Same.new hwq
      refine ixt_of (k := 0) (hft _) rfl rfl ⟨_, rfl, Nat.zero_le _, fun lq hlq => ?_⟩
      have LS := L.up s2
      generalize hHs : upd H' wq (.lst (vI xs)) = Hs at *
      have hwq2 : Hs wq = some (.lst (vI xs)) := by rw [← hHs]; exact upd_same
      have haS : SqL K Hs a (vI ns) := SqL.same s2 ha'
      refine wh_of (fun mm σ H2 => ∃ (k2 : Nat) (dn rest : List (List Int)) (ps : List Addr) (u8 : Option V), mm = rest.length ∧ rs = dn ++ rest ∧ σ = [some (V.ref a), some (V.ref A'.g), some (V.ref t), some (V.int (k2 : Int)), some (V.int p), some (V.ref fq), some (V.ref wq), some (V.ref lq), u8, v9] ∧ Same Hs H2 ∧ H2 lq = some (.lst (ps.map V.ref)) ∧
        Paired (fun q r => H2 q = some (.lst (vI r)) ∧ Hs q = none ∧ q ≠ lq) ps dn ∧ ns.drop k2 = PyFlat.putRows rest ++ PyFlat.put cs ∧ k2 ≤ ns.length)
        rs.length ⟨k + 1 + xs.length, [], rs, [], v8, rfl, rfl, by rw [show (k : Int) + (1 + (xs.length : Int)) = ((k + 1 + xs.length : Nat) : Int) by omega], Same.new hlq, upd_same, .nil, g5, g6⟩ ?_
      rintro mm σ H2 ⟨k2, dn, rest, ps, u8, rfl, ers, rfl, sm, hlq2, hps, hdr, hk2⟩ Pw hPw
      have hpl := Paired.length hps
      have hal : ((ps.map V.ref).length : Int) = (dn.length : Int) := by rw [List.length_map, hpl]
      have hrl : rs.length = dn.length + rest.length := by rw [ers, List.length_append]
      have ha2 : SqL K H2 a (vI ns) := SqL.same sm haS
      walk_at "rd"
      refine ⟨ps.map V.ref, .inl (SqL.of hlq2), ?_⟩
      rw [hal]
      refine ixt_of (k := 1) (hft _) rfl rfl ?_
      walk_at "rd"
      cases rest with
      | nil =>
        rw [if_neg (by have : ([] : List (List Int)).length = 0 := rfl; omega)]
        rw [List.append_nil] at ers
        subst ers
        have L3 := LS.up sm
        refine ⟨A', g, p, wq, lq, xs, ps, rs, rfl, L3.at_, L3.live, L3.good _ (by simp), SqL.of (sm _ _ hwq2), SqL.of hlq2, ?_, fun H3 A3 q M hq hqo hH3 => ?_⟩
        · exact Paired.mapP hps fun q r h => ⟨h.1, LS.at_.new h.2.1⟩
        · have hout2 : H2 t = some (.lst (vI out)) := sm _ _ (s2 _ _ hout)
          have hout3 : H3 t = some (.lst (vI out)) := M.keep _ _ hout2 L3.to
          have hqt : q ≠ t := fun e => by rw [e, hout2] at hq; cases hq
          have hbig : out.length + 1 + (stepG g ((p :: xs) :: rs)).2.length ≤ 10000000 := by
            rw [← eout, List.length_append] at hshort
            have : (outG g (((p :: xs) :: rs) :: cs)).length = (stepG g ((p :: xs) :: rs)).2.length + (outG (stepG g ((p :: xs) :: rs)).1 cs).length + 1 := by
              show (_ :: (_ ++ _)).length = _
              rw [List.length_cons, List.length_append]
            omega
          generalize hst : stepG g ((p :: xs) :: rs) = sg at *
          have elr : ((vI sg.2).length : Int) = (sg.2.length : Int) := by simp
          refine ⟨.inl ⟨rfl, _, SqL.of hout3⟩, q, rfl, vI sg.2, .inl (SqL.of hH3), ?_⟩
          rw [elr]
          refine ⟨t, _, _, rfl, rfl, hout3, by rw [List.length_map]; exact Nat.lt_of_le_of_lt (show out.length ≤ 10000000 by omega) (by decide), ?_⟩
          refine ⟨.inl ⟨rfl, _, SqL.of upd_same⟩, t, q, _, _, rfl, rfl, upd_same, by rw [upd_ne hqt]; exact hH3, ?_, ?_⟩
          · simp only [List.length_append, List.length_map, List.length_cons, List.length_nil]
            exact Nat.le_trans (show _ ≤ 10000000 by omega) (by decide)
          · subst hst
            exact ⟨cs.length, Nat.lt_succ_self _, hPv _ _ _ ⟨A3, _, k2, cs, _, _, _, _, _, _, rfl, by rw [M.g], L3.next M hout2 eout hdr hk2 _⟩⟩
      | cons r rest =>
        rw [if_pos (by have : (r :: rest).length = rest.length + 1 := rfl; omega)]
        refine ⟨fun σ' H' => ∃ m', m' < (r :: rest).length ∧ Pw m' σ' H', fun _ _ h => h, ?_⟩
        have hdr' : ns.drop k2 = PyFlat.putRow r ++ (PyFlat.putRows rest ++ PyFlat.put cs) := by
          rw [hdr]
          show (PyFlat.putRow r ++ PyFlat.putRows rest) ++ PyFlat.put cs = _
          rw [List.append_assoc]
        obtain ⟨y1, y2, y3, y4⟩ := dr_row hdr'
        walk_at "rd"
        refine ⟨a, ns, k2, (r.length : Int), rfl, ha2, y1, ?_⟩
        walk_at "rd"
        refine ⟨.inl ⟨rfl, _, SqL.of hlq2⟩, a, vI ns, rfl, ha2, fun q hq => ?_⟩
        rw [cut_of (a := k2 + 1) (c := k2 + 1 + r.length) (by omega) y4 (by omega) (by omega), Nat.add_sub_cancel_left, y2]
        have hlqq : lq ≠ q := ne_of_none hlq2 hq
        have hlq3 : upd H2 q (.lst (vI r)) lq = some (.lst (ps.map V.ref)) := by rw [upd_ne hlqq]; exact hlq2
        refine ⟨lq, _, _, rfl, rfl, hlq3, by rw [List.length_map]; exact szl (by omega), ?_⟩
        refine ⟨rest.length, Nat.lt_succ_self _, hPw _ _ _ ⟨k2 + 1 + r.length, dn ++ [r], rest, ps ++ [q], _, rfl, by rw [ers, List.append_assoc]; rfl, by rw [show (k2 : Int) + 1 + (r.length : Int) = ((k2 + 1 + r.length : Nat) : Int) by omega], (Same.upd sm hq).updO hlq3 hlq, by rw [upd_same, List.map_append]; rfl, ?_, y3, y4⟩⟩
        refine Paired.snoc (Paired.mapP hps fun q' r' h => ⟨?_, h.2⟩) ⟨?_, sm.free hq, fun z => hlqq z.symm⟩
        · rw [upd_ne h.2.2, upd_ne (ne_of_none h.1 hq)]; exact h.1
        · rw [upd_ne (fun z => hlqq z.symm), upd_same]
end
end Tw
open PySem PySem.W PyProof.Rows
set_option Elab.async false
set_option linter.all false
set_option maxRecDepth 100000
set_option maxHeartbeats 2000000
namespace Tw
open PySem PySem.Spec PyProof.Rows L2
open PySem.W (Codec)
/-! ### what the top has written -/
def intsV : List Value → Option (List Int)
  | [] => some []
  | .int i _ :: r => (intsV r).map (i :: ·)
  | _ => none
theorem intsV_vals : ∀ {us : List Value} {zs : List Int}, intsV us = some zs → Vals (zs.map V.int) us
  | [], zs, h => by
    have e : [] = zs := Option.some.inj h
    subst e
    exact .nil
  | .int i t :: r, zs, h => by
    have h' : (intsV r).map (i :: ·) = some zs := h
    obtain ⟨ys, h1, rfl⟩ := Option.map_eq_some_iff.mp h'
    exact .cons ⟨t, rfl⟩ (intsV_vals h1)
/-- a tuple of ints -/
def tupI (o : Obj) : Option (List Int) := match o with
  | ⟨.type "tuple", _, .seq its _, _⟩ => if its.size ≤ 1000 then intsV its.toList else none
  | _ => none
theorem tupI_at {K : PySem.W.Frag} {a : Addr} {o : Obj} {zs : List Int} (l : K.lookup a = some o) (h : tupI o = some zs) (H : Hp) : SqT K H a (zs.map V.int) := by
  unfold tupI at h
  split at h
  · split at h
    · rename_i hs
      exact .inr ⟨_, _, _, l, rfl, rfl, sz hs, intsV_vals h⟩
    · cases h
  · cases h
def keyI (e : DictEntry) : Bool := match e.key with
  | .int k _ => e.hash == hashInt k
  | _ => false
def dictI (o : Obj) : Bool := match o with
  | ⟨.type "dict", _, .dict es _, _⟩ => es.toList.all keyI
  | _ => false
def dictAt (o : Obj) (p : Int) : Option Value := match o with
  | ⟨_, _, .dict es _, _⟩ => (es.toList.find? fun e => Value.isInt p e.key).map (·.val)
  | _ => none
theorem dict_get {K : PySem.W.Frag} {a q : Addr} {o : Obj} {p : Int} (l : K.lookup a = some o) (h : dictI o = true) (hp : dictAt o p = some (.ref q)) : KGet K a p (.ref q) := by
  unfold dictI at h
  split at h
  · rename_i es ep _
    refine ⟨_, es, ep, .ref q, l, rfl, rfl, fun e he => ?_, ?_, rfl⟩
    · have := List.all_eq_true.mp h e (by simpa using he)
      unfold keyI at this
      split at this
      · rename_i k t hk
        exact ⟨k, t, hk, by simpa using this⟩
      · cases this
    · unfold findBy
      rw [← Array.find?_toList]
      exact hp
  · cases h
section
variable {P : Program} {w : World} {K : PySem.W.Frag} {h : Heap} {mg : Str → Option Value} {base : Heap}
theorem glob_int (X : K.In h) (G : h.Ns mainGlobals mg) {x : Str} {i : Int} {t : Tok} (a : PySem.W.nsIn K mainGlobals x = some (some (.int i t))) : Glob mg x (.int i) := ⟨_, PySem.W.mg_of X G a, t, rfl⟩
theorem glob_ref (X : K.In h) (G : h.Ns mainGlobals mg) {x : Str} {b : Addr} (a : PySem.W.nsIn K mainGlobals x = some (some (.ref b))) : Glob mg x (.ref b) := ⟨_, PySem.W.mg_of X G a, rfl⟩
/-- a def (or method) of the text at f -/
def FnAt (K : PySem.W.Frag) (x q : Str) (st : Stmt) (f : Addr) : Prop := ∃ (oc : Value) (od an : Option Addr) (sl : Array (Option Value)) (kV dc pm cd ct : Value),
  K.lookup f = some ⟨oc, od, .func (PySem.W.fnOf x q (defArgs st) (defBody st) (defScope st) .none kV dc pm an cd ct), sl⟩ ∧ PySem.W.codeIn K cd q = true ∧ PySem.W.keepIn K (.ref f) = true
theorem fnAt_mk {x q : Str} {st : Stmt} {f : Addr} {oc : Value} {od an : Option Addr} {sl : Array (Option Value)} {kV dc pm cd ct : Value} (l : K.lookup f = some ⟨oc, od, .func (PySem.W.fnOf x q (defArgs st) (defBody st) (defScope st) .none kV dc pm an cd ct), sl⟩)
    (c : PySem.W.codeIn K cd q = true) (k : PySem.W.keepIn K (.ref f) = true) : FnAt K x q st f := ⟨oc, od, an, sl, kV, dc, pm, cd, ct, l, c, k⟩
theorem FnAt.kp {x q : Str} {st : Stmt} {f : Addr} (F : FnAt K x q st f) : PySem.W.keepIn K (.ref f) = true := by
  obtain ⟨_, _, _, _, _, _, _, _, _, _, _, k⟩ := F
  exact k
def BindOk (x q : Str) (st : Stmt) (ps : List Str) : Prop := ∀ (kV doc pm : Value) (an : Option Addr) (cdv ct : Value) (us : List Value), us.length = ps.length → bindArgs (PySem.W.fnOf x q (defArgs st) (defBody st) (defScope st) .none kV doc pm an cdv ct) ⟨us, []⟩ = pure (ps.zip us)
theorem bnd1 {x q : Str} {st : Stmt} {p1 : Str} (H : ∀ (kV doc pm : Value) (an : Option Addr) (cdv ct : Value) (a : Value), bindArgs (PySem.W.fnOf x q (defArgs st) (defBody st) (defScope st) .none kV doc pm an cdv ct) ⟨[a], []⟩ = pure ([p1].zip [a])) : BindOk x q st [p1] := fun _ _ _ _ _ _ us hl => by
  obtain ⟨a, r0, rfl, h0⟩ := lnS hl.symm
  cases ln0 h0
  exact H _ _ _ _ _ _ _
theorem bnd2 {x q : Str} {st : Stmt} {p1 p2 : Str} (H : ∀ (kV doc pm : Value) (an : Option Addr) (cdv ct : Value) (a b : Value), bindArgs (PySem.W.fnOf x q (defArgs st) (defBody st) (defScope st) .none kV doc pm an cdv ct) ⟨[a, b], []⟩ = pure ([p1, p2].zip [a, b])) : BindOk x q st [p1, p2] := fun _ _ _ _ _ _ us hl => by
  obtain ⟨a, r0, rfl, h0⟩ := lnS hl.symm
  obtain ⟨b, r1, rfl, h1⟩ := lnS h0
  cases ln0 h1
  exact H _ _ _ _ _ _ _ _
theorem bnd3 {x q : Str} {st : Stmt} {p1 p2 p3 : Str} (H : ∀ (kV doc pm : Value) (an : Option Addr) (cdv ct : Value) (a b c : Value), bindArgs (PySem.W.fnOf x q (defArgs st) (defBody st) (defScope st) .none kV doc pm an cdv ct) ⟨[a, b, c], []⟩ = pure ([p1, p2, p3].zip [a, b, c])) : BindOk x q st [p1, p2, p3] := fun _ _ _ _ _ _ us hl => by
  obtain ⟨a, r0, rfl, h0⟩ := lnS hl.symm
  obtain ⟨b, r1, rfl, h1⟩ := lnS h0
  obtain ⟨c, r2, rfl, h2⟩ := lnS h1
  cases ln0 h2
  exact H _ _ _ _ _ _ _ _ _
theorem bnd4 {x q : Str} {st : Stmt} {p1 p2 p3 p4 : Str} (H : ∀ (kV doc pm : Value) (an : Option Addr) (cdv ct : Value) (a b c d : Value), bindArgs (PySem.W.fnOf x q (defArgs st) (defBody st) (defScope st) .none kV doc pm an cdv ct) ⟨[a, b, c, d], []⟩ = pure ([p1, p2, p3, p4].zip [a, b, c, d])) : BindOk x q st [p1, p2, p3, p4] := fun _ _ _ _ _ _ us hl => by
  obtain ⟨a, r0, rfl, h0⟩ := lnS hl.symm
  obtain ⟨b, r1, rfl, h1⟩ := lnS h0
  obtain ⟨c, r2, rfl, h2⟩ := lnS h1
  obtain ⟨d, r3, rfl, h3⟩ := lnS h2
  cases ln0 h3
  exact H _ _ _ _ _ _ _ _ _ _
theorem bnd5 {x q : Str} {st : Stmt} {p1 p2 p3 p4 p5 : Str} (H : ∀ (kV doc pm : Value) (an : Option Addr) (cdv ct : Value) (a b c d e : Value), bindArgs (PySem.W.fnOf x q (defArgs st) (defBody st) (defScope st) .none kV doc pm an cdv ct) ⟨[a, b, c, d, e], []⟩ = pure ([p1, p2, p3, p4, p5].zip [a, b, c, d, e])) : BindOk x q st [p1, p2, p3, p4, p5] := fun _ _ _ _ _ _ us hl => by
  obtain ⟨a, r0, rfl, h0⟩ := lnS hl.symm
  obtain ⟨b, r1, rfl, h1⟩ := lnS h0
  obtain ⟨c, r2, rfl, h2⟩ := lnS h1
  obtain ⟨d, r3, rfl, h3⟩ := lnS h2
  obtain ⟨e, r4, rfl, h4⟩ := lnS h3
  cases ln0 h4
  exact H _ _ _ _ _ _ _ _ _ _ _
theorem bnd6 {x q : Str} {st : Stmt} {p1 p2 p3 p4 p5 p6 : Str} (H : ∀ (kV doc pm : Value) (an : Option Addr) (cdv ct : Value) (a b c d e f : Value), bindArgs (PySem.W.fnOf x q (defArgs st) (defBody st) (defScope st) .none kV doc pm an cdv ct) ⟨[a, b, c, d, e, f], []⟩ = pure ([p1, p2, p3, p4, p5, p6].zip [a, b, c, d, e, f])) : BindOk x q st [p1, p2, p3, p4, p5, p6] := fun _ _ _ _ _ _ us hl => by
  obtain ⟨a, r0, rfl, h0⟩ := lnS hl.symm
  obtain ⟨b, r1, rfl, h1⟩ := lnS h0
  obtain ⟨c, r2, rfl, h2⟩ := lnS h1
  obtain ⟨d, r3, rfl, h3⟩ := lnS h2
  obtain ⟨e, r4, rfl, h4⟩ := lnS h3
  obtain ⟨f, r5, rfl, h5⟩ := lnS h4
  cases ln0 h5
  exact H _ _ _ _ _ _ _ _ _ _ _ _
theorem funAt_mk (X : K.In h) (G : h.Ns mainGlobals mg) {x : Str} {st : Stmt} {ps : List Str} {f : Addr} (a : PySem.W.nsIn K mainGlobals x = some (some (.ref f))) (l : FnAt K x x st f) (hb : BindOk x x st ps) : FunAt K mg x st ps := by
  obtain ⟨_, _, _, _, _, _, _, _, _, l, c, k⟩ := l
  exact ⟨f, _, PySem.W.mg_of X G a, fun_mk l c k, (fun_mk l c k).binds hb⟩
theorem funM_mk {m q : Str} {st : Stmt} {ps : List Str} {f : Addr} (l : FnAt K m q st f) (hb : BindOk m q st ps) : FunM K m q st ps f := by
  obtain ⟨_, _, _, _, _, _, _, _, _, l, c, k⟩ := l
  exact ⟨_, fun_mk l c k, (fun_mk l c k).binds hb⟩
theorem all_has {Z : ZA} {f fI fS : Addr} {fd : FuncData} (T : Txt K mg Z)
    (F_neighbours : FunAt K mg "neighbours" s_neighbours P_neighbours)
    (F_touches : FunAt K mg "touches" s_touches P_touches)
    (F_is_tied : FunAt K mg "is_tied" s_is_tied P_is_tied)
    (F_line_from : FunAt K mg "line_from" s_line_from P_line_from)
    (F_run_through : FunAt K mg "run_through" s_run_through P_run_through)
    (F_words_of : FunAt K mg "words_of" s_words_of P_words_of)
    (F_board_with : FunAt K mg "board_with" s_board_with P_board_with)
    (F_squares_for : FunAt K mg "squares_for" s_squares_for P_squares_for)
    (F_all_within : FunAt K mg "all_within" s_all_within P_all_within)
    (F_is_play : FunAt K mg "is_play" s_is_play P_is_play)
    (F_face_of : FunAt K mg "face_of" s_face_of P_face_of)
    (F_tile_of : FunAt K mg "tile_of" s_tile_of P_tile_of)
    (F_worth_of_word : FunAt K mg "worth_of_word" s_worth_of_word P_worth_of_word)
    (F_worth_of_play : FunAt K mg "worth_of_play" s_worth_of_play P_worth_of_play)
    (F_letters_on : FunAt K mg "letters_on" s_letters_on P_letters_on)
    (F_tell_count : FunAt K mg "tell_count" s_tell_count P_tell_count)
    (F_is_game : FunAt K mg "is_game" s_is_game P_is_game)
    (F_begin : FunAt K mg "begin" s_begin P_begin)
    (F_word : FunAt K mg "word" s_word P_word)
    (F_await_play : FunAt K mg "await_play" s_await_play P_await_play)
    (F_end_game : FunAt K mg "end_game" s_end_game P_end_game)
    (F_go_to_next : FunAt K mg "go_to_next" s_go_to_next P_go_to_next)
    (F_is_played_out : FunAt K mg "is_played_out" s_is_played_out P_is_played_out)
    (F_end_turn : FunAt K mg "end_turn" s_end_turn P_end_turn)
    (F_follow_first_draw : FunAt K mg "follow_first_draw" s_follow_first_draw P_follow_first_draw)
    (F_follow_draw : FunAt K mg "follow_draw" s_follow_draw P_follow_draw)
    (F_is_in_bag : FunAt K mg "is_in_bag" s_is_in_bag P_is_in_bag)
    (F_standing : FunAt K mg "standing" s_standing P_standing)
    (F_draw : FunAt K mg "draw" s_draw P_draw)
    (F_put_on_board : FunAt K mg "put_on_board" s_put_on_board P_put_on_board)
    (F_is_in_hand : FunAt K mg "is_in_hand" s_is_in_hand P_is_in_hand)
    (F_play : FunAt K mg "play" s_play P_play)
    (F_unlisted_words : FunAt K mg "unlisted_words" s_unlisted_words P_unlisted_words)
    (F_take_back : FunAt K mg "take_back" s_take_back P_take_back)
    (F_challenge : FunAt K mg "challenge" s_challenge P_challenge)
    (F_swap : FunAt K mg "swap" s_swap P_swap)
    (F_pass_turn : FunAt K mg "pass_turn" s_pass_turn P_pass_turn)
    (F_tell_now : FunAt K mg "tell_now" s_tell_now P_tell_now)
    (F_tell_hand : FunAt K mg "tell_hand" s_tell_hand P_tell_hand)
    (F_tell_board : FunAt K mg "tell_board" s_tell_board P_tell_board)
    (F_answer : FunAt K mg "answer" s_answer P_answer)
    (F_end_of_list : FunAt K mg "end_of_list" s_end_of_list P_end_of_list)
    (FI : FunM K "__init__" "Game.__init__" s_Game___init__ P_Game___init__ fI) (mI : Mk K Z.C fI) (FS : FunM K "set_up" "Game.set_up" s_Game_set_up P_Game_set_up fS) (mS : Meth K Z.C "set_up" fS)
    (F : Fun K "answers" "answers" s_answers f fd) : FnOk P w K mg base CX0 7 f fd P_answers (spAns K) := by
  have h_Game_set_up := h_Game_set_up (P := P) (w := w) (base := base) T FS mS
  have h_Game___init__ := h_Game___init__ (P := P) (w := w) (base := base) T FI mI h_Game_set_up
  have h_neighbours := h_neighbours (P := P) (w := w) (base := base) T F_neighbours
  have h_touches := h_touches (P := P) (w := w) (base := base) T F_touches h_neighbours
  have h_is_tied := h_is_tied (P := P) (w := w) (base := base) T F_is_tied h_touches
  have h_line_from := h_line_from (P := P) (w := w) (base := base) T F_line_from
  have h_run_through := h_run_through (P := P) (w := w) (base := base) T F_run_through h_line_from
  have h_words_of := h_words_of (P := P) (w := w) (base := base) T F_words_of h_run_through
  have h_board_with := h_board_with (P := P) (w := w) (base := base) T F_board_with
  have h_squares_for := h_squares_for (P := P) (w := w) (base := base) T F_squares_for h_line_from h_is_tied h_words_of h_board_with
  have h_all_within := h_all_within (P := P) (w := w) (base := base) T F_all_within
  have h_is_play := h_is_play (P := P) (w := w) (base := base) T F_is_play h_all_within
  have h_face_of := h_face_of (P := P) (w := w) (base := base) T F_face_of
  have h_tile_of := h_tile_of (P := P) (w := w) (base := base) T F_tile_of
  have h_worth_of_word := h_worth_of_word (P := P) (w := w) (base := base) T F_worth_of_word h_tile_of
  have h_worth_of_play := h_worth_of_play (P := P) (w := w) (base := base) T F_worth_of_play h_worth_of_word
  have h_letters_on := h_letters_on (P := P) (w := w) (base := base) T F_letters_on
  have h_tell_count := h_tell_count (P := P) (w := w) (base := base) T F_tell_count h_is_play h_face_of h_squares_for h_board_with h_words_of h_worth_of_play h_letters_on h_worth_of_word
  have h_is_game := h_is_game (P := P) (w := w) (base := base) T F_is_game h_all_within
  have h_begin := h_begin (P := P) (w := w) (base := base) T F_begin h_is_game h_Game_set_up
  have h_word := h_word (P := P) (w := w) (base := base) T F_word h_all_within
  have h_await_play := h_await_play (P := P) (w := w) (base := base) T F_await_play
  have h_end_game := h_end_game (P := P) (w := w) (base := base) T F_end_game
  have h_go_to_next := h_go_to_next (P := P) (w := w) (base := base) T F_go_to_next h_end_game h_await_play
  have h_is_played_out := h_is_played_out (P := P) (w := w) (base := base) T F_is_played_out
  have h_end_turn := h_end_turn (P := P) (w := w) (base := base) T F_end_turn h_end_game h_go_to_next h_is_played_out
  have h_follow_first_draw := h_follow_first_draw (P := P) (w := w) (base := base) T F_follow_first_draw h_await_play
  have h_follow_draw := h_follow_draw (P := P) (w := w) (base := base) T F_follow_draw h_end_turn h_follow_first_draw
  have h_is_in_bag := h_is_in_bag (P := P) (w := w) (base := base) T F_is_in_bag
  have h_standing := h_standing (P := P) (w := w) (base := base) T F_standing
  have h_draw := h_draw (P := P) (w := w) (base := base) T F_draw h_all_within h_is_in_bag h_follow_draw h_standing
  have h_put_on_board := h_put_on_board (P := P) (w := w) (base := base) T F_put_on_board h_tile_of h_board_with h_words_of h_worth_of_play
  have h_is_in_hand := h_is_in_hand (P := P) (w := w) (base := base) T F_is_in_hand
  have h_play := h_play (P := P) (w := w) (base := base) T F_play h_is_play h_face_of h_tile_of h_is_in_hand h_squares_for h_put_on_board h_standing
  have h_unlisted_words := h_unlisted_words (P := P) (w := w) (base := base) T F_unlisted_words h_words_of h_letters_on
  have h_take_back := h_take_back (P := P) (w := w) (base := base) T F_take_back h_tile_of
  have h_challenge := h_challenge (P := P) (w := w) (base := base) T F_challenge h_unlisted_words h_take_back h_end_turn h_standing
  have h_swap := h_swap (P := P) (w := w) (base := base) T F_swap h_all_within h_is_in_hand h_standing
  have h_pass_turn := h_pass_turn (P := P) (w := w) (base := base) T F_pass_turn h_end_turn h_standing
  have h_tell_now := h_tell_now (P := P) (w := w) (base := base) T F_tell_now h_standing
  have h_tell_hand := h_tell_hand (P := P) (w := w) (base := base) T F_tell_hand
  have h_tell_board := h_tell_board (P := P) (w := w) (base := base) T F_tell_board
  have h_answer := h_answer (P := P) (w := w) (base := base) T F_answer h_begin h_word h_draw h_play h_challenge h_swap h_pass_turn h_tell_now h_tell_hand h_tell_board h_tell_count
  have h_end_of_list := h_end_of_list (P := P) (w := w) (base := base) T F_end_of_list
  exact ok_answers T F h_Game___init__ h_end_of_list h_answer
end
theorem all_mk {P : Program} {w : World} {K : PySem.W.Frag} {h : Heap} {mg : Str → Option Value} {fa C lt wt fm : Addr} (X : K.In h) (G : h.Ns mainGlobals mg) (hfa : mg "answers" = some (.ref fa))
    (n_len : PySem.W.nsIn K mainGlobals "len" = some none)
    (n_sum : PySem.W.nsIn K mainGlobals "sum" = some none)
    (n_any : PySem.W.nsIn K mainGlobals "any" = some none)
    (n_all : PySem.W.nsIn K mainGlobals "all" = some none)
    (n_min : PySem.W.nsIn K mainGlobals "min" = some none)
    (n_max : PySem.W.nsIn K mainGlobals "max" = some none)
    (n_abs : PySem.W.nsIn K mainGlobals "abs" = some none)
    (n_list : PySem.W.nsIn K mainGlobals "list" = some none)
    (n_tuple : PySem.W.nsIn K mainGlobals "tuple" = some none)
    (n_range : PySem.W.nsIn K mainGlobals "range" = some none)
    (n_zip : PySem.W.nsIn K mainGlobals "zip" = some none)
    {t_LETTERS : Tok} (c_LETTERS : PySem.W.nsIn K mainGlobals "LETTERS" = some (some (.int 26 t_LETTERS)))
    {t_FULL_PLAY : Tok} (c_FULL_PLAY : PySem.W.nsIn K mainGlobals "FULL_PLAY" = some (some (.int 7 t_FULL_PLAY)))
    {t_FULL_PLAY_MORE : Tok} (c_FULL_PLAY_MORE : PySem.W.nsIn K mainGlobals "FULL_PLAY_MORE" = some (some (.int 50 t_FULL_PLAY_MORE)))
    {t_DRAWING : Tok} (c_DRAWING : PySem.W.nsIn K mainGlobals "DRAWING" = some (some (.int 0 t_DRAWING)))
    {t_PLAYING : Tok} (c_PLAYING : PySem.W.nsIn K mainGlobals "PLAYING" = some (some (.int 1 t_PLAYING)))
    {t_CHALLENGING : Tok} (c_CHALLENGING : PySem.W.nsIn K mainGlobals "CHALLENGING" = some (some (.int 2 t_CHALLENGING)))
    {t_OVER : Tok} (c_OVER : PySem.W.nsIn K mainGlobals "OVER" = some (some (.int 3 t_OVER)))
    {t_HAND_SIZE : Tok} (c_HAND_SIZE : PySem.W.nsIn K mainGlobals "HAND_SIZE" = some (some (.int 7 t_HAND_SIZE)))
    {t_IDLE_LIMIT : Tok} (c_IDLE_LIMIT : PySem.W.nsIn K mainGlobals "IDLE_LIMIT" = some (some (.int 6 t_IDLE_LIMIT)))
    {t_SORTS : Tok} (c_SORTS : PySem.W.nsIn K mainGlobals "SORTS" = some (some (.int 27 t_SORTS)))
    {t_MOST_WORDS : Tok} (c_MOST_WORDS : PySem.W.nsIn K mainGlobals "MOST_WORDS" = some (some (.int 300 t_MOST_WORDS)))
    {t_SWAP_NEEDS : Tok} (c_SWAP_NEEDS : PySem.W.nsIn K mainGlobals "SWAP_NEEDS" = some (some (.int 7 t_SWAP_NEEDS)))
    {oL oW oF : Obj} (aL : PySem.W.nsIn K mainGlobals "LETTER_TIMES" = some (some (.ref lt))) (lL : K.lookup lt = some oL) (iL : tupI oL = some [1, 2, 3, 1, 1])
    (aW : PySem.W.nsIn K mainGlobals "WORD_TIMES" = some (some (.ref wt))) (lW : K.lookup wt = some oW) (iW : tupI oW = some [1, 1, 1, 2, 3])
    (aC : PySem.W.nsIn K mainGlobals "Game" = some (some (.ref C)))
    (pg : PySem.W.plainGet K C Str.empty = true) (hd : PySem.W.hasDictIn K C = true) (po : PySem.W.plainOver K C = true) (sa : PySem.W.findIn K (.ref C) "__setattr__" = some (some (.builtin "object.__setattr__")))
    (f_rows : PySem.W.findIn K (.ref C) "rows" = some none)
    (f_players : PySem.W.findIn K (.ref C) "players" = some none)
    (f_worths : PySem.W.findIn K (.ref C) "worths" = some none)
    (f_bag : PySem.W.findIn K (.ref C) "bag" = some none)
    (f_squares : PySem.W.findIn K (.ref C) "squares" = some none)
    (f_board : PySem.W.findIn K (.ref C) "board" = some none)
    (f_hands : PySem.W.findIn K (.ref C) "hands" = some none)
    (f_points : PySem.W.findIn K (.ref C) "points" = some none)
    (f_lost : PySem.W.findIn K (.ref C) "lost" = some none)
    (f_words : PySem.W.findIn K (.ref C) "words" = some none)
    (f_phase : PySem.W.findIn K (.ref C) "phase" = some none)
    (f_turn : PySem.W.findIn K (.ref C) "turn" = some none)
    (f_due : PySem.W.findIn K (.ref C) "due" = some none)
    (f_aside : PySem.W.findIn K (.ref C) "aside" = some none)
    (f_laid : PySem.W.findIn K (.ref C) "laid" = some none)
    (f_down : PySem.W.findIn K (.ref C) "down" = some none)
    (f_counted : PySem.W.findIn K (.ref C) "counted" = some none)
    (f_idle : PySem.W.findIn K (.ref C) "idle" = some none)
    (aF : PySem.W.nsIn K mainGlobals "FORMS" = some (some (.ref fm))) (lF : K.lookup fm = some oF) (iF : dictI oF = true)
    {q1 : Addr} {o1 : Obj} (d1 : dictAt oF 1 = some (.ref q1)) (l1 : K.lookup q1 = some o1) (i1 : tupI o1 = some [2, 3])
    {q2 : Addr} {o2 : Obj} (d2 : dictAt oF 2 = some (.ref q2)) (l2 : K.lookup q2 = some o2) (i2 : tupI o2 = some [0, 1])
    {q3 : Addr} {o3 : Obj} (d3 : dictAt oF 3 = some (.ref q3)) (l3 : K.lookup q3 = some o3) (i3 : tupI o3 = some [0, 1])
    {q4 : Addr} {o4 : Obj} (d4 : dictAt oF 4 = some (.ref q4)) (l4 : K.lookup q4 = some o4) (i4 : tupI o4 = some [3, 1])
    {q5 : Addr} {o5 : Obj} (d5 : dictAt oF 5 = some (.ref q5)) (l5 : K.lookup q5 = some o5) (i5 : tupI o5 = some [1, 0])
    {q6 : Addr} {o6 : Obj} (d6 : dictAt oF 6 = some (.ref q6)) (l6 : K.lookup q6 = some o6) (i6 : tupI o6 = some [0, 1])
    {q7 : Addr} {o7 : Obj} (d7 : dictAt oF 7 = some (.ref q7)) (l7 : K.lookup q7 = some o7) (i7 : tupI o7 = some [0, 0])
    {q8 : Addr} {o8 : Obj} (d8 : dictAt oF 8 = some (.ref q8)) (l8 : K.lookup q8 = some o8) (i8 : tupI o8 = some [0, 0])
    {q9 : Addr} {o9 : Obj} (d9 : dictAt oF 9 = some (.ref q9)) (l9 : K.lookup q9 = some o9) (i9 : tupI o9 = some [1, 0])
    {q10 : Addr} {o10 : Obj} (d10 : dictAt oF 10 = some (.ref q10)) (l10 : K.lookup q10 = some o10) (i10 : tupI o10 = some [0, 0])
    {q11 : Addr} {o11 : Obj} (d11 : dictAt oF 11 = some (.ref q11)) (l11 : K.lookup q11 = some o11) (i11 : tupI o11 = some [3, 1])
    {f_dneighbours : Addr} (a_dneighbours : PySem.W.nsIn K mainGlobals "neighbours" = some (some (.ref f_dneighbours)))
    (l_dneighbours : FnAt K "neighbours" "neighbours" s_neighbours f_dneighbours)
    {f_dtouches : Addr} (a_dtouches : PySem.W.nsIn K mainGlobals "touches" = some (some (.ref f_dtouches)))
    (l_dtouches : FnAt K "touches" "touches" s_touches f_dtouches)
    {f_dis_tied : Addr} (a_dis_tied : PySem.W.nsIn K mainGlobals "is_tied" = some (some (.ref f_dis_tied)))
    (l_dis_tied : FnAt K "is_tied" "is_tied" s_is_tied f_dis_tied)
    {f_dline_from : Addr} (a_dline_from : PySem.W.nsIn K mainGlobals "line_from" = some (some (.ref f_dline_from)))
    (l_dline_from : FnAt K "line_from" "line_from" s_line_from f_dline_from)
    {f_drun_through : Addr} (a_drun_through : PySem.W.nsIn K mainGlobals "run_through" = some (some (.ref f_drun_through)))
    (l_drun_through : FnAt K "run_through" "run_through" s_run_through f_drun_through)
    {f_dwords_of : Addr} (a_dwords_of : PySem.W.nsIn K mainGlobals "words_of" = some (some (.ref f_dwords_of)))
    (l_dwords_of : FnAt K "words_of" "words_of" s_words_of f_dwords_of)
    {f_dboard_with : Addr} (a_dboard_with : PySem.W.nsIn K mainGlobals "board_with" = some (some (.ref f_dboard_with)))
    (l_dboard_with : FnAt K "board_with" "board_with" s_board_with f_dboard_with)
    {f_dsquares_for : Addr} (a_dsquares_for : PySem.W.nsIn K mainGlobals "squares_for" = some (some (.ref f_dsquares_for)))
    (l_dsquares_for : FnAt K "squares_for" "squares_for" s_squares_for f_dsquares_for)
    {f_dall_within : Addr} (a_dall_within : PySem.W.nsIn K mainGlobals "all_within" = some (some (.ref f_dall_within)))
    (l_dall_within : FnAt K "all_within" "all_within" s_all_within f_dall_within)
    {f_dis_play : Addr} (a_dis_play : PySem.W.nsIn K mainGlobals "is_play" = some (some (.ref f_dis_play)))
    (l_dis_play : FnAt K "is_play" "is_play" s_is_play f_dis_play)
    {f_dface_of : Addr} (a_dface_of : PySem.W.nsIn K mainGlobals "face_of" = some (some (.ref f_dface_of)))
    (l_dface_of : FnAt K "face_of" "face_of" s_face_of f_dface_of)
    {f_dtile_of : Addr} (a_dtile_of : PySem.W.nsIn K mainGlobals "tile_of" = some (some (.ref f_dtile_of)))
    (l_dtile_of : FnAt K "tile_of" "tile_of" s_tile_of f_dtile_of)
    {f_dworth_of_word : Addr} (a_dworth_of_word : PySem.W.nsIn K mainGlobals "worth_of_word" = some (some (.ref f_dworth_of_word)))
    (l_dworth_of_word : FnAt K "worth_of_word" "worth_of_word" s_worth_of_word f_dworth_of_word)
    {f_dworth_of_play : Addr} (a_dworth_of_play : PySem.W.nsIn K mainGlobals "worth_of_play" = some (some (.ref f_dworth_of_play)))
    (l_dworth_of_play : FnAt K "worth_of_play" "worth_of_play" s_worth_of_play f_dworth_of_play)
    {f_dletters_on : Addr} (a_dletters_on : PySem.W.nsIn K mainGlobals "letters_on" = some (some (.ref f_dletters_on)))
    (l_dletters_on : FnAt K "letters_on" "letters_on" s_letters_on f_dletters_on)
    {f_dtell_count : Addr} (a_dtell_count : PySem.W.nsIn K mainGlobals "tell_count" = some (some (.ref f_dtell_count)))
    (l_dtell_count : FnAt K "tell_count" "tell_count" s_tell_count f_dtell_count)
    {f_dis_game : Addr} (a_dis_game : PySem.W.nsIn K mainGlobals "is_game" = some (some (.ref f_dis_game)))
    (l_dis_game : FnAt K "is_game" "is_game" s_is_game f_dis_game)
    {f_dbegin : Addr} (a_dbegin : PySem.W.nsIn K mainGlobals "begin" = some (some (.ref f_dbegin)))
    (l_dbegin : FnAt K "begin" "begin" s_begin f_dbegin)
    {f_dword : Addr} (a_dword : PySem.W.nsIn K mainGlobals "word" = some (some (.ref f_dword)))
    (l_dword : FnAt K "word" "word" s_word f_dword)
    {f_dawait_play : Addr} (a_dawait_play : PySem.W.nsIn K mainGlobals "await_play" = some (some (.ref f_dawait_play)))
    (l_dawait_play : FnAt K "await_play" "await_play" s_await_play f_dawait_play)
    {f_dend_game : Addr} (a_dend_game : PySem.W.nsIn K mainGlobals "end_game" = some (some (.ref f_dend_game)))
    (l_dend_game : FnAt K "end_game" "end_game" s_end_game f_dend_game)
    {f_dgo_to_next : Addr} (a_dgo_to_next : PySem.W.nsIn K mainGlobals "go_to_next" = some (some (.ref f_dgo_to_next)))
    (l_dgo_to_next : FnAt K "go_to_next" "go_to_next" s_go_to_next f_dgo_to_next)
    {f_dis_played_out : Addr} (a_dis_played_out : PySem.W.nsIn K mainGlobals "is_played_out" = some (some (.ref f_dis_played_out)))
    (l_dis_played_out : FnAt K "is_played_out" "is_played_out" s_is_played_out f_dis_played_out)
    {f_dend_turn : Addr} (a_dend_turn : PySem.W.nsIn K mainGlobals "end_turn" = some (some (.ref f_dend_turn)))
    (l_dend_turn : FnAt K "end_turn" "end_turn" s_end_turn f_dend_turn)
    {f_dfollow_first_draw : Addr} (a_dfollow_first_draw : PySem.W.nsIn K mainGlobals "follow_first_draw" = some (some (.ref f_dfollow_first_draw)))
    (l_dfollow_first_draw : FnAt K "follow_first_draw" "follow_first_draw" s_follow_first_draw f_dfollow_first_draw)
    {f_dfollow_draw : Addr} (a_dfollow_draw : PySem.W.nsIn K mainGlobals "follow_draw" = some (some (.ref f_dfollow_draw)))
    (l_dfollow_draw : FnAt K "follow_draw" "follow_draw" s_follow_draw f_dfollow_draw)
    {f_dis_in_bag : Addr} (a_dis_in_bag : PySem.W.nsIn K mainGlobals "is_in_bag" = some (some (.ref f_dis_in_bag)))
    (l_dis_in_bag : FnAt K "is_in_bag" "is_in_bag" s_is_in_bag f_dis_in_bag)
    {f_dstanding : Addr} (a_dstanding : PySem.W.nsIn K mainGlobals "standing" = some (some (.ref f_dstanding)))
    (l_dstanding : FnAt K "standing" "standing" s_standing f_dstanding)
    {f_ddraw : Addr} (a_ddraw : PySem.W.nsIn K mainGlobals "draw" = some (some (.ref f_ddraw)))
    (l_ddraw : FnAt K "draw" "draw" s_draw f_ddraw)
    {f_dput_on_board : Addr} (a_dput_on_board : PySem.W.nsIn K mainGlobals "put_on_board" = some (some (.ref f_dput_on_board)))
    (l_dput_on_board : FnAt K "put_on_board" "put_on_board" s_put_on_board f_dput_on_board)
    {f_dis_in_hand : Addr} (a_dis_in_hand : PySem.W.nsIn K mainGlobals "is_in_hand" = some (some (.ref f_dis_in_hand)))
    (l_dis_in_hand : FnAt K "is_in_hand" "is_in_hand" s_is_in_hand f_dis_in_hand)
    {f_dplay : Addr} (a_dplay : PySem.W.nsIn K mainGlobals "play" = some (some (.ref f_dplay)))
    (l_dplay : FnAt K "play" "play" s_play f_dplay)
    {f_dunlisted_words : Addr} (a_dunlisted_words : PySem.W.nsIn K mainGlobals "unlisted_words" = some (some (.ref f_dunlisted_words)))
    (l_dunlisted_words : FnAt K "unlisted_words" "unlisted_words" s_unlisted_words f_dunlisted_words)
    {f_dtake_back : Addr} (a_dtake_back : PySem.W.nsIn K mainGlobals "take_back" = some (some (.ref f_dtake_back)))
    (l_dtake_back : FnAt K "take_back" "take_back" s_take_back f_dtake_back)
    {f_dchallenge : Addr} (a_dchallenge : PySem.W.nsIn K mainGlobals "challenge" = some (some (.ref f_dchallenge)))
    (l_dchallenge : FnAt K "challenge" "challenge" s_challenge f_dchallenge)
    {f_dswap : Addr} (a_dswap : PySem.W.nsIn K mainGlobals "swap" = some (some (.ref f_dswap)))
    (l_dswap : FnAt K "swap" "swap" s_swap f_dswap)
    {f_dpass_turn : Addr} (a_dpass_turn : PySem.W.nsIn K mainGlobals "pass_turn" = some (some (.ref f_dpass_turn)))
    (l_dpass_turn : FnAt K "pass_turn" "pass_turn" s_pass_turn f_dpass_turn)
    {f_dtell_now : Addr} (a_dtell_now : PySem.W.nsIn K mainGlobals "tell_now" = some (some (.ref f_dtell_now)))
    (l_dtell_now : FnAt K "tell_now" "tell_now" s_tell_now f_dtell_now)
    {f_dtell_hand : Addr} (a_dtell_hand : PySem.W.nsIn K mainGlobals "tell_hand" = some (some (.ref f_dtell_hand)))
    (l_dtell_hand : FnAt K "tell_hand" "tell_hand" s_tell_hand f_dtell_hand)
    {f_dtell_board : Addr} (a_dtell_board : PySem.W.nsIn K mainGlobals "tell_board" = some (some (.ref f_dtell_board)))
    (l_dtell_board : FnAt K "tell_board" "tell_board" s_tell_board f_dtell_board)
    {f_danswer : Addr} (a_danswer : PySem.W.nsIn K mainGlobals "answer" = some (some (.ref f_danswer)))
    (l_danswer : FnAt K "answer" "answer" s_answer f_danswer)
    {f_dend_of_list : Addr} (a_dend_of_list : PySem.W.nsIn K mainGlobals "end_of_list" = some (some (.ref f_dend_of_list)))
    (l_dend_of_list : FnAt K "end_of_list" "end_of_list" s_end_of_list f_dend_of_list)
    {f_danswers : Addr} (a_danswers : PySem.W.nsIn K mainGlobals "answers" = some (some (.ref f_danswers)))
    (l_danswers : FnAt K "answers" "answers" s_answers f_danswers)
    {f_dI f_dS : Addr} (a_dI : PySem.W.findIn K (.ref C) "__init__" = some (some (.ref f_dI))) (x_dI : PySem.W.isFn K (.ref f_dI) = true)
    (l_dI : FnAt K "__init__" "Game.__init__" s_Game___init__ f_dI)
    (a_dS : PySem.W.findIn K (.ref C) "set_up" = some (some (.ref f_dS))) (x_dS : PySem.W.isFn K (.ref f_dS) = true)
    (l_dS : FnAt K "set_up" "Game.set_up" s_Game_set_up f_dS)
    (mk : PySem.W.makesIn K C = true) (kc : PySem.W.keepIn K (.ref C) = true) :
    ∃ fd : FuncData, (∀ (s : Shared) (us : List Value), us.length = (["calls"] : List Str).length → BindsTo s fd ⟨us, []⟩ ((["calls"] : List Str).zip us)) ∧ ∀ base : Heap, K.In base → base.Ns mainGlobals mg → FnOk P w K mg base CX0 7 fa fd ["calls"] (spAns K) := by
  have e := hfa.symm.trans (PySem.W.mg_of X G a_danswers)
  cases e
  have T : Txt K mg ⟨lt, wt, fm, C⟩ := by
    refine ⟨PySem.W.mg_none_of X G n_len, PySem.W.mg_none_of X G n_sum, PySem.W.mg_none_of X G n_any, PySem.W.mg_none_of X G n_all, PySem.W.mg_none_of X G n_min, PySem.W.mg_none_of X G n_max, PySem.W.mg_none_of X G n_abs, PySem.W.mg_none_of X G n_list, PySem.W.mg_none_of X G n_tuple, PySem.W.mg_none_of X G n_range, PySem.W.mg_none_of X G n_zip, glob_int X G c_LETTERS, glob_int X G c_FULL_PLAY, glob_int X G c_FULL_PLAY_MORE, glob_ref X G aL, glob_ref X G aW, fun H => tupI_at lL iL H, fun H => tupI_at lW iW H, glob_int X G c_DRAWING, glob_int X G c_PLAYING, glob_int X G c_CHALLENGING, glob_int X G c_OVER, glob_int X G c_HAND_SIZE, glob_int X G c_IDLE_LIMIT, glob_int X G c_SORTS, glob_int X G c_MOST_WORDS, glob_int X G c_SWAP_NEEDS, ⟨pg, hd, po, sa⟩, fun f hf => ?_, glob_ref X G aF, fun p n k hs => ?_, PySem.W.mg_of X G aC⟩
    · simp only [fieldNames, List.mem_cons, List.not_mem_nil, or_false] at hf
      rcases hf with rfl | rfl | rfl | rfl | rfl | rfl | rfl | rfl | rfl | rfl | rfl | rfl | rfl | rfl | rfl | rfl | rfl | rfl
      · exact f_rows
      · exact f_players
      · exact f_worths
      · exact f_bag
      · exact f_squares
      · exact f_board
      · exact f_hands
      · exact f_points
      · exact f_lost
      · exact f_words
      · exact f_phase
      · exact f_turn
      · exact f_due
      · exact f_aside
      · exact f_laid
      · exact f_down
      · exact f_counted
      · exact f_idle
    · unfold PyKg82.shape at hs
      by_cases e1 : p = 1
      · subst e1
        rw [if_pos rfl] at hs
        cases hs
        exact ⟨_, dict_get lF iF d1, tupI_at l1 i1⟩
      rw [if_neg e1] at hs
      by_cases e2 : p = 2
      · subst e2
        rw [if_pos rfl] at hs
        cases hs
        exact ⟨_, dict_get lF iF d2, tupI_at l2 i2⟩
      rw [if_neg e2] at hs
      by_cases e3 : p = 3
      · subst e3
        rw [if_pos rfl] at hs
        cases hs
        exact ⟨_, dict_get lF iF d3, tupI_at l3 i3⟩
      rw [if_neg e3] at hs
      by_cases e4 : p = 4
      · subst e4
        rw [if_pos rfl] at hs
        cases hs
        exact ⟨_, dict_get lF iF d4, tupI_at l4 i4⟩
      rw [if_neg e4] at hs
      by_cases e5 : p = 5
      · subst e5
        rw [if_pos rfl] at hs
        cases hs
        exact ⟨_, dict_get lF iF d5, tupI_at l5 i5⟩
      rw [if_neg e5] at hs
      by_cases e6 : p = 6
      · subst e6
        rw [if_pos rfl] at hs
        cases hs
        exact ⟨_, dict_get lF iF d6, tupI_at l6 i6⟩
      rw [if_neg e6] at hs
      by_cases e7 : p = 7
      · subst e7
        rw [if_pos rfl] at hs
        cases hs
        exact ⟨_, dict_get lF iF d7, tupI_at l7 i7⟩
      rw [if_neg e7] at hs
      by_cases e8 : p = 8
      · subst e8
        rw [if_pos rfl] at hs
        cases hs
        exact ⟨_, dict_get lF iF d8, tupI_at l8 i8⟩
      rw [if_neg e8] at hs
      by_cases e9 : p = 9
      · subst e9
        rw [if_pos rfl] at hs
        cases hs
        exact ⟨_, dict_get lF iF d9, tupI_at l9 i9⟩
      rw [if_neg e9] at hs
      by_cases e10 : p = 10
      · subst e10
        rw [if_pos rfl] at hs
        cases hs
        exact ⟨_, dict_get lF iF d10, tupI_at l10 i10⟩
      rw [if_neg e10] at hs
      by_cases e11 : p = 11
      · subst e11
        rw [if_pos rfl] at hs
        cases hs
        exact ⟨_, dict_get lF iF d11, tupI_at l11 i11⟩
      rw [if_neg e11] at hs
      cases hs
  have F_neighbours : FunAt K mg "neighbours" s_neighbours P_neighbours := funAt_mk X G a_dneighbours l_dneighbours (bnd2 fun _ _ _ _ _ _ _ _ => rfl)
  have F_touches : FunAt K mg "touches" s_touches P_touches := funAt_mk X G a_dtouches l_dtouches (bnd3 fun _ _ _ _ _ _ _ _ _ => rfl)
  have F_is_tied : FunAt K mg "is_tied" s_is_tied P_is_tied := funAt_mk X G a_dis_tied l_dis_tied (bnd3 fun _ _ _ _ _ _ _ _ _ => rfl)
  have F_line_from : FunAt K mg "line_from" s_line_from P_line_from := funAt_mk X G a_dline_from l_dline_from (bnd4 fun _ _ _ _ _ _ _ _ _ _ => rfl)
  have F_run_through : FunAt K mg "run_through" s_run_through P_run_through := funAt_mk X G a_drun_through l_drun_through (bnd4 fun _ _ _ _ _ _ _ _ _ _ => rfl)
  have F_words_of : FunAt K mg "words_of" s_words_of P_words_of := funAt_mk X G a_dwords_of l_dwords_of (bnd4 fun _ _ _ _ _ _ _ _ _ _ => rfl)
  have F_board_with : FunAt K mg "board_with" s_board_with P_board_with := funAt_mk X G a_dboard_with l_dboard_with (bnd3 fun _ _ _ _ _ _ _ _ _ => rfl)
  have F_squares_for : FunAt K mg "squares_for" s_squares_for P_squares_for := funAt_mk X G a_dsquares_for l_dsquares_for (bnd6 fun _ _ _ _ _ _ _ _ _ _ _ _ => rfl)
  have F_all_within : FunAt K mg "all_within" s_all_within P_all_within := funAt_mk X G a_dall_within l_dall_within (bnd3 fun _ _ _ _ _ _ _ _ _ => rfl)
  have F_is_play : FunAt K mg "is_play" s_is_play P_is_play := funAt_mk X G a_dis_play l_dis_play (bnd5 fun _ _ _ _ _ _ _ _ _ _ _ => rfl)
  have F_face_of : FunAt K mg "face_of" s_face_of P_face_of := funAt_mk X G a_dface_of l_dface_of (bnd1 fun _ _ _ _ _ _ _ => rfl)
  have F_tile_of : FunAt K mg "tile_of" s_tile_of P_tile_of := funAt_mk X G a_dtile_of l_dtile_of (bnd1 fun _ _ _ _ _ _ _ => rfl)
  have F_worth_of_word : FunAt K mg "worth_of_word" s_worth_of_word P_worth_of_word := funAt_mk X G a_dworth_of_word l_dworth_of_word (bnd5 fun _ _ _ _ _ _ _ _ _ _ _ => rfl)
  have F_worth_of_play : FunAt K mg "worth_of_play" s_worth_of_play P_worth_of_play := funAt_mk X G a_dworth_of_play l_dworth_of_play (bnd5 fun _ _ _ _ _ _ _ _ _ _ _ => rfl)
  have F_letters_on : FunAt K mg "letters_on" s_letters_on P_letters_on := funAt_mk X G a_dletters_on l_dletters_on (bnd2 fun _ _ _ _ _ _ _ _ => rfl)
  have F_tell_count : FunAt K mg "tell_count" s_tell_count P_tell_count := funAt_mk X G a_dtell_count l_dtell_count (bnd5 fun _ _ _ _ _ _ _ _ _ _ _ => rfl)
  have F_is_game : FunAt K mg "is_game" s_is_game P_is_game := funAt_mk X G a_dis_game l_dis_game (bnd5 fun _ _ _ _ _ _ _ _ _ _ _ => rfl)
  have F_begin : FunAt K mg "begin" s_begin P_begin := funAt_mk X G a_dbegin l_dbegin (bnd6 fun _ _ _ _ _ _ _ _ _ _ _ _ => rfl)
  have F_word : FunAt K mg "word" s_word P_word := funAt_mk X G a_dword l_dword (bnd2 fun _ _ _ _ _ _ _ _ => rfl)
  have F_await_play : FunAt K mg "await_play" s_await_play P_await_play := funAt_mk X G a_dawait_play l_dawait_play (bnd1 fun _ _ _ _ _ _ _ => rfl)
  have F_end_game : FunAt K mg "end_game" s_end_game P_end_game := funAt_mk X G a_dend_game l_dend_game (bnd1 fun _ _ _ _ _ _ _ => rfl)
  have F_go_to_next : FunAt K mg "go_to_next" s_go_to_next P_go_to_next := funAt_mk X G a_dgo_to_next l_dgo_to_next (bnd1 fun _ _ _ _ _ _ _ => rfl)
  have F_is_played_out : FunAt K mg "is_played_out" s_is_played_out P_is_played_out := funAt_mk X G a_dis_played_out l_dis_played_out (bnd1 fun _ _ _ _ _ _ _ => rfl)
  have F_end_turn : FunAt K mg "end_turn" s_end_turn P_end_turn := funAt_mk X G a_dend_turn l_dend_turn (bnd2 fun _ _ _ _ _ _ _ _ => rfl)
  have F_follow_first_draw : FunAt K mg "follow_first_draw" s_follow_first_draw P_follow_first_draw := funAt_mk X G a_dfollow_first_draw l_dfollow_first_draw (bnd1 fun _ _ _ _ _ _ _ => rfl)
  have F_follow_draw : FunAt K mg "follow_draw" s_follow_draw P_follow_draw := funAt_mk X G a_dfollow_draw l_dfollow_draw (bnd1 fun _ _ _ _ _ _ _ => rfl)
  have F_is_in_bag : FunAt K mg "is_in_bag" s_is_in_bag P_is_in_bag := funAt_mk X G a_dis_in_bag l_dis_in_bag (bnd2 fun _ _ _ _ _ _ _ _ => rfl)
  have F_standing : FunAt K mg "standing" s_standing P_standing := funAt_mk X G a_dstanding l_dstanding (bnd1 fun _ _ _ _ _ _ _ => rfl)
  have F_draw : FunAt K mg "draw" s_draw P_draw := funAt_mk X G a_ddraw l_ddraw (bnd2 fun _ _ _ _ _ _ _ _ => rfl)
  have F_put_on_board : FunAt K mg "put_on_board" s_put_on_board P_put_on_board := funAt_mk X G a_dput_on_board l_dput_on_board (bnd4 fun _ _ _ _ _ _ _ _ _ _ => rfl)
  have F_is_in_hand : FunAt K mg "is_in_hand" s_is_in_hand P_is_in_hand := funAt_mk X G a_dis_in_hand l_dis_in_hand (bnd2 fun _ _ _ _ _ _ _ _ => rfl)
  have F_play : FunAt K mg "play" s_play P_play := funAt_mk X G a_dplay l_dplay (bnd5 fun _ _ _ _ _ _ _ _ _ _ _ => rfl)
  have F_unlisted_words : FunAt K mg "unlisted_words" s_unlisted_words P_unlisted_words := funAt_mk X G a_dunlisted_words l_dunlisted_words (bnd1 fun _ _ _ _ _ _ _ => rfl)
  have F_take_back : FunAt K mg "take_back" s_take_back P_take_back := funAt_mk X G a_dtake_back l_dtake_back (bnd1 fun _ _ _ _ _ _ _ => rfl)
  have F_challenge : FunAt K mg "challenge" s_challenge P_challenge := funAt_mk X G a_dchallenge l_dchallenge (bnd2 fun _ _ _ _ _ _ _ _ => rfl)
  have F_swap : FunAt K mg "swap" s_swap P_swap := funAt_mk X G a_dswap l_dswap (bnd2 fun _ _ _ _ _ _ _ _ => rfl)
  have F_pass_turn : FunAt K mg "pass_turn" s_pass_turn P_pass_turn := funAt_mk X G a_dpass_turn l_dpass_turn (bnd1 fun _ _ _ _ _ _ _ => rfl)
  have F_tell_now : FunAt K mg "tell_now" s_tell_now P_tell_now := funAt_mk X G a_dtell_now l_dtell_now (bnd1 fun _ _ _ _ _ _ _ => rfl)
  have F_tell_hand : FunAt K mg "tell_hand" s_tell_hand P_tell_hand := funAt_mk X G a_dtell_hand l_dtell_hand (bnd2 fun _ _ _ _ _ _ _ _ => rfl)
  have F_tell_board : FunAt K mg "tell_board" s_tell_board P_tell_board := funAt_mk X G a_dtell_board l_dtell_board (bnd1 fun _ _ _ _ _ _ _ => rfl)
  have F_answer : FunAt K mg "answer" s_answer P_answer := funAt_mk X G a_danswer l_danswer (bnd4 fun _ _ _ _ _ _ _ _ _ _ => rfl)
  have F_end_of_list : FunAt K mg "end_of_list" s_end_of_list P_end_of_list := funAt_mk X G a_dend_of_list l_dend_of_list (bnd2 fun _ _ _ _ _ _ _ _ => rfl)
  have FI : FunM K "__init__" "Game.__init__" s_Game___init__ P_Game___init__ f_dI := funM_mk l_dI (bnd1 fun _ _ _ _ _ _ _ => rfl)
  have FS : FunM K "set_up" "Game.set_up" s_Game_set_up P_Game_set_up f_dS := funM_mk l_dS (bnd6 fun _ _ _ _ _ _ _ _ _ _ _ _ => rfl)
  obtain ⟨_, _, _, _, _, _, _, _, _, lA, cA, kA⟩ := l_danswers
  refine ⟨_, fun s us hu => match us, hu with | [_], _ => .of_eq rfl, fun base _ _ => all_has T F_neighbours F_touches F_is_tied F_line_from F_run_through F_words_of F_board_with F_squares_for F_all_within F_is_play F_face_of F_tile_of F_worth_of_word F_worth_of_play F_letters_on F_tell_count F_is_game F_begin F_word F_await_play F_end_game F_go_to_next F_is_played_out F_end_turn F_follow_first_draw F_follow_draw F_is_in_bag F_standing F_draw F_put_on_board F_is_in_hand F_play F_unlisted_words F_take_back F_challenge F_swap F_pass_turn F_tell_now F_tell_hand F_tell_board F_answer F_end_of_list FI ⟨mk, a_dI, x_dI, kc⟩ FS ⟨a_dS, x_dS, l_dS.kp⟩ (fun_mk lA cA kA)⟩
end Tw
/-! The head lays a quicker twin beside its own constants; these names are taken, so that it leaves those fourteen out (their equations would be 26 MB of the compiled file). -/
def PySem.W.Fast.tw1736625968574694462 : Nat := 0
def PySem.W.Fast.tw2985035874231079590 : Nat := 0
def PySem.W.Fast.tw17998900635150295451 : Nat := 0
def PySem.W.Fast.tw14399052372451787380 : Nat := 0
def PySem.W.Fast.tw7824594310249531505 : Nat := 0
def PySem.W.Fast.tw10239164162075123613 : Nat := 0
def PySem.W.Fast.tw7031794952562704537 : Nat := 0
def PySem.W.Fast.tw6181624661784260710 : Nat := 0
def PySem.W.Fast.tw9222043143786594602 : Nat := 0
def PySem.W.Fast.tw2421879361492343094 : Nat := 0
def PySem.W.Fast.tw16089044521118585189 : Nat := 0
def PySem.W.Fast.tw2576216273902396064 : Nat := 0
def PySem.W.Fast.tw12229320294402206275 : Nat := 0
def PySem.W.Fast.tw3463870154860192962 : Nat := 0
open PySem PySem.W PyProof.Rows
set_option maxRecDepth 100000 in
set_option maxHeartbeats 0 in
theorem PySem.Challenge.cw_tilewords_s01_answers_holds : PySem.Challenge.rw_tilewords_s01_answers.Holds := by
  w_on; k_headS; (case hw => exact ⟨[.list [.int 8]], by decide +kernel, by decide +kernel⟩)
  k_fillS
  refine L2.walk_specK (r := PySem.Challenge.rw_tilewords_s01_answers) (k := 7) (CX := L2.CX0) (ps := ["calls"]) (sp := Tw.spAns) (by decide +kernel) rfl rfl ⟨rfl, by decide, by decide⟩ (fun w h Y => PySem.W.kIn_of Y) ?F ?S (fun _ _ _ _ z => z)
  case F =>
    intro w mg fa h Y KX G hmg
    refine' Tw.all_mk KX G hmg ?n_len ?n_sum ?n_any ?n_all ?n_min ?n_max ?n_abs ?n_list ?n_tuple ?n_range ?n_zip ?c_LETTERS ?c_FULL_PLAY ?c_FULL_PLAY_MORE ?c_DRAWING ?c_PLAYING ?c_CHALLENGING ?c_OVER ?c_HAND_SIZE ?c_IDLE_LIMIT ?c_SORTS ?c_MOST_WORDS ?c_SWAP_NEEDS ?aL ?lL ?iL ?aW ?lW ?iW ?aC ?pg ?hd ?po ?sa ?f_rows ?f_players ?f_worths ?f_bag ?f_squares ?f_board ?f_hands ?f_points ?f_lost ?f_words ?f_phase ?f_turn ?f_due ?f_aside ?f_laid ?f_down ?f_counted ?f_idle ?aF ?lF ?iF ?d1 ?l1 ?i1 ?d2 ?l2 ?i2 ?d3 ?l3 ?i3 ?d4 ?l4 ?i4 ?d5 ?l5 ?i5 ?d6 ?l6 ?i6 ?d7 ?l7 ?i7 ?d8 ?l8 ?i8 ?d9 ?l9 ?i9 ?d10 ?l10 ?i10 ?d11 ?l11 ?i11 ?a_dneighbours ?l_dneighbours ?a_dtouches ?l_dtouches ?a_dis_tied ?l_dis_tied ?a_dline_from ?l_dline_from ?a_drun_through ?l_drun_through ?a_dwords_of ?l_dwords_of ?a_dboard_with ?l_dboard_with ?a_dsquares_for ?l_dsquares_for ?a_dall_within ?l_dall_within ?a_dis_play ?l_dis_play ?a_dface_of ?l_dface_of ?a_dtile_of ?l_dtile_of ?a_dworth_of_word ?l_dworth_of_word ?a_dworth_of_play ?l_dworth_of_play ?a_dletters_on ?l_dletters_on ?a_dtell_count ?l_dtell_count ?a_dis_game ?l_dis_game ?a_dbegin ?l_dbegin ?a_dword ?l_dword ?a_dawait_play ?l_dawait_play ?a_dend_game ?l_dend_game ?a_dgo_to_next ?l_dgo_to_next ?a_dis_played_out ?l_dis_played_out ?a_dend_turn ?l_dend_turn ?a_dfollow_first_draw ?l_dfollow_first_draw ?a_dfollow_draw ?l_dfollow_draw ?a_dis_in_bag ?l_dis_in_bag ?a_dstanding ?l_dstanding ?a_ddraw ?l_ddraw ?a_dput_on_board ?l_dput_on_board ?a_dis_in_hand ?l_dis_in_hand ?a_dplay ?l_dplay ?a_dunlisted_words ?l_dunlisted_words ?a_dtake_back ?l_dtake_back ?a_dchallenge ?l_dchallenge ?a_dswap ?l_dswap ?a_dpass_turn ?l_dpass_turn ?a_dtell_now ?l_dtell_now ?a_dtell_hand ?l_dtell_hand ?a_dtell_board ?l_dtell_board ?a_danswer ?l_danswer ?a_dend_of_list ?l_dend_of_list ?a_danswers ?l_danswers ?a_dI ?x_dI ?l_dI ?a_dS ?x_dS ?l_dS ?mk ?kc
    (case n_len => k_is)
    (case n_sum => k_is)
    (case n_any => k_is)
    (case n_all => k_is)
    (case n_min => k_is)
    (case n_max => k_is)
    (case n_abs => k_is)
    (case n_list => k_is)
    (case n_tuple => k_is)
    (case n_range => k_is)
    (case n_zip => k_is)
    (case c_LETTERS => k_is)
    (case c_FULL_PLAY => k_is)
    (case c_FULL_PLAY_MORE => k_is)
    (case c_DRAWING => k_is)
    (case c_PLAYING => k_is)
    (case c_CHALLENGING => k_is)
    (case c_OVER => k_is)
    (case c_HAND_SIZE => k_is)
    (case c_IDLE_LIMIT => k_is)
    (case c_SORTS => k_is)
    (case c_MOST_WORDS => k_is)
    (case c_SWAP_NEEDS => k_is)
    (case aL => k_is)
    (case lL => k_is)
    (case iL => rfl)
    (case aW => k_is)
    (case lW => k_is)
    (case iW => rfl)
    (case aC => k_is)
    (case pg => k_is)
    (case hd => k_is)
    (case po => k_is)
    (case sa => k_is)
    (case f_rows => k_is)
    (case f_players => k_is)
    (case f_worths => k_is)
    (case f_bag => k_is)
    (case f_squares => k_is)
    (case f_board => k_is)
    (case f_hands => k_is)
    (case f_points => k_is)
    (case f_lost => k_is)
    (case f_words => k_is)
    (case f_phase => k_is)
    (case f_turn => k_is)
    (case f_due => k_is)
    (case f_aside => k_is)
    (case f_laid => k_is)
    (case f_down => k_is)
    (case f_counted => k_is)
    (case f_idle => k_is)
    (case aF => k_is)
    (case lF => k_is)
    (case iF => decide +kernel)
    (case d1 => rfl)
    (case l1 => k_is)
    (case i1 => rfl)
    (case d2 => rfl)
    (case l2 => k_is)
    (case i2 => rfl)
    (case d3 => rfl)
    (case l3 => k_is)
    (case i3 => rfl)
    (case d4 => rfl)
    (case l4 => k_is)
    (case i4 => rfl)
    (case d5 => rfl)
    (case l5 => k_is)
    (case i5 => rfl)
    (case d6 => rfl)
    (case l6 => k_is)
    (case i6 => rfl)
    (case d7 => rfl)
    (case l7 => k_is)
    (case i7 => rfl)
    (case d8 => rfl)
    (case l8 => k_is)
    (case i8 => rfl)
    (case d9 => rfl)
    (case l9 => k_is)
    (case i9 => rfl)
    (case d10 => rfl)
    (case l10 => k_is)
    (case i10 => rfl)
    (case d11 => rfl)
    (case l11 => k_is)
    (case i11 => rfl)
    (case a_dneighbours => k_is)
    (case l_dneighbours => exact Tw.fnAt_mk (by k_is) (by k_is) (by k_is))
    (case a_dtouches => k_is)
    (case l_dtouches => exact Tw.fnAt_mk (by k_is) (by k_is) (by k_is))
    (case a_dis_tied => k_is)
    (case l_dis_tied => exact Tw.fnAt_mk (by k_is) (by k_is) (by k_is))
    (case a_dline_from => k_is)
    (case l_dline_from => exact Tw.fnAt_mk (by k_is) (by k_is) (by k_is))
    (case a_drun_through => k_is)
    (case l_drun_through => exact Tw.fnAt_mk (by k_is) (by k_is) (by k_is))
    (case a_dwords_of => k_is)
    (case l_dwords_of => exact Tw.fnAt_mk (by k_is) (by k_is) (by k_is))
    (case a_dboard_with => k_is)
    (case l_dboard_with => exact Tw.fnAt_mk (by k_is) (by k_is) (by k_is))
    (case a_dsquares_for => k_is)
    (case l_dsquares_for => exact Tw.fnAt_mk (by k_is) (by k_is) (by k_is))
    (case a_dall_within => k_is)
    (case l_dall_within => exact Tw.fnAt_mk (by k_is) (by k_is) (by k_is))
    (case a_dis_play => k_is)
    (case l_dis_play => exact Tw.fnAt_mk (by k_is) (by k_is) (by k_is))
    (case a_dface_of => k_is)
    (case l_dface_of => exact Tw.fnAt_mk (by k_is) (by k_is) (by k_is))
    (case a_dtile_of => k_is)
    (case l_dtile_of => exact Tw.fnAt_mk (by k_is) (by k_is) (by k_is))
    (case a_dworth_of_word => k_is)
    (case l_dworth_of_word => exact Tw.fnAt_mk (by k_is) (by k_is) (by k_is))
    (case a_dworth_of_play => k_is)
    (case l_dworth_of_play => exact Tw.fnAt_mk (by k_is) (by k_is) (by k_is))
    (case a_dletters_on => k_is)
    (case l_dletters_on => exact Tw.fnAt_mk (by k_is) (by k_is) (by k_is))
    (case a_dtell_count => k_is)
    (case l_dtell_count => exact Tw.fnAt_mk (by k_is) (by k_is) (by k_is))
    (case a_dis_game => k_is)
    (case l_dis_game => exact Tw.fnAt_mk (by k_is) (by k_is) (by k_is))
    (case a_dbegin => k_is)
    (case l_dbegin => exact Tw.fnAt_mk (by k_is) (by k_is) (by k_is))
    (case a_dword => k_is)
    (case l_dword => exact Tw.fnAt_mk (by k_is) (by k_is) (by k_is))
    (case a_dawait_play => k_is)
    (case l_dawait_play => exact Tw.fnAt_mk (by k_is) (by k_is) (by k_is))
    (case a_dend_game => k_is)
    (case l_dend_game => exact Tw.fnAt_mk (by k_is) (by k_is) (by k_is))
    (case a_dgo_to_next => k_is)
    (case l_dgo_to_next => exact Tw.fnAt_mk (by k_is) (by k_is) (by k_is))
    (case a_dis_played_out => k_is)
    (case l_dis_played_out => exact Tw.fnAt_mk (by k_is) (by k_is) (by k_is))
    (case a_dend_turn => k_is)
    (case l_dend_turn => exact Tw.fnAt_mk (by k_is) (by k_is) (by k_is))
    (case a_dfollow_first_draw => k_is)
    (case l_dfollow_first_draw => exact Tw.fnAt_mk (by k_is) (by k_is) (by k_is))
    (case a_dfollow_draw => k_is)
    (case l_dfollow_draw => exact Tw.fnAt_mk (by k_is) (by k_is) (by k_is))
    (case a_dis_in_bag => k_is)
    (case l_dis_in_bag => exact Tw.fnAt_mk (by k_is) (by k_is) (by k_is))
    (case a_dstanding => k_is)
    (case l_dstanding => exact Tw.fnAt_mk (by k_is) (by k_is) (by k_is))
    (case a_ddraw => k_is)
    (case l_ddraw => exact Tw.fnAt_mk (by k_is) (by k_is) (by k_is))
    (case a_dput_on_board => k_is)
    (case l_dput_on_board => exact Tw.fnAt_mk (by k_is) (by k_is) (by k_is))
    (case a_dis_in_hand => k_is)
    (case l_dis_in_hand => exact Tw.fnAt_mk (by k_is) (by k_is) (by k_is))
    (case a_dplay => k_is)
    (case l_dplay => exact Tw.fnAt_mk (by k_is) (by k_is) (by k_is))
    (case a_dunlisted_words => k_is)
    (case l_dunlisted_words => exact Tw.fnAt_mk (by k_is) (by k_is) (by k_is))
    (case a_dtake_back => k_is)
    (case l_dtake_back => exact Tw.fnAt_mk (by k_is) (by k_is) (by k_is))
    (case a_dchallenge => k_is)
    (case l_dchallenge => exact Tw.fnAt_mk (by k_is) (by k_is) (by k_is))
    (case a_dswap => k_is)
    (case l_dswap => exact Tw.fnAt_mk (by k_is) (by k_is) (by k_is))
    (case a_dpass_turn => k_is)
    (case l_dpass_turn => exact Tw.fnAt_mk (by k_is) (by k_is) (by k_is))
    (case a_dtell_now => k_is)
    (case l_dtell_now => exact Tw.fnAt_mk (by k_is) (by k_is) (by k_is))
    (case a_dtell_hand => k_is)
    (case l_dtell_hand => exact Tw.fnAt_mk (by k_is) (by k_is) (by k_is))
    (case a_dtell_board => k_is)
    (case l_dtell_board => exact Tw.fnAt_mk (by k_is) (by k_is) (by k_is))
    (case a_danswer => k_is)
    (case l_danswer => exact Tw.fnAt_mk (by k_is) (by k_is) (by k_is))
    (case a_dend_of_list => k_is)
    (case l_dend_of_list => exact Tw.fnAt_mk (by k_is) (by k_is) (by k_is))
    (case a_danswers => k_is)
    (case l_danswers => exact Tw.fnAt_mk (by k_is) (by k_is) (by k_is))
    (case a_dI => k_is)
    (case x_dI => k_is)
    (case l_dI => exact Tw.fnAt_mk (by k_is) (by k_is) (by k_is))
    (case a_dS => k_is)
    (case x_dS => k_is)
    (case l_dS => exact Tw.fnAt_mk (by k_is) (by k_is) (by k_is))
    (case mk => k_is)
    (case kc => k_is)
  case S =>
    intro K H xs a hO hwi hask hx
    cases hx with
    | cons h1 h2 =>
      cases h2
      cases h1 with
      | lst hs ha =>
        have e := L2.ints_dw a.1 _ ha
        subst e
        have q : ((Codec.inLen 0 31000 a.1 && a.1.all (Codec.inInt (-2147483648) 2147483647)) && true) = true := hwi
        rw [Bool.and_eq_true, Bool.and_eq_true] at q
        exact ⟨_, a.1, rfl, hs, (Codec.inNat_iff.mp q.1.1).2, hask, fun H' p hp => .lst (L2.SqL.of hp) (L2.dw_ints _)⟩
#print axioms PySem.Challenge.cw_tilewords_s01_answers_holds
